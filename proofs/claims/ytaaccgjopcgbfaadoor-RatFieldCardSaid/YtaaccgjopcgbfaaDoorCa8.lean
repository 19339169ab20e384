/- Part 8 of the texts beneath a law of layer 1: RatD, NbK, NearK, RtNew, RatM, Known, FieldC, FieldA. -/
import Derived.Test.YtaaccgjopcgbfaaDoorCa7
import Derived.BigQuiet
import Derived.Deep.DeepCutAuto
/- Sum, difference, product and quotient of numbers, as they are told. -/
namespace Go.Proofs.YtaaccgjopcgbfaaDoor
open Go.RowKit

theorem okR_sz {n d : Int} (h : Wd.okR n d) : SzQ 1 (Wd.qR n d) := by
  obtain ⟨e1, e2⟩ := Wd.qR_ok h
  obtain ⟨h1, h2, h3, h4, _⟩ := h
  have B : (1000000000000 : Nat) < B64 := by rw [B64_eq]; omega
  exact ⟨by rw [e1]; exact Wd.Sz.of_le (by omega) B64_pos (Nat.le_refl _), by rw [e2]; exact Wd.Sz.of_le (by omega) B64_pos (Nat.le_refl _)⟩
theorem lim3 : 1 + 1 + 1 ≤ lim := by unfold lim; omega
theorem comb_add (n1 d1 n2 d2 : Int) (w : World) (hT : Tab w) : Calls Tryd.prog 64 #[(Value.agg #[.int .i64 n1, .int .i64 d1]), (Value.agg #[.int .i64 n2, .int .i64 d2]), Value.func (Fn.func 62) #[] #[]] w fun e w' => TolR w (Wd.addR n1 d1 n2 d2) e w' := by
  unfold Wd.addR Wd.two
  by_cases ok : Wd.okR n1 d1 ∧ Wd.okR n2 d2
  · rw [if_pos ok]
    exact comb_add_good n1 d1 n2 d2 w hT ok _ (opq_add hT _ _ (okR_sz ok.1) (okR_sz ok.2) lim3).1
  · rw [if_neg ok]
    exact comb_add_bad n1 d1 n2 d2 w hT ok
set_option maxRecDepth 100000 in
set_option maxHeartbeats 16000000 in
theorem ratAdd_any (n1 d1 n2 d2 : Int) (w : World) (hT : Tab w) : Calls Tryd.prog 26 #[(Value.agg #[.int .i64 n1, .int .i64 d1]), (Value.agg #[.int .i64 n2, .int .i64 d2])] w fun e w' => TolR w (Wd.addR n1 d1 n2 d2) e w' := by
  have HC := hide (fun W (hW : Tab W) => comb_add n1 d1 n2 d2 W hW)
  have HT := hide hT
  obtain ⟨t, ht⟩ : ∃ t, t = Wd.addR n1 d1 n2 d2 := ⟨_, rfl⟩
  rw [← ht] at HC ⊢
  clear ht hT
  go_enter Tryd.func26, Tryd.ntmps26
  go_wp2_with fail
  obtain ⟨n0_, n1_, n2_, hsz, hw0⟩ := three_new w (.cells #[.int .i64 n1, .int .i64 d1] 23) (.cells #[.int .i64 n2, .int .i64 d2] 23) (.cells #[.int .i64 0, .int .i64 0] 23)
  generalize (((w.alloc (.cells #[.int .i64 n1, .int .i64 d1] 23)).alloc (.cells #[.int .i64 n2, .int .i64 d2] 23)).alloc (.cells #[.int .i64 0, .int .i64 0] 23)) = W0 at *
  have k2_0 : W0.cell? ⟨w.heap.size + 1 + 1, 0, none⟩ = some (.int .i64 0) := cells_of n2_ 0
  have k2_1 : W0.cell? ⟨w.heap.size + 1 + 1, 1, none⟩ = some (.int .i64 0) := cells_of n2_ 1
  have q2 : w.heap.size + 1 + 1 < W0.heap.size := by omega
  have f2_0 := unfrozen_of n2_ 0
  have f2_1 := unfrozen_of n2_ 1
  clear n0_ n1_ n2_ hsz
  refine ((unhide HC) _ ((unhide HT).below hw0)).mono ?_
  rintro e w' ⟨rfl, hb⟩
  obtain ⟨hc, hfz⟩ := bcell hb
  have hb9 : Below w.heap.size w w' := below_step' hw0 hb
  go_wp2_with fail
  exact bodyPost_ret (v := .tuple #[.agg #[.int .i64 t.n, .int .i64 t.d], .int .i64 t.e]) (by simp [results, Tryd.results26, go_sem, hc, k2_0, k2_1, q2]) rfl
    ⟨rfl, hb9.grown (set2_grown _ _ _ _) hb9.size (fun k hk => by injection hk with hk; omega)⟩
theorem comb_sub (n1 d1 n2 d2 : Int) (w : World) (hT : Tab w) : Calls Tryd.prog 64 #[(Value.agg #[.int .i64 n1, .int .i64 d1]), (Value.agg #[.int .i64 n2, .int .i64 d2]), Value.func (Fn.func 50) #[] #[]] w fun e w' => TolR w (Wd.subR n1 d1 n2 d2) e w' := by
  unfold Wd.subR Wd.two
  by_cases ok : Wd.okR n1 d1 ∧ Wd.okR n2 d2
  · rw [if_pos ok]
    exact comb_sub_good n1 d1 n2 d2 w hT ok _ (opq_sub hT _ _ (okR_sz ok.1) (okR_sz ok.2) lim3).1
  · rw [if_neg ok]
    exact comb_sub_bad n1 d1 n2 d2 w hT ok
set_option maxRecDepth 100000 in
set_option maxHeartbeats 16000000 in
theorem ratSub_any (n1 d1 n2 d2 : Int) (w : World) (hT : Tab w) : Calls Tryd.prog 27 #[(Value.agg #[.int .i64 n1, .int .i64 d1]), (Value.agg #[.int .i64 n2, .int .i64 d2])] w fun e w' => TolR w (Wd.subR n1 d1 n2 d2) e w' := by
  have HC := hide (fun W (hW : Tab W) => comb_sub n1 d1 n2 d2 W hW)
  have HT := hide hT
  obtain ⟨t, ht⟩ : ∃ t, t = Wd.subR n1 d1 n2 d2 := ⟨_, rfl⟩
  rw [← ht] at HC ⊢
  clear ht hT
  go_enter Tryd.func27, Tryd.ntmps27
  go_wp2_with fail
  obtain ⟨n0_, n1_, n2_, hsz, hw0⟩ := three_new w (.cells #[.int .i64 n1, .int .i64 d1] 23) (.cells #[.int .i64 n2, .int .i64 d2] 23) (.cells #[.int .i64 0, .int .i64 0] 23)
  generalize (((w.alloc (.cells #[.int .i64 n1, .int .i64 d1] 23)).alloc (.cells #[.int .i64 n2, .int .i64 d2] 23)).alloc (.cells #[.int .i64 0, .int .i64 0] 23)) = W0 at *
  have k2_0 : W0.cell? ⟨w.heap.size + 1 + 1, 0, none⟩ = some (.int .i64 0) := cells_of n2_ 0
  have k2_1 : W0.cell? ⟨w.heap.size + 1 + 1, 1, none⟩ = some (.int .i64 0) := cells_of n2_ 1
  have q2 : w.heap.size + 1 + 1 < W0.heap.size := by omega
  have f2_0 := unfrozen_of n2_ 0
  have f2_1 := unfrozen_of n2_ 1
  clear n0_ n1_ n2_ hsz
  refine ((unhide HC) _ ((unhide HT).below hw0)).mono ?_
  rintro e w' ⟨rfl, hb⟩
  obtain ⟨hc, hfz⟩ := bcell hb
  have hb9 : Below w.heap.size w w' := below_step' hw0 hb
  go_wp2_with fail
  exact bodyPost_ret (v := .tuple #[.agg #[.int .i64 t.n, .int .i64 t.d], .int .i64 t.e]) (by simp [results, Tryd.results27, go_sem, hc, k2_0, k2_1, q2]) rfl
    ⟨rfl, hb9.grown (set2_grown _ _ _ _) hb9.size (fun k hk => by injection hk with hk; omega)⟩
theorem comb_mul (n1 d1 n2 d2 : Int) (w : World) (hT : Tab w) : Calls Tryd.prog 64 #[(Value.agg #[.int .i64 n1, .int .i64 d1]), (Value.agg #[.int .i64 n2, .int .i64 d2]), Value.func (Fn.func 65) #[] #[]] w fun e w' => TolR w (Wd.mulR n1 d1 n2 d2) e w' := by
  unfold Wd.mulR Wd.two
  by_cases ok : Wd.okR n1 d1 ∧ Wd.okR n2 d2
  · rw [if_pos ok]
    exact comb_mul_good n1 d1 n2 d2 w hT ok _ (opq_mul hT _ _ (okR_sz ok.1) (okR_sz ok.2) lim3).1
  · rw [if_neg ok]
    exact comb_mul_bad n1 d1 n2 d2 w hT ok
set_option maxRecDepth 100000 in
set_option maxHeartbeats 16000000 in
theorem ratMul_any (n1 d1 n2 d2 : Int) (w : World) (hT : Tab w) : Calls Tryd.prog 28 #[(Value.agg #[.int .i64 n1, .int .i64 d1]), (Value.agg #[.int .i64 n2, .int .i64 d2])] w fun e w' => TolR w (Wd.mulR n1 d1 n2 d2) e w' := by
  have HC := hide (fun W (hW : Tab W) => comb_mul n1 d1 n2 d2 W hW)
  have HT := hide hT
  obtain ⟨t, ht⟩ : ∃ t, t = Wd.mulR n1 d1 n2 d2 := ⟨_, rfl⟩
  rw [← ht] at HC ⊢
  clear ht hT
  go_enter Tryd.func28, Tryd.ntmps28
  go_wp2_with fail
  obtain ⟨n0_, n1_, n2_, hsz, hw0⟩ := three_new w (.cells #[.int .i64 n1, .int .i64 d1] 23) (.cells #[.int .i64 n2, .int .i64 d2] 23) (.cells #[.int .i64 0, .int .i64 0] 23)
  generalize (((w.alloc (.cells #[.int .i64 n1, .int .i64 d1] 23)).alloc (.cells #[.int .i64 n2, .int .i64 d2] 23)).alloc (.cells #[.int .i64 0, .int .i64 0] 23)) = W0 at *
  have k2_0 : W0.cell? ⟨w.heap.size + 1 + 1, 0, none⟩ = some (.int .i64 0) := cells_of n2_ 0
  have k2_1 : W0.cell? ⟨w.heap.size + 1 + 1, 1, none⟩ = some (.int .i64 0) := cells_of n2_ 1
  have q2 : w.heap.size + 1 + 1 < W0.heap.size := by omega
  have f2_0 := unfrozen_of n2_ 0
  have f2_1 := unfrozen_of n2_ 1
  clear n0_ n1_ n2_ hsz
  refine ((unhide HC) _ ((unhide HT).below hw0)).mono ?_
  rintro e w' ⟨rfl, hb⟩
  obtain ⟨hc, hfz⟩ := bcell hb
  have hb9 : Below w.heap.size w w' := below_step' hw0 hb
  go_wp2_with fail
  exact bodyPost_ret (v := .tuple #[.agg #[.int .i64 t.n, .int .i64 t.d], .int .i64 t.e]) (by simp [results, Tryd.results28, go_sem, hc, k2_0, k2_1, q2]) rfl
    ⟨rfl, hb9.grown (set2_grown _ _ _ _) hb9.size (fun k hk => by injection hk with hk; omega)⟩
set_option maxRecDepth 100000 in
set_option maxHeartbeats 16000000 in
theorem ratDiv_bad (n1 d1 n2 d2 : Int) (w : World) (hT : Tab w) (hbad : ¬ (Wd.okR n1 d1 ∧ Wd.okR n2 d2)) :
    Calls Tryd.prog 29 #[(Value.agg #[.int .i64 n1, .int .i64 d1]), (Value.agg #[.int .i64 n2, .int .i64 d2])] w fun e w' => TolR w ⟨0, 0, 1⟩ e w' := by
  have HT := hide hT
  have HE := Lib.hid (show fstE n1 d1 n2 d2 = 1 from if_neg hbad)
  clear hT hbad
  go_enter Tryd.func29, Tryd.ntmps29
  go_wp2_with fail
  obtain ⟨n0_, n1_, n2_, hsz, hw0⟩ := three_new w (.cells #[.int .i64 n1, .int .i64 d1] 23) (.cells #[.int .i64 n2, .int .i64 d2] 23) (.cells #[.int .i64 0, .int .i64 0] 23)
  generalize (((w.alloc (.cells #[.int .i64 n1, .int .i64 d1] 23)).alloc (.cells #[.int .i64 n2, .int .i64 d2] 23)).alloc (.cells #[.int .i64 0, .int .i64 0] 23)) = W0 at *
  have k0_0 : W0.cell? ⟨w.heap.size, 0, none⟩ = some (.int .i64 n1) := cells_of n0_ 0
  have k0_1 : W0.cell? ⟨w.heap.size, 1, none⟩ = some (.int .i64 d1) := cells_of n0_ 1
  have q0 : w.heap.size < W0.heap.size := by omega
  have k1_0 : W0.cell? ⟨w.heap.size + 1, 0, none⟩ = some (.int .i64 n2) := cells_of n1_ 0
  have k1_1 : W0.cell? ⟨w.heap.size + 1, 1, none⟩ = some (.int .i64 d2) := cells_of n1_ 1
  have q1 : w.heap.size + 1 < W0.heap.size := by omega
  have k2_0 : W0.cell? ⟨w.heap.size + 1 + 1, 0, none⟩ = some (.int .i64 0) := cells_of n2_ 0
  have k2_1 : W0.cell? ⟨w.heap.size + 1 + 1, 1, none⟩ = some (.int .i64 0) := cells_of n2_ 1
  have q2 : w.heap.size + 1 + 1 < W0.heap.size := by omega
  have f2_0 := unfrozen_of n2_ 0
  have f2_1 := unfrozen_of n2_ 1
  have e3 : w.heap.size + 1 + 1 + 1 = W0.heap.size := by omega
  have e3' : w.heap.size + 3 = W0.heap.size := by omega
  clear hsz n0_ n1_ n2_
  try rw [e3]
  try rw [e3']
  clear e3 e3'
  have hnew := heap_alloc_new W0 (.cells #[.int .i64 n1, .int .i64 d1, .int .i64 n2, .int .i64 d2] 23)
  refine (first_any n1 d1 n2 d2 W0.heap.size _ (((unhide HT).below hw0).alloc _) (lt_of_block hnew) (cells_of hnew 0) (cells_of hnew 1) (cells_of hnew 2) (cells_of hnew 3)).mono ?_
  clear hnew
  rintro e W1 ⟨rfl, hb⟩
  have hbx := below_step' (w := W0) (below_alloc (Below.refl _ _) _) hb
  clear hb
  rw [HE.out]
  obtain ⟨hc, hfz⟩ := bcell hbx
  replace k0_0 := (hc _ _ q0).trans k0_0
  replace k0_1 := (hc _ _ q0).trans k0_1
  replace k1_0 := (hc _ _ q1).trans k1_0
  replace k1_1 := (hc _ _ q1).trans k1_1
  replace k2_0 := (hc _ _ q2).trans k2_0
  replace k2_1 := (hc _ _ q2).trans k2_1
  replace f2_0 := (hfz _ _ q2).trans f2_0
  replace f2_1 := (hfz _ _ q2).trans f2_1
  replace q0 := Nat.lt_of_lt_of_le q0 hbx.size
  replace q1 := Nat.lt_of_lt_of_le q1 hbx.size
  replace q2 := Nat.lt_of_lt_of_le q2 hbx.size
  replace hw0 := below_step' hw0 hbx
  clear hc hfz hbx
  go_wp2
  exact bodyPost_ret (v := .tuple #[.agg #[.int .i64 0, .int .i64 0], .int .i64 1]) (by simp [results, Tryd.results29, go_sem, k2_0, k2_1, q2]) rfl
    ⟨rfl, hw0.grown (set2_grown _ _ _ _) hw0.size (fun k hk => by injection hk with hk; omega)⟩
set_option maxRecDepth 100000 in
set_option maxHeartbeats 16000000 in
theorem ratDiv_zero (n1 d1 d2 : Int) (w : World) (hT : Tab w) (ok : Wd.okR n1 d1 ∧ Wd.okR 0 d2) :
    Calls Tryd.prog 29 #[(Value.agg #[.int .i64 n1, .int .i64 d1]), (Value.agg #[.int .i64 0, .int .i64 d2])] w fun e w' => TolR w ⟨0, 0, 4⟩ e w' := by
  have HT := hide hT
  have HE := Lib.hid (show fstE n1 d1 0 d2 = 0 from if_pos ok)
  clear hT ok
  go_enter Tryd.func29, Tryd.ntmps29
  go_wp2_with fail
  obtain ⟨n0_, n1_, n2_, hsz, hw0⟩ := three_new w (.cells #[.int .i64 n1, .int .i64 d1] 23) (.cells #[.int .i64 0, .int .i64 d2] 23) (.cells #[.int .i64 0, .int .i64 0] 23)
  generalize (((w.alloc (.cells #[.int .i64 n1, .int .i64 d1] 23)).alloc (.cells #[.int .i64 0, .int .i64 d2] 23)).alloc (.cells #[.int .i64 0, .int .i64 0] 23)) = W0 at *
  have k0_0 : W0.cell? ⟨w.heap.size, 0, none⟩ = some (.int .i64 n1) := cells_of n0_ 0
  have k0_1 : W0.cell? ⟨w.heap.size, 1, none⟩ = some (.int .i64 d1) := cells_of n0_ 1
  have q0 : w.heap.size < W0.heap.size := by omega
  have k1_0 : W0.cell? ⟨w.heap.size + 1, 0, none⟩ = some (.int .i64 0) := cells_of n1_ 0
  have k1_1 : W0.cell? ⟨w.heap.size + 1, 1, none⟩ = some (.int .i64 d2) := cells_of n1_ 1
  have q1 : w.heap.size + 1 < W0.heap.size := by omega
  have k2_0 : W0.cell? ⟨w.heap.size + 1 + 1, 0, none⟩ = some (.int .i64 0) := cells_of n2_ 0
  have k2_1 : W0.cell? ⟨w.heap.size + 1 + 1, 1, none⟩ = some (.int .i64 0) := cells_of n2_ 1
  have q2 : w.heap.size + 1 + 1 < W0.heap.size := by omega
  have f2_0 := unfrozen_of n2_ 0
  have f2_1 := unfrozen_of n2_ 1
  have e3 : w.heap.size + 1 + 1 + 1 = W0.heap.size := by omega
  have e3' : w.heap.size + 3 = W0.heap.size := by omega
  clear hsz n0_ n1_ n2_
  try rw [e3]
  try rw [e3']
  clear e3 e3'
  have hnew := heap_alloc_new W0 (.cells #[.int .i64 n1, .int .i64 d1, .int .i64 0, .int .i64 d2] 23)
  refine (first_any n1 d1 0 d2 W0.heap.size _ (((unhide HT).below hw0).alloc _) (lt_of_block hnew) (cells_of hnew 0) (cells_of hnew 1) (cells_of hnew 2) (cells_of hnew 3)).mono ?_
  clear hnew
  rintro e W1 ⟨rfl, hb⟩
  have hbx := below_step' (w := W0) (below_alloc (Below.refl _ _) _) hb
  clear hb
  rw [HE.out]
  obtain ⟨hc, hfz⟩ := bcell hbx
  replace k0_0 := (hc _ _ q0).trans k0_0
  replace k0_1 := (hc _ _ q0).trans k0_1
  replace k1_0 := (hc _ _ q1).trans k1_0
  replace k1_1 := (hc _ _ q1).trans k1_1
  replace k2_0 := (hc _ _ q2).trans k2_0
  replace k2_1 := (hc _ _ q2).trans k2_1
  replace f2_0 := (hfz _ _ q2).trans f2_0
  replace f2_1 := (hfz _ _ q2).trans f2_1
  replace q0 := Nat.lt_of_lt_of_le q0 hbx.size
  replace q1 := Nat.lt_of_lt_of_le q1 hbx.size
  replace q2 := Nat.lt_of_lt_of_le q2 hbx.size
  replace hw0 := below_step' hw0 hbx
  clear hc hfz hbx
  go_wp2
  exact bodyPost_ret (v := .tuple #[.agg #[.int .i64 0, .int .i64 0], .int .i64 4]) (by simp [results, Tryd.results29, go_sem, k2_0, k2_1, q2]) rfl
    ⟨rfl, hw0.grown (set2_grown _ _ _ _) hw0.size (fun k hk => by injection hk with hk; omega)⟩
set_option maxRecDepth 100000 in
set_option maxHeartbeats 16000000 in
theorem ratDiv_good (n1 d1 n2 d2 : Int) (w : World) (hT : Tab w) (ok : Wd.okR n1 d1 ∧ Wd.okR n2 d2) (q : Rat) (hop : OpQ2 w 66 (Wd.qR n1 d1) (Wd.qR n2 d2) q) (h0 : n2 ≠ 0) :
    Calls Tryd.prog 29 #[(Value.agg #[.int .i64 n1, .int .i64 d1]), (Value.agg #[.int .i64 n2, .int .i64 d2])] w fun e w' => TolR w (Wd.told q) e w' := by
  have HT := hide hT
  have HE := Lib.hid (show fstE n1 d1 n2 d2 = 0 from if_pos ok)
  obtain ⟨e1, e2⟩ := Wd.qR_ok ok.1
  obtain ⟨e3, e4⟩ := Wd.qR_ok ok.2
  unfold OpQ2 at hop
  rw [e1, e2, e3, e4] at hop
  have HOP := hide hop
  obtain ⟨o1, o2⟩ := ok
  have HO1 := hide (fun W => rof_any n1 d1 W (by have := o1.2.2.1; omega) (by have := o1.2.2.2.1; omega) (by have := o1.1; omega) (by have := o1.2.1; omega))
  have HO2 := hide (fun W => rof_any n2 d2 W (by have := o2.2.2.1; omega) (by have := o2.2.2.2.1; omega) (by have := o2.1; omega) (by have := o2.2.1; omega))
  have HRT := hide (fun (s9 : Int) (neg9 : Bool) (A9 : Option Addr) (c9 : Nat) (l9 : List Nat) (s10 : Int) (neg10 : Bool) (A10 : Option Addr) (c10 : Nat) (l10 : List Nat) (W : World) (f9 : IntF W s9 neg9 A9 c9 l9 q.num) (f10 : IntF W s10 neg10 A10 c10 l10 (q.den : Int)) => rrat_any s9 neg9 A9 c9 l9 q.num s10 neg10 A10 c10 l10 (q.den : Int) W f9 f10 q rfl rfl)
  obtain ⟨tn, htn⟩ : ∃ x, x = (Wd.told q).n := ⟨_, rfl⟩
  obtain ⟨td, htd⟩ : ∃ x, x = (Wd.told q).d := ⟨_, rfl⟩
  obtain ⟨te, hte⟩ : ∃ x, x = (Wd.told q).e := ⟨_, rfl⟩
  rw [← htn, ← htd, ← hte] at HRT
  have HTL := Lib.hid (show Wd.told q = ⟨tn, td, te⟩ by rw [htn, htd, hte])
  clear htn htd hte
  have hz : (n2 == 0) = false := beq_eq_false_iff_ne.2 h0
  clear h0
  clear hT e1 e2 e3 e4 hop o1 o2
  go_enter Tryd.func29, Tryd.ntmps29
  go_wp2_with fail
  obtain ⟨n0_, n1_, n2_, hsz, hw0⟩ := three_new w (.cells #[.int .i64 n1, .int .i64 d1] 23) (.cells #[.int .i64 n2, .int .i64 d2] 23) (.cells #[.int .i64 0, .int .i64 0] 23)
  generalize (((w.alloc (.cells #[.int .i64 n1, .int .i64 d1] 23)).alloc (.cells #[.int .i64 n2, .int .i64 d2] 23)).alloc (.cells #[.int .i64 0, .int .i64 0] 23)) = W0 at *
  have k0_0 : W0.cell? ⟨w.heap.size, 0, none⟩ = some (.int .i64 n1) := cells_of n0_ 0
  have k0_1 : W0.cell? ⟨w.heap.size, 1, none⟩ = some (.int .i64 d1) := cells_of n0_ 1
  have q0 : w.heap.size < W0.heap.size := by omega
  have k1_0 : W0.cell? ⟨w.heap.size + 1, 0, none⟩ = some (.int .i64 n2) := cells_of n1_ 0
  have k1_1 : W0.cell? ⟨w.heap.size + 1, 1, none⟩ = some (.int .i64 d2) := cells_of n1_ 1
  have q1 : w.heap.size + 1 < W0.heap.size := by omega
  have k2_0 : W0.cell? ⟨w.heap.size + 1 + 1, 0, none⟩ = some (.int .i64 0) := cells_of n2_ 0
  have k2_1 : W0.cell? ⟨w.heap.size + 1 + 1, 1, none⟩ = some (.int .i64 0) := cells_of n2_ 1
  have q2 : w.heap.size + 1 + 1 < W0.heap.size := by omega
  have f2_0 := unfrozen_of n2_ 0
  have f2_1 := unfrozen_of n2_ 1
  have e3 : w.heap.size + 1 + 1 + 1 = W0.heap.size := by omega
  have e3' : w.heap.size + 3 = W0.heap.size := by omega
  clear hsz n0_ n1_ n2_
  try rw [e3]
  try rw [e3']
  clear e3 e3'
  have hnew := heap_alloc_new W0 (.cells #[.int .i64 n1, .int .i64 d1, .int .i64 n2, .int .i64 d2] 23)
  refine (first_any n1 d1 n2 d2 W0.heap.size _ (((unhide HT).below hw0).alloc _) (lt_of_block hnew) (cells_of hnew 0) (cells_of hnew 1) (cells_of hnew 2) (cells_of hnew 3)).mono ?_
  clear hnew
  rintro e W1 ⟨rfl, hb⟩
  have hbx := below_step' (w := W0) (below_alloc (Below.refl _ _) _) hb
  clear hb
  rw [HE.out]
  obtain ⟨hc, hfz⟩ := bcell hbx
  replace k0_0 := (hc _ _ q0).trans k0_0
  replace k0_1 := (hc _ _ q0).trans k0_1
  replace k1_0 := (hc _ _ q1).trans k1_0
  replace k1_1 := (hc _ _ q1).trans k1_1
  replace k2_0 := (hc _ _ q2).trans k2_0
  replace k2_1 := (hc _ _ q2).trans k2_1
  replace f2_0 := (hfz _ _ q2).trans f2_0
  replace f2_1 := (hfz _ _ q2).trans f2_1
  replace q0 := Nat.lt_of_lt_of_le q0 hbx.size
  replace q1 := Nat.lt_of_lt_of_le q1 hbx.size
  replace q2 := Nat.lt_of_lt_of_le q2 hbx.size
  replace hw0 := below_step' hw0 hbx
  clear hc hfz hbx
  have KEEP := hide (show ∀ X, Below W1.heap.size W1 X → X.cell? ⟨w.heap.size, 0, none⟩ = some (.int .i64 n1) ∧ X.cell? ⟨w.heap.size, 1, none⟩ = some (.int .i64 d1) ∧ X.cell? ⟨w.heap.size + 1, 0, none⟩ = some (.int .i64 n2) ∧ X.cell? ⟨w.heap.size + 1, 1, none⟩ = some (.int .i64 d2) from fun X hB => ⟨keep_cell hB q0 k0_0, keep_cell hB q0 k0_1, keep_cell hB q1 k1_0, keep_cell hB q1 k1_1⟩)
  go_wp2_with fail
  go_region_held3 (fun w' => w'.cell? ⟨w.heap.size, 0, none⟩ = some (.int .i64 n1) ∧ w'.cell? ⟨w.heap.size, 1, none⟩ = some (.int .i64 d1) ∧ w'.cell? ⟨w.heap.size + 1, 0, none⟩ = some (.int .i64 n2) ∧ w'.cell? ⟨w.heap.size + 1, 1, none⟩ = some (.int .i64 d2)) (first | with_reducible exact ⟨(cell_set2 _ _ _ _ (by omega)).trans (keep_cell hbw q0 k0_0), (cell_set2 _ _ _ _ (by omega)).trans (keep_cell hbw q0 k0_1), (cell_set2 _ _ _ _ (by omega)).trans (keep_cell hbw q1 k1_0), (cell_set2 _ _ _ _ (by omega)).trans (keep_cell hbw q1 k1_1)⟩ | with_reducible exact (unhide KEEP) _ (by (repeat (first | with_reducible exact Below.refl _ _ | with_reducible assumption | with_reducible refine Below.drew ?_ | with_reducible refine below_alloc ?_ _)))) (first | (go_at_call_of 35 (Value.agg #[.int .i64 n1, .int .i64 d1]); refine ((unhide HO1) _).mono ?_; rintro e w' ⟨s5, neg5, A5, c5, l5, s6, neg6, A6, c6, l6, rfl, hf5, hf6, hb5⟩; have hbw := below_step (w := W1) (by (repeat (first | with_reducible exact Below.refl _ _ | with_reducible assumption | with_reducible refine Below.drew ?_ | with_reducible refine below_alloc ?_ _))) hb5; have hsw := hbw.size; obtain ⟨hc, hfz⟩ := bcell hbw) | (go_at_call_of 35 (Value.agg #[.int .i64 n2, .int .i64 d2]); refine ((unhide HO2) _).mono ?_; rintro e w' ⟨s7, neg7, A7, c7, l7, s8, neg8, A8, c8, l8, rfl, hf7, hf8, hb7⟩; have hf5 := IntF.below (IntF.below hf5 (by (repeat (first | with_reducible exact Below.refl _ _ | with_reducible assumption | with_reducible refine Below.drew ?_ | with_reducible refine below_alloc ?_ _)))) hb7; have hf6 := IntF.below (IntF.below hf6 (by (repeat (first | with_reducible exact Below.refl _ _ | with_reducible assumption | with_reducible refine Below.drew ?_ | with_reducible refine below_alloc ?_ _)))) hb7; have hbw := below_step (w := W1) (by (repeat (first | with_reducible exact Below.refl _ _ | with_reducible assumption | with_reducible refine Below.drew ?_ | with_reducible refine below_alloc ?_ _))) hb7; have hsw := hbw.size; obtain ⟨hc, hfz⟩ := bcell hbw) | (go_at_call_of 66 (Value.agg #[.int .i64 s5, .bool neg5, .slice A5 l5.length c5, .int .i64 s6, .bool neg6, .slice A6 l6.length c6]); refine ((unhide HOP) s5 neg5 A5 c5 l5 s6 neg6 A6 c6 l6 s7 neg7 A7 c7 l7 s8 neg8 A8 c8 l8 _ (below_step' hw0 (by (repeat (first | with_reducible exact Below.refl _ _ | with_reducible assumption | with_reducible refine Below.drew ?_ | with_reducible refine below_alloc ?_ _)))) (IntF.below hf5 (by (repeat (first | with_reducible exact Below.refl _ _ | with_reducible assumption | with_reducible refine Below.drew ?_ | with_reducible refine below_alloc ?_ _)))) (IntF.below hf6 (by (repeat (first | with_reducible exact Below.refl _ _ | with_reducible assumption | with_reducible refine Below.drew ?_ | with_reducible refine below_alloc ?_ _)))) (IntF.below hf7 (by (repeat (first | with_reducible exact Below.refl _ _ | with_reducible assumption | with_reducible refine Below.drew ?_ | with_reducible refine below_alloc ?_ _)))) (IntF.below hf8 (by (repeat (first | with_reducible exact Below.refl _ _ | with_reducible assumption | with_reducible refine Below.drew ?_ | with_reducible refine below_alloc ?_ _))))).mono ?_; rintro e w' ⟨s9, neg9, A9, c9, l9, s10, neg10, A10, c10, l10, rfl, hf9, hf10, hb9⟩; have hbw := below_step (w := W1) (by (repeat (first | with_reducible exact Below.refl _ _ | with_reducible assumption | with_reducible refine Below.drew ?_ | with_reducible refine below_alloc ?_ _))) hb9; have hsw := hbw.size; obtain ⟨hc, hfz⟩ := bcell hbw) | (go_at_call_of 32 (Value.agg #[.int .i64 s9, .bool neg9, .slice A9 l9.length c9, .int .i64 s10, .bool neg10, .slice A10 l10.length c10]); refine ((unhide HRT) s9 neg9 A9 c9 l9 s10 neg10 A10 c10 l10 _ (IntF.below hf9 (by (repeat (first | with_reducible exact Below.refl _ _ | with_reducible assumption | with_reducible refine Below.drew ?_ | with_reducible refine below_alloc ?_ _)))) (IntF.below hf10 (by (repeat (first | with_reducible exact Below.refl _ _ | with_reducible assumption | with_reducible refine Below.drew ?_ | with_reducible refine below_alloc ?_ _))))).mono ?_; rintro e w' ⟨rfl, hb10⟩; have hbw := below_step (w := W1) (by (repeat (first | with_reducible exact Below.refl _ _ | with_reducible assumption | with_reducible refine Below.drew ?_ | with_reducible refine below_alloc ?_ _))) hb10; have hsw := hbw.size; obtain ⟨hc, hfz⟩ := bcell hbw))
  have hb9 : Below w.heap.size w w' := below_step' hw0 hbw
  go_wp2_with fail
  exact bodyPost_ret (v := .tuple #[.agg #[.int .i64 tn, .int .i64 td], .int .i64 te]) (by simp [results, Tryd.results29, go_sem, hc, k2_0, k2_1, q2]) rfl
    ⟨HTL.out ▸ rfl, hb9.grown (set2_grown _ _ _ _) hb9.size (fun k hk => by injection hk with hk; omega)⟩
theorem ratDiv_any (n1 d1 n2 d2 : Int) (w : World) (hT : Tab w) : Calls Tryd.prog 29 #[(Value.agg #[.int .i64 n1, .int .i64 d1]), (Value.agg #[.int .i64 n2, .int .i64 d2])] w fun e w' => TolR w (Wd.divR n1 d1 n2 d2) e w' := by
  unfold Wd.divR
  by_cases ok : Wd.okR n1 d1 ∧ Wd.okR n2 d2
  · rw [if_pos ok]
    by_cases h0 : n2 = 0
    · subst h0
      rw [if_pos rfl]
      exact ratDiv_zero n1 d1 d2 w hT ok
    · rw [if_neg h0]
      exact ratDiv_good n1 d1 n2 d2 w hT ok _ (opq_quo hT _ _ (okR_sz ok.1) (okR_sz ok.2) lim3 (by rw [(Wd.qR_ok ok.2).1]; exact h0)).1 h0
  · rw [if_neg ok]
    exact ratDiv_bad n1 d1 n2 d2 w hT ok

end Go.Proofs.YtaaccgjopcgbfaaDoor
/- The neighbours of 22/7. -/
namespace Go.Proofs.YtaaccgjopcgbfaaDoor
open Go.RowKit

theorem set2_block {W : World} {b : Nat} {a0 a1 u0 u1 : Value} {T : TypeId} (h : W.heap[b]? = some (.cells #[a0, a1] T (0, 0))) : ((W.setCell ⟨b, 0, none⟩ u0).setCell ⟨b, 1, none⟩ u1).heap[b]? = some (.cells #[u0, u1] T (0, 0)) := by
  simp [World.setCell, Array.getElem?_modify, h]
/-- What lies in the memory of the search at its rounds' heads. -/
structure NbW (w wr : World) (b0 b1 l0 l1 : Int) : Prop where
  below : Below w.heap.size w wr
  x : wr.heap[w.heap.size]? = some (.cells #[.int .i64 22, .int .i64 7] 23 (0, 0))
  lo : wr.heap[w.heap.size + 1]? = some (.cells #[.int .i64 0, .int .i64 0] 23 (0, 0))
  hi : wr.heap[w.heap.size + 2]? = some (.cells #[.int .i64 0, .int .i64 0] 23 (0, 0))
  bef : wr.heap[w.heap.size + 3]? = some (.cells #[.int .i64 b0, .int .i64 b1] 23 (0, 0))
  last : wr.heap[w.heap.size + 4]? = some (.cells #[.int .i64 l0, .int .i64 l1] 23 (0, 0))
theorem NbW.step {w wr w' : World} {b0 b1 l0 l1 : Int} (h : NbW w wr b0 b1 l0 l1) (hb : Below wr.heap.size wr w') : NbW w w' b0 b1 l0 l1 :=
  ⟨below_step' h.below hb, (hb.block _ (lt_of_block h.x)).trans h.x, (hb.block _ (lt_of_block h.lo)).trans h.lo, (hb.block _ (lt_of_block h.hi)).trans h.hi, (hb.block _ (lt_of_block h.bef)).trans h.bef, (hb.block _ (lt_of_block h.last)).trans h.last⟩
theorem NbW.set {w wr : World} {b0 b1 l0 l1 : Int} (h : NbW w wr b0 b1 l0 l1) (u0 u1 v0 v1 : Int) :
    NbW w ((((wr.setCell ⟨w.heap.size + 3, 0, none⟩ (.int .i64 u0)).setCell ⟨w.heap.size + 3, 1, none⟩ (.int .i64 u1)).setCell ⟨w.heap.size + 4, 0, none⟩ (.int .i64 v0)).setCell ⟨w.heap.size + 4, 1, none⟩ (.int .i64 v1)) u0 u1 v0 v1 := by
  have g1 := set2_grown wr (w.heap.size + 3) (.int .i64 u0) (.int .i64 u1)
  have g2 := set2_grown ((wr.setCell ⟨w.heap.size + 3, 0, none⟩ (.int .i64 u0)).setCell ⟨w.heap.size + 3, 1, none⟩ (.int .i64 u1)) (w.heap.size + 4) (.int .i64 v0) (.int .i64 v1)
  have s1 := g1.size
  have old : ∀ k, k < w.heap.size + 3 → ((((wr.setCell ⟨w.heap.size + 3, 0, none⟩ (.int .i64 u0)).setCell ⟨w.heap.size + 3, 1, none⟩ (.int .i64 u1)).setCell ⟨w.heap.size + 4, 0, none⟩ (.int .i64 v0)).setCell ⟨w.heap.size + 4, 1, none⟩ (.int .i64 v1)).heap[k]? = wr.heap[k]? := fun k hk => by
    have hl := lt_of_block h.last
    exact (g2.block k (by omega) (fun e => by injection e with e; omega)).trans (g1.block k (by omega) (fun e => by injection e with e; omega))
  have hl := lt_of_block h.last
  have e1 := set2_block (u0 := .int .i64 u0) (u1 := .int .i64 u1) h.bef
  refine ⟨(h.below.grown g1 h.below.size (fun k hk => by injection hk with hk; omega)).grown g2 (by have := h.below.size; omega) (fun k hk => by injection hk with hk; omega), (old _ (by omega)).trans h.x, (old _ (by omega)).trans h.lo, (old _ (by omega)).trans h.hi, ?_, ?_⟩
  · exact (g2.block _ (lt_of_block e1) (fun e => by injection e with e; omega)).trans e1
  · exact set2_block ((g1.block _ hl (fun e => by injection e with e; omega)).trans h.last)
theorem nb_start (w : World) (n : Nat) : NbW w ((((((w.alloc (.cells #[.int .i64 22, .int .i64 7] 23)).alloc (.cells #[.int .i64 0, .int .i64 0] 23)).alloc (.cells #[.int .i64 0, .int .i64 0] 23)).alloc (.cells #[.int .i64 0, .int .i64 1] 23)).alloc (.cells #[.int .i64 1, .int .i64 0] 23)).drewN n) 0 1 1 0 := by
  obtain ⟨h1, h2, h3, h4, h5⟩ := three_new w (.cells #[.int .i64 22, .int .i64 7] 23) (.cells #[.int .i64 0, .int .i64 0] 23) (.cells #[.int .i64 0, .int .i64 0] 23)
  obtain ⟨g1, g2, g3, g4⟩ := two_new (((w.alloc (.cells #[.int .i64 22, .int .i64 7] 23)).alloc (.cells #[.int .i64 0, .int .i64 0] 23)).alloc (.cells #[.int .i64 0, .int .i64 0] 23)) (.cells #[.int .i64 0, .int .i64 1] 23) (.cells #[.int .i64 1, .int .i64 0] 23)
  have up := g4.block
  rw [h4] at g1 g2 up
  exact ⟨(below_step' h5 g4).grown (grown_drewN (grown_refl _ none) n) (by have := (below_step' h5 g4).size; omega) (fun k hk => by cases hk), (up _ (by omega)).trans h1, (up _ (by omega)).trans h2, (up _ (by omega)).trans h3, g1, g2⟩
theorem fresh_block {W w' : World} {o : Obj} (hb : Below (W.alloc o).heap.size (W.alloc o) w') : w'.heap[W.heap.size]? = some o := (hb.block _ (by simp)).trans (heap_alloc_new W o)
theorem fresh_drew {W w' : World} {o : Obj} (hb : Below (W.alloc o).drew.heap.size (W.alloc o).drew w') : w'.heap[W.heap.size]? = some o := (hb.block _ (show W.heap.size < (W.alloc o).heap.size by simp)).trans (heap_alloc_new W o)
set_option maxRecDepth 100000 in
set_option maxHeartbeats 16000000 in
theorem nb_known (w : World) :
    Calls Tryd.prog 49 #[(Value.agg #[.int .i64 22, .int .i64 7]), .int .i64 5] w fun e w' => e = .returned (.tuple #[(Value.agg #[.int .i64 3, .int .i64 1]), (Value.agg #[.int .i64 16, .int .i64 5])]) ∧ Below w.heap.size w w' := by
  have HF1 := hide (fun W => fdiv_any 22 7 W (by omega) (by omega) (by omega) (by omega))
  have HF2 := hide (fun W => fdiv_any 7 1 W (by omega) (by omega) (by omega) (by omega))
  rw [show (22 : Int) / 7 = 3 by decide] at HF1
  rw [show (7 : Int) / 1 = 7 by decide] at HF2
  have HM1 := hide (fun W => med_any 0 1 1 0 3 3 0 3 1 W rfl rfl rfl rfl (by omega) (by omega) (by omega) (by omega))
  have HM2 := hide (fun W => med_any 1 0 3 1 7 21 7 22 7 W rfl rfl rfl rfl (by omega) (by omega) (by omega) (by omega))
  have HM3 := hide (fun W => med_any 1 0 3 1 5 15 5 16 5 W rfl rfl rfl rfl (by omega) (by omega) (by omega) (by omega))
  have HO1 := hide (fun W => rof_any 16 5 W (by omega) (by omega) (by omega) (by omega))
  have HO2 := hide (fun W => rof_any 22 7 W (by omega) (by omega) (by omega) (by omega))
  have o1 : Wd.okR 16 5 := by decide
  have o2 : Wd.okR 22 7 := by decide
  obtain ⟨e1, e2⟩ := Wd.qR_ok o1
  obtain ⟨e3, e4⟩ := Wd.qR_ok o2
  have hcc := opc_cmp w (Wd.qR 16 5) (Wd.qR 22 7) (okR_sz o1) (okR_sz o2) (by unfold lim; omega)
  unfold OpC at hcc
  rw [e1, e2, e3, e4, show sgn (16 * 7 - 22 * 5) = 1 by decide] at hcc
  have HCC := hide hcc
  clear hcc e1 e2 e3 e4 o1 o2
  go_enter Tryd.func49, Tryd.ntmps49
  go_wp2_with fail
  go_quiet (fail)
  go_wp2_with fail
  go_loopw [8, 9] (fun nv dv wr => (nv = .int .i64 22 ∧ dv = .int .i64 7 ∧ NbW w wr 0 1 1 0) ∨ (nv = .int .i64 7 ∧ dv = .int .i64 1 ∧ NbW w wr 1 0 3 1)) (fun _ dv _ => (intOf dv).toNat)
  case atStart => exact .inl ⟨rfl, rfl, nb_start w _⟩
  case round =>
    rcases hrel with ⟨rfl, rfl, hw⟩ | ⟨rfl, rfl, hw⟩
    · have b0 : wr.cell? ⟨w.heap.size + 1 + 1 + 1, 0, none⟩ = some (.int .i64 0) := cells_of hw.bef 0
      have b1 : wr.cell? ⟨w.heap.size + 1 + 1 + 1, 1, none⟩ = some (.int .i64 1) := cells_of hw.bef 1
      have l0 : wr.cell? ⟨w.heap.size + 1 + 1 + 1 + 1, 0, none⟩ = some (.int .i64 1) := cells_of hw.last 0
      have l1 : wr.cell? ⟨w.heap.size + 1 + 1 + 1 + 1, 1, none⟩ = some (.int .i64 0) := cells_of hw.last 1
      have HW := hide hw
      clear hw
      go_wp2_with fail
      refine ((unhide HF1) _).mono ?_
      rintro e w1 ⟨rfl, rfl⟩
      go_wp2_with fail
      refine ((unhide HM1) _).mono ?_
      rintro e w2 ⟨rfl, hb⟩
      have hw2 := ((unhide HW).step hb).step (below_alloc (Below.refl _ _) (.cells #[.int .i64 3, .int .i64 1] 23))
      have hn := heap_alloc_new w2 (.cells #[.int .i64 3, .int .i64 1] 23)
      have HWo := HW
      have hb0 := hb
      clear b0 b1 l0 l1 hb HW
      have c0 : (w2.alloc (.cells #[.int .i64 3, .int .i64 1] 23)).cell? ⟨w.heap.size + 1 + 1 + 1 + 1, 0, none⟩ = some (.int .i64 1) := cells_of hw2.last 0
      have c1 : (w2.alloc (.cells #[.int .i64 3, .int .i64 1] 23)).cell? ⟨w.heap.size + 1 + 1 + 1 + 1, 1, none⟩ = some (.int .i64 0) := cells_of hw2.last 1
      have c2 : (w2.alloc (.cells #[.int .i64 3, .int .i64 1] 23)).cell? ⟨w.heap.size + 1 + 1 + 1, 0, none⟩ = some (.int .i64 0) := cells_of hw2.bef 0
      have c3 : (w2.alloc (.cells #[.int .i64 3, .int .i64 1] 23)).cell? ⟨w.heap.size + 1 + 1 + 1, 1, none⟩ = some (.int .i64 1) := cells_of hw2.bef 1
      have d0 : (w2.alloc (.cells #[.int .i64 3, .int .i64 1] 23)).cell? ⟨w2.heap.size, 0, none⟩ = some (.int .i64 3) := cells_of hn 0
      have d1 : (w2.alloc (.cells #[.int .i64 3, .int .i64 1] 23)).cell? ⟨w2.heap.size, 1, none⟩ = some (.int .i64 1) := cells_of hn 1
      have f0 : (w2.alloc (.cells #[.int .i64 3, .int .i64 1] 23)).frozen? ⟨w.heap.size + 1 + 1 + 1 + 1, 0, none⟩ = false := unfrozen_of hw2.last 0
      have f1 : (w2.alloc (.cells #[.int .i64 3, .int .i64 1] 23)).frozen? ⟨w.heap.size + 1 + 1 + 1 + 1, 1, none⟩ = false := unfrozen_of hw2.last 1
      have f2 : (w2.alloc (.cells #[.int .i64 3, .int .i64 1] 23)).frozen? ⟨w.heap.size + 1 + 1 + 1, 0, none⟩ = false := unfrozen_of hw2.bef 0
      have f3 : (w2.alloc (.cells #[.int .i64 3, .int .i64 1] 23)).frozen? ⟨w.heap.size + 1 + 1 + 1, 1, none⟩ = false := unfrozen_of hw2.bef 1
      have HW2 := hide hw2
      have HN := hide hn
      have HN2 := hide (show w.heap.size + 1 + 1 + 1 + 1 < w2.heap.size from lt_of_block ((unhide HWo).step hb0).last)
      clear hw2 hn
      go_upto_region 5 with fail
      generalize w2.alloc (.cells #[.int .i64 3, .int .i64 1] 23) = w3 at *
      obtain ⟨p, hp⟩ : ∃ p, p = w2.heap.size := ⟨_, rfl⟩
      rw [← hp] at d0 d1 ⊢
      have hpn : w.heap.size + 1 + 1 + 1 + 1 < p := by rw [hp]; exact unhide HN2
      clear HN hp
      go_wp2_with fail
      go_region
      all_goals go_wp2_with fail
      go_roundw
      case rel => exact .inr ⟨by go_num, by go_num, ((unhide HW2).step (Below.refl _ _).drew).set 1 0 3 1⟩
      case measure => simp [intOf]
    · have b0 : wr.cell? ⟨w.heap.size + 1 + 1 + 1, 0, none⟩ = some (.int .i64 1) := cells_of hw.bef 0
      have b1 : wr.cell? ⟨w.heap.size + 1 + 1 + 1, 1, none⟩ = some (.int .i64 0) := cells_of hw.bef 1
      have l0 : wr.cell? ⟨w.heap.size + 1 + 1 + 1 + 1, 0, none⟩ = some (.int .i64 3) := cells_of hw.last 0
      have l1 : wr.cell? ⟨w.heap.size + 1 + 1 + 1 + 1, 1, none⟩ = some (.int .i64 1) := cells_of hw.last 1
      have HW := hide hw
      clear hw
      go_wp2_with fail
      refine ((unhide HF2) _).mono ?_
      rintro e w1 ⟨rfl, rfl⟩
      go_wp2_with fail
      refine ((unhide HM2) _).mono ?_
      rintro e w2 ⟨rfl, hb⟩
      have hw2 := ((unhide HW).step hb).step (below_alloc (Below.refl _ _) (.cells #[.int .i64 22, .int .i64 7] 23))
      have hn := heap_alloc_new w2 (.cells #[.int .i64 22, .int .i64 7] 23)
      clear b0 b1 l0 l1 hb HW
      have d1 : (w2.alloc (.cells #[.int .i64 22, .int .i64 7] 23)).cell? ⟨w2.heap.size, 1, none⟩ = some (.int .i64 7) := cells_of hn 1
      have HW2 := hide hw2
      clear hw2 hn
      go_upto_region 5 with fail
      generalize w2.alloc (.cells #[.int .i64 22, .int .i64 7] 23) = w3 at *
      go_upto_region 8 with fail
      have c0 : w3.cell? ⟨w.heap.size + 1 + 1 + 1 + 1, 0, none⟩ = some (.int .i64 3) := cells_of (unhide HW2).last 0
      have c1 : w3.cell? ⟨w.heap.size + 1 + 1 + 1 + 1, 1, none⟩ = some (.int .i64 1) := cells_of (unhide HW2).last 1
      have c2 : w3.cell? ⟨w.heap.size + 1 + 1 + 1, 0, none⟩ = some (.int .i64 1) := cells_of (unhide HW2).bef 0
      have c3 : w3.cell? ⟨w.heap.size + 1 + 1 + 1, 1, none⟩ = some (.int .i64 0) := cells_of (unhide HW2).bef 1
      have q4 : w.heap.size + 1 + 1 + 1 + 1 < w3.heap.size := lt_of_block (unhide HW2).last
      have q3 : w.heap.size + 1 + 1 + 1 < w3.heap.size := lt_of_block (unhide HW2).bef
      have KEEP := hide (show ∀ X, Below w3.heap.size w3 X → X.cell? ⟨w.heap.size + 1 + 1 + 1 + 1, 0, none⟩ = some (.int .i64 3) ∧ X.cell? ⟨w.heap.size + 1 + 1 + 1 + 1, 1, none⟩ = some (.int .i64 1) ∧ X.cell? ⟨w.heap.size + 1 + 1 + 1, 0, none⟩ = some (.int .i64 1) ∧ X.cell? ⟨w.heap.size + 1 + 1 + 1, 1, none⟩ = some (.int .i64 0) from fun X hB => ⟨keep_cell hB q4 c0, keep_cell hB q4 c1, keep_cell hB q3 c2, keep_cell hB q3 c3⟩)
      clear d1 q3 q4 c0 c1 c2 c3
      have ew : IntKind.i64.wrap 5 = 5 := by decide
      go_cut [12] (fun s12 wx => ∃ b12 : Nat, s12 = .pointer (some ⟨b12, 0, none⟩) ∧ wx.heap[b12]? = some (.cells #[.int .i64 16, .int .i64 5] 23 (0, 0)) ∧ Below w3.heap.size w3 wx ∧ w3.heap.size ≤ b12)
      case first =>
        go_region_held3 (fun w' => w'.cell? ⟨w.heap.size + 1 + 1 + 1 + 1, 0, none⟩ = some (.int .i64 3) ∧ w'.cell? ⟨w.heap.size + 1 + 1 + 1 + 1, 1, none⟩ = some (.int .i64 1) ∧ w'.cell? ⟨w.heap.size + 1 + 1 + 1, 0, none⟩ = some (.int .i64 1) ∧ w'.cell? ⟨w.heap.size + 1 + 1 + 1, 1, none⟩ = some (.int .i64 0)) (exact (unhide KEEP) _ (by (repeat (first | with_reducible exact Below.refl _ _ | with_reducible assumption | with_reducible refine Below.drew ?_ | with_reducible refine below_alloc ?_ _ | (with_reducible refine below_set ?_ ?_ _ _; rotate_left; (first | omega | (simp <;> omega))))))) ((go_at_call 88; refine ((unhide HM3) _).mono ?_; rintro e w' ⟨rfl, hb⟩; have hbw := below_step (w := w3) (by (repeat (first | with_reducible exact Below.refl _ _ | with_reducible assumption | with_reducible refine Below.drew ?_ | with_reducible refine below_alloc ?_ _))) hb; have hsw := hbw.size; (try (have un : w'.heap[w3.heap.size]? = some (.cells #[.int .i64 0, .int .i64 0] 23 (0, 0)) := (by first | exact fresh_block hb | exact fresh_drew hb); have un0 : w'.cell? ⟨w3.heap.size, 0, none⟩ = some (.int .i64 0) := cells_of un 0; have un1 : w'.cell? ⟨w3.heap.size, 1, none⟩ = some (.int .i64 0) := cells_of un 1; have un2 := unfrozen_of un 0; have un3 := unfrozen_of un 1))))
        all_goals
          go_wp2_with fail
          go_meet
          first
            | exact ⟨_, rfl, heap_alloc_new w' _, below_alloc hbw _, hsw⟩
            | exact ⟨_, rfl, set2_block un, hbw.grown (set2_grown _ _ _ _) hbw.size (fun k hk => by injection hk with hk; omega), Nat.le_refl _⟩
      case rest =>
        revert hcut
        generalize wc = W5
        intro hcut
        obtain ⟨b12, rfl, hn12, hb5, ob⟩ := hcut
        have ol := lt_of_block (unhide HW2).last
        have i1 : ¬ (b12 = w.heap.size + 1) := by omega
        have i2 : ¬ (w.heap.size + 1 = b12) := by omega
        have i3 : ¬ (b12 = w.heap.size + 1 + 1) := by omega
        have i4 : ¬ (w.heap.size + 1 + 1 = b12) := by omega
        clear ob ol
        have hw5 := (unhide HW2).step hb5
        have a0 : W5.cell? ⟨b12, 0, none⟩ = some (.int .i64 16) := cells_of hn12 0
        have a1 : W5.cell? ⟨b12, 1, none⟩ = some (.int .i64 5) := cells_of hn12 1
        have x0 : W5.cell? ⟨w.heap.size, 0, none⟩ = some (.int .i64 22) := cells_of hw5.x 0
        have x1 : W5.cell? ⟨w.heap.size, 1, none⟩ = some (.int .i64 7) := cells_of hw5.x 1
        have q12 := lt_of_block hn12
        have qx := lt_of_block hw5.x
        have HW5 := hide hw5
        have HN12 := hide hn12
        clear KEEP HW2 hb5 hw5 hn12
        have KEEP := hide (show ∀ X, Below W5.heap.size W5 X → X.cell? ⟨b12, 0, none⟩ = some (.int .i64 16) ∧ X.cell? ⟨b12, 1, none⟩ = some (.int .i64 5) ∧ X.cell? ⟨w.heap.size, 0, none⟩ = some (.int .i64 22) ∧ X.cell? ⟨w.heap.size, 1, none⟩ = some (.int .i64 7) from fun X hB => ⟨keep_cell hB q12 a0, keep_cell hB q12 a1, keep_cell hB qx x0, keep_cell hB qx x1⟩)
        go_upto_region 9 with fail
        go_region_held3 (fun w' => w'.cell? ⟨b12, 0, none⟩ = some (.int .i64 16) ∧ w'.cell? ⟨b12, 1, none⟩ = some (.int .i64 5) ∧ w'.cell? ⟨w.heap.size, 0, none⟩ = some (.int .i64 22) ∧ w'.cell? ⟨w.heap.size, 1, none⟩ = some (.int .i64 7)) (exact (unhide KEEP) _ (by (repeat (first | with_reducible exact Below.refl _ _ | with_reducible assumption | with_reducible refine Below.drew ?_ | with_reducible refine below_alloc ?_ _)))) (first | (go_at_call_of 35 (Value.agg #[.int .i64 16, .int .i64 5]); refine ((unhide HO1) _).mono ?_; rintro e w' ⟨s5, neg5, A5, c5, l5, s6, neg6, A6, c6, l6, rfl, hf5, hf6, hb5⟩; have hbw := below_step (w := W5) (by (repeat (first | with_reducible exact Below.refl _ _ | with_reducible assumption | with_reducible refine Below.drew ?_ | with_reducible refine below_alloc ?_ _))) hb5; have hsw := hbw.size; obtain ⟨hc, hfz⟩ := bcell hbw) | (go_at_call_of 35 (Value.agg #[.int .i64 22, .int .i64 7]); refine ((unhide HO2) _).mono ?_; rintro e w' ⟨s7, neg7, A7, c7, l7, s8, neg8, A8, c8, l8, rfl, hf7, hf8, hb7⟩; have hf5 := IntF.below (IntF.below hf5 (by (repeat (first | with_reducible exact Below.refl _ _ | with_reducible assumption | with_reducible refine Below.drew ?_ | with_reducible refine below_alloc ?_ _)))) hb7; have hf6 := IntF.below (IntF.below hf6 (by (repeat (first | with_reducible exact Below.refl _ _ | with_reducible assumption | with_reducible refine Below.drew ?_ | with_reducible refine below_alloc ?_ _)))) hb7; have hbw := below_step (w := W5) (by (repeat (first | with_reducible exact Below.refl _ _ | with_reducible assumption | with_reducible refine Below.drew ?_ | with_reducible refine below_alloc ?_ _))) hb7; have hsw := hbw.size; obtain ⟨hc, hfz⟩ := bcell hbw) | (go_at_call_of 36 (Value.agg #[.int .i64 s5, .bool neg5, .slice A5 l5.length c5, .int .i64 s6, .bool neg6, .slice A6 l6.length c6]); refine ((unhide HCC) s5 neg5 A5 c5 l5 s6 neg6 A6 c6 l6 s7 neg7 A7 c7 l7 s8 neg8 A8 c8 l8 _ (below_step' (unhide HW5).below (by (repeat (first | with_reducible exact Below.refl _ _ | with_reducible assumption | with_reducible refine Below.drew ?_ | with_reducible refine below_alloc ?_ _)))) (IntF.below hf5 (by (repeat (first | with_reducible exact Below.refl _ _ | with_reducible assumption | with_reducible refine Below.drew ?_ | with_reducible refine below_alloc ?_ _)))) (IntF.below hf6 (by (repeat (first | with_reducible exact Below.refl _ _ | with_reducible assumption | with_reducible refine Below.drew ?_ | with_reducible refine below_alloc ?_ _)))) (IntF.below hf7 (by (repeat (first | with_reducible exact Below.refl _ _ | with_reducible assumption | with_reducible refine Below.drew ?_ | with_reducible refine below_alloc ?_ _)))) (IntF.below hf8 (by (repeat (first | with_reducible exact Below.refl _ _ | with_reducible assumption | with_reducible refine Below.drew ?_ | with_reducible refine below_alloc ?_ _))))).mono ?_; rintro e w' ⟨rfl, hb9⟩; have hbw := below_step (w := W5) (by (repeat (first | with_reducible exact Below.refl _ _ | with_reducible assumption | with_reducible refine Below.drew ?_ | with_reducible refine below_alloc ?_ _))) hb9; have hsw := hbw.size; obtain ⟨hc, hfz⟩ := bcell hbw))
        clear hf5 hf6 hf7 hf8 hc hfz a0 a1 x0 x1 KEEP
        have hw6 := (unhide HW5).step hbw
        have hn6 := (hbw.block _ (lt_of_block (unhide HN12))).trans (unhide HN12)
        have a0 : w'.cell? ⟨b12, 0, none⟩ = some (.int .i64 16) := cells_of hn6 0
        have a1 : w'.cell? ⟨b12, 1, none⟩ = some (.int .i64 5) := cells_of hn6 1
        have c0 : w'.cell? ⟨w.heap.size + 1 + 1 + 1 + 1, 0, none⟩ = some (.int .i64 3) := cells_of hw6.last 0
        have c1 : w'.cell? ⟨w.heap.size + 1 + 1 + 1 + 1, 1, none⟩ = some (.int .i64 1) := cells_of hw6.last 1
        have r0 : w'.cell? ⟨w.heap.size + 1, 0, none⟩ = some (.int .i64 0) := cells_of hw6.lo 0
        have r1 : w'.cell? ⟨w.heap.size + 1, 1, none⟩ = some (.int .i64 0) := cells_of hw6.lo 1
        have r2 : w'.cell? ⟨w.heap.size + 1 + 1, 0, none⟩ = some (.int .i64 0) := cells_of hw6.hi 0
        have r3 : w'.cell? ⟨w.heap.size + 1 + 1, 1, none⟩ = some (.int .i64 0) := cells_of hw6.hi 1
        have f0 : w'.frozen? ⟨w.heap.size + 1, 0, none⟩ = false := unfrozen_of hw6.lo 0
        have f1 : w'.frozen? ⟨w.heap.size + 1, 1, none⟩ = false := unfrozen_of hw6.lo 1
        have f2 : w'.frozen? ⟨w.heap.size + 1 + 1, 0, none⟩ = false := unfrozen_of hw6.hi 0
        have f3 : w'.frozen? ⟨w.heap.size + 1 + 1, 1, none⟩ = false := unfrozen_of hw6.hi 1
        have hb9' := hw6.below
        have hs : w.heap.size + 1 + 1 < w'.heap.size := lt_of_block hw6.hi
        clear hw6 hn6 HW5 HN12
        go_wp2_with fail
        go_region
        all_goals go_wp2_with fail
        exact bodyPost_ret (v := .tuple #[(Value.agg #[.int .i64 3, .int .i64 1]), (Value.agg #[.int .i64 16, .int .i64 5])]) (by simp [results, Tryd.results49, go_sem, r0, r1, r2, r3, hs]) rfl
          ⟨rfl, ((hb9'.grown (set2_grown _ _ _ _) hb9'.size (fun k hk => by injection hk with hk; omega)).grown (set2_grown _ _ _ _) (Nat.le_trans hb9'.size (set2_grown w' (w.heap.size + 1) (.int .i64 3) (.int .i64 1)).size) (fun k hk => by injection hk with hk; omega)).drew⟩

end Go.Proofs.YtaaccgjopcgbfaaDoor
/- The number nearest to 22/7 with a denominator of at most 5. -/
namespace Go.Proofs.YtaaccgjopcgbfaaDoor
open Go.RowKit

set_option maxRecDepth 100000 in
set_option maxHeartbeats 16000000 in
theorem near_known (w : World) (hT : Tab w) :
    Calls Tryd.prog 19 #[(Value.agg #[.int .i64 22, .int .i64 7]), .int .i64 5] w fun e w' => e = .returned (.tuple #[(Value.agg #[.int .i64 16, .int .i64 5]), .int .i64 0]) ∧ Below w.heap.size w w' := by
  have HV := hide (val_any 22 7)
  rw [show valE 22 7 = 0 by decide] at HV
  have HNB := hide nb_known
  have HO := hide (fun W => rof_any 22 7 W (by omega) (by omega) (by omega) (by omega))
  have HO1 := hide (fun W => rof_any 3 1 W (by omega) (by omega) (by omega) (by omega))
  have HO2 := hide (fun W => rof_any 16 5 W (by omega) (by omega) (by omega) (by omega))
  have o1 : Wd.okR 22 7 := by decide
  have o2 : Wd.okR 3 1 := by decide
  have o3 : Wd.okR 16 5 := by decide
  obtain ⟨e1, e2⟩ := Wd.qR_ok o1
  obtain ⟨e3, e4⟩ := Wd.qR_ok o2
  obtain ⟨e5, e6⟩ := Wd.qR_ok o3
  obtain ⟨hs1, z1⟩ := opq_sub hT (Wd.qR 22 7) (Wd.qR 3 1) (okR_sz o1) (okR_sz o2) lim3
  obtain ⟨hs2, z2⟩ := opq_sub hT (Wd.qR 16 5) (Wd.qR 22 7) (okR_sz o3) (okR_sz o1) lim3
  have hcc := opc_cmp w _ _ z1 z2 (by unfold lim; omega)
  rw [show sgn ((Wd.qR 22 7 - Wd.qR 3 1).num * (Wd.qR 16 5 - Wd.qR 22 7).den - (Wd.qR 16 5 - Wd.qR 22 7).num * (Wd.qR 22 7 - Wd.qR 3 1).den) = 1 by decide +kernel] at hcc
  unfold OpQ2 at hs1 hs2
  unfold OpC at hcc
  rw [e1, e2, e3, e4] at hs1
  rw [e5, e6, e1, e2] at hs2
  generalize Wd.qR 22 7 - Wd.qR 3 1 = u at *
  generalize Wd.qR 16 5 - Wd.qR 22 7 = v at *
  have HS1 := hide hs1
  have HS2 := hide hs2
  have HCC := hide hcc
  have HT := hide hT
  clear hT o1 o2 o3 e1 e2 e3 e4 e5 e6 hs1 hs2 z1 z2 hcc
  go_enter Tryd.func19, Tryd.ntmps19
  go_wp2_with fail
  obtain ⟨n0_, n1_, hsz, hw0⟩ := two_new w (.cells #[.int .i64 22, .int .i64 7] 23) (.cells #[.int .i64 0, .int .i64 0] 23)
  generalize ((w.alloc (.cells #[.int .i64 22, .int .i64 7] 23)).alloc (.cells #[.int .i64 0, .int .i64 0] 23)) = W0 at *
  clear hsz
  refine ((unhide HV) _ ((unhide HT).below hw0)).mono ?_
  rintro e W1 ⟨rfl, hb⟩
  have x1 := (hb.block _ (lt_of_block n0_)).trans n0_
  have r1 := (hb.block _ (lt_of_block n1_)).trans n1_
  have hw1 := below_step' hw0 hb
  clear n0_ n1_ hb hw0 W0
  have k0 : W1.cell? ⟨w.heap.size, 0, none⟩ = some (.int .i64 22) := cells_of x1 0
  have k1 : W1.cell? ⟨w.heap.size, 1, none⟩ = some (.int .i64 7) := cells_of x1 1
  have X1 := hide x1
  have R1 := hide r1
  clear x1 r1
  go_wp2_with fail
  refine ((unhide HNB) _).mono ?_
  rintro e W2 ⟨rfl, hb⟩
  have x1 := (hb.block _ (lt_of_block (unhide X1))).trans (unhide X1)
  have r1 := (hb.block _ (lt_of_block (unhide R1))).trans (unhide R1)
  have hw2 := below_step' hw1 hb
  clear k0 k1 hb hw1 X1 R1
  have k0 : W2.cell? ⟨w.heap.size, 0, none⟩ = some (.int .i64 22) := cells_of x1 0
  have k1 : W2.cell? ⟨w.heap.size, 1, none⟩ = some (.int .i64 7) := cells_of x1 1
  have X1 := hide x1
  have R1 := hide r1
  clear x1 r1
  go_upto_region 9 with fail
  obtain ⟨n7, n8, hsz, hb⟩ := two_new W2 (.cells #[.int .i64 3, .int .i64 1] 23) (.cells #[.int .i64 16, .int .i64 5] 23)
  have x1 := (hb.block _ (lt_of_block (unhide X1))).trans (unhide X1)
  have r1 := (hb.block _ (lt_of_block (unhide R1))).trans (unhide R1)
  have hw3 := below_step' hw2 hb
  generalize ((W2.alloc (.cells #[.int .i64 3, .int .i64 1] 23)).alloc (.cells #[.int .i64 16, .int .i64 5] 23)) = W3 at *
  have ob7 : w.heap.size + 1 < W2.heap.size := lt_of_block (unhide R1)
  obtain ⟨b7, hb7⟩ : ∃ b, b = W2.heap.size := ⟨_, rfl⟩
  rw [← hb7] at n7 n8 ob7 ⊢
  clear k0 k1 hb hw2 X1 R1 hsz hb7
  have k0 : W3.cell? ⟨w.heap.size, 0, none⟩ = some (.int .i64 22) := cells_of x1 0
  have k1 : W3.cell? ⟨w.heap.size, 1, none⟩ = some (.int .i64 7) := cells_of x1 1
  go_wp2_with fail
  refine ((unhide HO) _).mono ?_
  rintro e W4 ⟨s1, neg1, A1, c1, l1, s2, neg2, A2, c2, l2, rfl, hf1, hf2, hb⟩
  go_upto_region 10 with fail
  have n9 := heap_alloc_new W4 (.cells #[.int .i64 s1, .bool neg1, .slice A1 l1.length c1, .int .i64 s2, .bool neg2, .slice A2 l2.length c2] 60)
  have hn : Below W4.heap.size W4 (W4.alloc (.cells #[.int .i64 s1, .bool neg1, .slice A1 l1.length c1, .int .i64 s2, .bool neg2, .slice A2 l2.length c2] 60)) := below_alloc (Below.refl _ _) _
  have ob9 : W3.heap.size ≤ W4.heap.size := hb.size
  generalize W4.alloc (.cells #[.int .i64 s1, .bool neg1, .slice A1 l1.length c1, .int .i64 s2, .bool neg2, .slice A2 l2.length c2] 60) = W5 at *
  obtain ⟨b9, hb9⟩ : ∃ b, b = W4.heap.size := ⟨_, rfl⟩
  rw [← hb9] at n9 ob9 ⊢
  have hB5 := below_step' hb hn
  have H1 := hide (hf1.below hn)
  have H2 := hide (hf2.below hn)
  have m7 := (hB5.block _ (lt_of_block n7)).trans n7
  have m8 := (hB5.block _ (lt_of_block n8)).trans n8
  have mr := (hB5.block _ (lt_of_block r1)).trans r1
  have HB := Lib.hid (below_step' hw3 hB5)
  have HM8 := hide m8
  have HMR := hide mr
  have kb7_0 : W5.cell? ⟨b7, 0, none⟩ = some (.int .i64 3) := cells_of m7 0
  have kb7_1 : W5.cell? ⟨b7, 1, none⟩ = some (.int .i64 1) := cells_of m7 1
  have kb8_0 : W5.cell? ⟨b7 + 1, 0, none⟩ = some (.int .i64 16) := cells_of m8 0
  have kb8_1 : W5.cell? ⟨b7 + 1, 1, none⟩ = some (.int .i64 5) := cells_of m8 1
  have kb9_0 : W5.cell? ⟨b9, 0, none⟩ = some (.int .i64 s1) := cells_of n9 0
  have kb9_1 : W5.cell? ⟨b9, 1, none⟩ = some (.bool neg1) := cells_of n9 1
  have kb9_2 : W5.cell? ⟨b9, 2, none⟩ = some (.slice A1 l1.length c1) := cells_of n9 2
  have kb9_3 : W5.cell? ⟨b9, 3, none⟩ = some (.int .i64 s2) := cells_of n9 3
  have kb9_4 : W5.cell? ⟨b9, 4, none⟩ = some (.bool neg2) := cells_of n9 4
  have kb9_5 : W5.cell? ⟨b9, 5, none⟩ = some (.slice A2 l2.length c2) := cells_of n9 5
  have qb7 := lt_of_block m7
  have qb8 := lt_of_block m8
  have qb9 := lt_of_block n9
  clear k0 k1 hf1 hf2 hb hn n7 n8 n9 x1 r1 m7 m8 mr hw3 hB5 ob9 hb9
  have KEEP := hide (show ∀ X, Below W5.heap.size W5 X → X.cell? ⟨b7, 0, none⟩ = some (.int .i64 3) ∧ X.cell? ⟨b7, 1, none⟩ = some (.int .i64 1) ∧ X.cell? ⟨b7 + 1, 0, none⟩ = some (.int .i64 16) ∧ X.cell? ⟨b7 + 1, 1, none⟩ = some (.int .i64 5) ∧ X.cell? ⟨b9, 0, none⟩ = some (.int .i64 s1) ∧ X.cell? ⟨b9, 1, none⟩ = some (.bool neg1) ∧ X.cell? ⟨b9, 2, none⟩ = some (.slice A1 l1.length c1) ∧ X.cell? ⟨b9, 3, none⟩ = some (.int .i64 s2) ∧ X.cell? ⟨b9, 4, none⟩ = some (.bool neg2) ∧ X.cell? ⟨b9, 5, none⟩ = some (.slice A2 l2.length c2) from fun X hB => ⟨keep_cell hB qb7 kb7_0, keep_cell hB qb7 kb7_1, keep_cell hB qb8 kb8_0, keep_cell hB qb8 kb8_1, keep_cell hB qb9 kb9_0, keep_cell hB qb9 kb9_1, keep_cell hB qb9 kb9_2, keep_cell hB qb9 kb9_3, keep_cell hB qb9 kb9_4, keep_cell hB qb9 kb9_5⟩)
  go_region_held3 (fun w' => w'.cell? ⟨b7, 0, none⟩ = some (.int .i64 3) ∧ w'.cell? ⟨b7, 1, none⟩ = some (.int .i64 1) ∧ w'.cell? ⟨b7 + 1, 0, none⟩ = some (.int .i64 16) ∧ w'.cell? ⟨b7 + 1, 1, none⟩ = some (.int .i64 5) ∧ w'.cell? ⟨b9, 0, none⟩ = some (.int .i64 s1) ∧ w'.cell? ⟨b9, 1, none⟩ = some (.bool neg1) ∧ w'.cell? ⟨b9, 2, none⟩ = some (.slice A1 l1.length c1) ∧ w'.cell? ⟨b9, 3, none⟩ = some (.int .i64 s2) ∧ w'.cell? ⟨b9, 4, none⟩ = some (.bool neg2) ∧ w'.cell? ⟨b9, 5, none⟩ = some (.slice A2 l2.length c2)) (exact (unhide KEEP) _ (by (repeat (first | with_reducible exact Below.refl _ _ | with_reducible assumption | with_reducible refine Below.drew ?_ | with_reducible refine below_alloc ?_ _)))) (first | (go_at_call_of 35 (Value.agg #[.int .i64 3, .int .i64 1]); refine ((unhide HO1) _).mono ?_; rintro e w' ⟨s5, neg5, A5, c5, l5, s6, neg6, A6, c6, l6, rfl, hf5, hf6, hb5⟩; have hbw := below_step (w := W5) (by (repeat (first | with_reducible exact Below.refl _ _ | with_reducible assumption | with_reducible refine Below.drew ?_ | with_reducible refine below_alloc ?_ _))) hb5; have hsw := hbw.size; obtain ⟨hc, hfz⟩ := bcell hbw) | (go_at_call_of 50 (Value.agg #[.int .i64 s1, .bool neg1, .slice A1 l1.length c1, .int .i64 s2, .bool neg2, .slice A2 l2.length c2]); refine ((unhide HS1) s1 neg1 A1 c1 l1 s2 neg2 A2 c2 l2 s5 neg5 A5 c5 l5 s6 neg6 A6 c6 l6 _ (below_step' HB.out (by (repeat (first | with_reducible exact Below.refl _ _ | with_reducible assumption | with_reducible refine Below.drew ?_ | with_reducible refine below_alloc ?_ _)))) (IntF.below (unhide H1) (by (repeat (first | with_reducible exact Below.refl _ _ | with_reducible assumption | with_reducible refine Below.drew ?_ | with_reducible refine below_alloc ?_ _)))) (IntF.below (unhide H2) (by (repeat (first | with_reducible exact Below.refl _ _ | with_reducible assumption | with_reducible refine Below.drew ?_ | with_reducible refine below_alloc ?_ _)))) (IntF.below hf5 (by (repeat (first | with_reducible exact Below.refl _ _ | with_reducible assumption | with_reducible refine Below.drew ?_ | with_reducible refine below_alloc ?_ _)))) (IntF.below hf6 (by (repeat (first | with_reducible exact Below.refl _ _ | with_reducible assumption | with_reducible refine Below.drew ?_ | with_reducible refine below_alloc ?_ _))))).mono ?_; rintro e w' ⟨s7, neg7, A7, c7, l7, s8, neg8, A8, c8, l8, rfl, hf7, hf8, hb7⟩; have hbw := below_step (w := W5) (by (repeat (first | with_reducible exact Below.refl _ _ | with_reducible assumption | with_reducible refine Below.drew ?_ | with_reducible refine below_alloc ?_ _))) hb7; have hsw := hbw.size; obtain ⟨hc, hfz⟩ := bcell hbw) | (go_at_call_of 35 (Value.agg #[.int .i64 16, .int .i64 5]); refine ((unhide HO2) _).mono ?_; rintro e w' ⟨s9, neg9, A9, c9, l9, s10, neg10, A10, c10, l10, rfl, hf9, hf10, hb9⟩; have hf7 := IntF.below (IntF.below hf7 (by (repeat (first | with_reducible exact Below.refl _ _ | with_reducible assumption | with_reducible refine Below.drew ?_ | with_reducible refine below_alloc ?_ _)))) hb9; have hf8 := IntF.below (IntF.below hf8 (by (repeat (first | with_reducible exact Below.refl _ _ | with_reducible assumption | with_reducible refine Below.drew ?_ | with_reducible refine below_alloc ?_ _)))) hb9; have hbw := below_step (w := W5) (by (repeat (first | with_reducible exact Below.refl _ _ | with_reducible assumption | with_reducible refine Below.drew ?_ | with_reducible refine below_alloc ?_ _))) hb9; have hsw := hbw.size; obtain ⟨hc, hfz⟩ := bcell hbw) | (go_at_call_of 50 (Value.agg #[.int .i64 s9, .bool neg9, .slice A9 l9.length c9, .int .i64 s10, .bool neg10, .slice A10 l10.length c10]); refine ((unhide HS2) s9 neg9 A9 c9 l9 s10 neg10 A10 c10 l10 s1 neg1 A1 c1 l1 s2 neg2 A2 c2 l2 _ (below_step' HB.out (by (repeat (first | with_reducible exact Below.refl _ _ | with_reducible assumption | with_reducible refine Below.drew ?_ | with_reducible refine below_alloc ?_ _)))) (IntF.below hf9 (by (repeat (first | with_reducible exact Below.refl _ _ | with_reducible assumption | with_reducible refine Below.drew ?_ | with_reducible refine below_alloc ?_ _)))) (IntF.below hf10 (by (repeat (first | with_reducible exact Below.refl _ _ | with_reducible assumption | with_reducible refine Below.drew ?_ | with_reducible refine below_alloc ?_ _)))) (IntF.below (unhide H1) (by (repeat (first | with_reducible exact Below.refl _ _ | with_reducible assumption | with_reducible refine Below.drew ?_ | with_reducible refine below_alloc ?_ _)))) (IntF.below (unhide H2) (by (repeat (first | with_reducible exact Below.refl _ _ | with_reducible assumption | with_reducible refine Below.drew ?_ | with_reducible refine below_alloc ?_ _))))).mono ?_; rintro e w' ⟨s11, neg11, A11, c11, l11, s12, neg12, A12, c12, l12, rfl, hf11, hf12, hb11⟩; have hf7 := IntF.below (IntF.below hf7 (by (repeat (first | with_reducible exact Below.refl _ _ | with_reducible assumption | with_reducible refine Below.drew ?_ | with_reducible refine below_alloc ?_ _)))) hb11; have hf8 := IntF.below (IntF.below hf8 (by (repeat (first | with_reducible exact Below.refl _ _ | with_reducible assumption | with_reducible refine Below.drew ?_ | with_reducible refine below_alloc ?_ _)))) hb11; have hbw := below_step (w := W5) (by (repeat (first | with_reducible exact Below.refl _ _ | with_reducible assumption | with_reducible refine Below.drew ?_ | with_reducible refine below_alloc ?_ _))) hb11; have hsw := hbw.size; obtain ⟨hc, hfz⟩ := bcell hbw) | (go_at_call_of 36 (Value.agg #[.int .i64 s7, .bool neg7, .slice A7 l7.length c7, .int .i64 s8, .bool neg8, .slice A8 l8.length c8]); refine ((unhide HCC) s7 neg7 A7 c7 l7 s8 neg8 A8 c8 l8 s11 neg11 A11 c11 l11 s12 neg12 A12 c12 l12 _ (below_step' HB.out (by (repeat (first | with_reducible exact Below.refl _ _ | with_reducible assumption | with_reducible refine Below.drew ?_ | with_reducible refine below_alloc ?_ _)))) (IntF.below hf7 (by (repeat (first | with_reducible exact Below.refl _ _ | with_reducible assumption | with_reducible refine Below.drew ?_ | with_reducible refine below_alloc ?_ _)))) (IntF.below hf8 (by (repeat (first | with_reducible exact Below.refl _ _ | with_reducible assumption | with_reducible refine Below.drew ?_ | with_reducible refine below_alloc ?_ _)))) (IntF.below hf11 (by (repeat (first | with_reducible exact Below.refl _ _ | with_reducible assumption | with_reducible refine Below.drew ?_ | with_reducible refine below_alloc ?_ _)))) (IntF.below hf12 (by (repeat (first | with_reducible exact Below.refl _ _ | with_reducible assumption | with_reducible refine Below.drew ?_ | with_reducible refine below_alloc ?_ _))))).mono ?_; rintro e w' ⟨rfl, hb13⟩; have hbw := below_step (w := W5) (by (repeat (first | with_reducible exact Below.refl _ _ | with_reducible assumption | with_reducible refine Below.drew ?_ | with_reducible refine below_alloc ?_ _))) hb13; have hsw := hbw.size; obtain ⟨hc, hfz⟩ := bcell hbw))
  have hbb := below_step' HB.out hbw
  have m8 := (hbw.block _ qb8).trans (unhide HM8)
  have mr := (hbw.block _ (lt_of_block (unhide HMR))).trans (unhide HMR)
  clear hf7 hf8 hf11 hf12 hc hfz KEEP kb7_0 kb7_1 kb8_0 kb8_1
  have k0 : w'.cell? ⟨b7 + 1, 0, none⟩ = some (.int .i64 16) := cells_of m8 0
  have k1 : w'.cell? ⟨b7 + 1, 1, none⟩ = some (.int .i64 5) := cells_of m8 1
  have r0 : w'.cell? ⟨w.heap.size + 1, 0, none⟩ = some (.int .i64 0) := cells_of mr 0
  have r1 : w'.cell? ⟨w.heap.size + 1, 1, none⟩ = some (.int .i64 0) := cells_of mr 1
  have f0 : w'.frozen? ⟨w.heap.size + 1, 0, none⟩ = false := unfrozen_of mr 0
  have f1 : w'.frozen? ⟨w.heap.size + 1, 1, none⟩ = false := unfrozen_of mr 1
  go_wp2_with fail
  exact bodyPost_ret (v := .tuple #[(Value.agg #[.int .i64 16, .int .i64 5]), .int .i64 0]) (by simp [results, Tryd.results19, go_sem, r0, r1]) rfl
    ⟨rfl, hbb.grown (set2_grown _ _ _ _) hbb.size (fun k hk => by injection hk with hk; omega)⟩

end Go.Proofs.YtaaccgjopcgbfaaDoor
/- A quotient of two whole numbers, in lowest terms. -/
namespace Go.Proofs.YtaaccgjopcgbfaaDoor
open Go.RowKit

set_option maxRecDepth 100000 in
set_option maxHeartbeats 16000000 in
theorem newr_pos (s1 : Int) (neg1 : Bool) (A1 : Option Addr) (c1 : Nat) (l1 : List Nat) (s2 : Int) (neg2 : Bool) (A2 : Option Addr) (c2 : Nat) (l2 : List Nat) (z1 z2 g r1 r2 : Int) (w : World) (f1 : IntF w s1 neg1 A1 c1 l1 z1) (f2 : IntF w s2 neg2 A2 c2 l2 z2) (hs : ¬ z2 < 0)
    (hg : Op2 w 67 z1 z2 g) (hq1 : Op2 w 70 z1 g r1) (hq2 : Op2 w 70 z2 g r2) :
    Calls Tryd.prog 30 #[(Value.agg #[.int .i64 s1, .bool neg1, .slice A1 l1.length c1]), (Value.agg #[.int .i64 s2, .bool neg2, .slice A2 l2.length c2])] w fun e w' => PairR w r1 r2 e w' := by

  have H1 := hide f1
  have H2 := hide f2
  have HG := hide hg
  have HQ1 := hide hq1
  have HQ2 := hide hq2
  have hs' : decide (sgn z2 < 0) = false := decide_eq_false (by rw [sgn_neg]; exact hs)
  obtain ⟨o, ho⟩ : ∃ o, o = sgn z2 := ⟨_, rfl⟩
  have HS := hide (fun W (f : IntF W s2 neg2 A2 c2 l2 z2) => (show Calls Tryd.prog 68 #[(Value.agg #[.int .i64 s2, .bool neg2, .slice A2 l2.length c2])] W fun e w' => e = .returned (.int .i64 o) ∧ Below W.heap.size W w' by rw [ho]; exact sign_any s2 neg2 A2 c2 l2 z2 W f))
  rw [← ho] at hs'
  clear f1 f2 hg hq1 hq2 hs ho
  go_enter Tryd.func30, Tryd.ntmps30
  go_upto_region 1 with fail
  obtain ⟨n0, n1, n2, hsz, hw0⟩ := three_new w (.cells #[.int .i64 s1, .bool neg1, .slice A1 l1.length c1] 58) (.cells #[.int .i64 s2, .bool neg2, .slice A2 l2.length c2] 58) (.cells #[.int .i64 0, .bool false, .slice none 0 0, .int .i64 0, .bool false, .slice none 0 0] 60)
  generalize (((w.alloc (.cells #[.int .i64 s1, .bool neg1, .slice A1 l1.length c1] 58)).alloc (.cells #[.int .i64 s2, .bool neg2, .slice A2 l2.length c2] 58)).alloc (.cells #[.int .i64 0, .bool false, .slice none 0 0, .int .i64 0, .bool false, .slice none 0 0] 60)) = W0 at *
  have k0_0 : W0.cell? ⟨w.heap.size, 0, none⟩ = some (.int .i64 s1) := cells_of n0 0
  have k0_1 : W0.cell? ⟨w.heap.size, 1, none⟩ = some (.bool neg1) := cells_of n0 1
  have k0_2 : W0.cell? ⟨w.heap.size, 2, none⟩ = some (.slice A1 l1.length c1) := cells_of n0 2
  have q0 : w.heap.size < W0.heap.size := by omega
  have k1_0 : W0.cell? ⟨w.heap.size + 1, 0, none⟩ = some (.int .i64 s2) := cells_of n1 0
  have k1_1 : W0.cell? ⟨w.heap.size + 1, 1, none⟩ = some (.bool neg2) := cells_of n1 1
  have k1_2 : W0.cell? ⟨w.heap.size + 1, 2, none⟩ = some (.slice A2 l2.length c2) := cells_of n1 2
  have q1 : w.heap.size + 1 < W0.heap.size := by omega
  have k2_0 : W0.cell? ⟨w.heap.size + 1 + 1, 0, none⟩ = some (.int .i64 0) := cells_of n2 0
  have k2_1 : W0.cell? ⟨w.heap.size + 1 + 1, 1, none⟩ = some (.bool false) := cells_of n2 1
  have k2_2 : W0.cell? ⟨w.heap.size + 1 + 1, 2, none⟩ = some (.slice none 0 0) := cells_of n2 2
  have k2_3 : W0.cell? ⟨w.heap.size + 1 + 1, 3, none⟩ = some (.int .i64 0) := cells_of n2 3
  have k2_4 : W0.cell? ⟨w.heap.size + 1 + 1, 4, none⟩ = some (.bool false) := cells_of n2 4
  have k2_5 : W0.cell? ⟨w.heap.size + 1 + 1, 5, none⟩ = some (.slice none 0 0) := cells_of n2 5
  have q2 : w.heap.size + 1 + 1 < W0.heap.size := by omega
  have f2_0 := unfrozen_of n2 0
  have f2_1 := unfrozen_of n2 1
  have f2_2 := unfrozen_of n2 2
  have f2_3 := unfrozen_of n2 3
  have f2_4 := unfrozen_of n2 4
  have f2_5 := unfrozen_of n2 5
  have NR := Lib.hid n2
  clear hsz n0 n1 n2
  replace H1 := hide ((unhide H1).below hw0)
  replace H2 := hide ((unhide H2).below hw0)
  go_cut [5] (fun s5_ wx => ∃ b5 : Nat, s5_ = .pointer (some ⟨b5, 0, none⟩) ∧ BoxI wx b5 g ∧ Below W0.heap.size W0 wx ∧ W0.heap.size ≤ b5)
  case first =>
    go_wp2_with fail
    refine ((unhide HG) s1 neg1 A1 c1 l1 s2 neg2 A2 c2 l2 _ hw0 (unhide H1) (unhide H2)).mono ?_
    rintro e w' ⟨s5, neg5, A5, c5, l5, rfl, hf5, hb5⟩
    go_wp2_with fail
    go_meet
    exact ⟨_, rfl, put_n hf5 hb5 rfl⟩
  case rest =>
    revert hcut
    generalize wc = W1
    intro hcut
    obtain ⟨b5, rfl, ⟨s5, neg5, A5, c5, l5, n5, f5⟩, hB1, ob5⟩ := hcut
    have k5_0 : W1.cell? ⟨b5, 0, none⟩ = some (.int .i64 s5) := cells_of n5 0
    have k5_1 : W1.cell? ⟨b5, 1, none⟩ = some (.bool neg5) := cells_of n5 1
    have k5_2 : W1.cell? ⟨b5, 2, none⟩ = some (.slice A5 l5.length c5) := cells_of n5 2
    have y0 : W1.cell? ⟨w.heap.size + 1, 0, none⟩ = some (.int .i64 s2) := keep_cell hB1 q1 k1_0
    have y1 : W1.cell? ⟨w.heap.size + 1, 1, none⟩ = some (.bool neg2) := keep_cell hB1 q1 k1_1
    have y2 : W1.cell? ⟨w.heap.size + 1, 2, none⟩ = some (.slice A2 l2.length c2) := keep_cell hB1 q1 k1_2
    go_wp2_with fail
    refine ((unhide HS) W1 ((unhide H2).below hB1)).mono ?_
    rintro e W2 ⟨rfl, hb⟩
    have q5 := lt_of_block n5
    have n5' := (hb.block _ q5).trans n5
    have f5' := f5.below hb
    have hB := below_step' hB1 hb
    clear k5_0 k5_1 k5_2 y0 y1 y2 f5 n5 hB1
    have ng := n5'
    have fg := f5'
    clear n5' f5' hb
    have FG := hide fg
    clear fg
    have k0_0' : W2.cell? ⟨w.heap.size, 0, none⟩ = some (.int .i64 s1) := keep_cell hB q0 k0_0
    have k0_1' : W2.cell? ⟨w.heap.size, 1, none⟩ = some (.bool neg1) := keep_cell hB q0 k0_1
    have k0_2' : W2.cell? ⟨w.heap.size, 2, none⟩ = some (.slice A1 l1.length c1) := keep_cell hB q0 k0_2
    have q0' : w.heap.size < W2.heap.size := Nat.lt_of_lt_of_le q0 hB.size
    have k1_0' : W2.cell? ⟨w.heap.size + 1, 0, none⟩ = some (.int .i64 s2) := keep_cell hB q1 k1_0
    have k1_1' : W2.cell? ⟨w.heap.size + 1, 1, none⟩ = some (.bool neg2) := keep_cell hB q1 k1_1
    have k1_2' : W2.cell? ⟨w.heap.size + 1, 2, none⟩ = some (.slice A2 l2.length c2) := keep_cell hB q1 k1_2
    have q1' : w.heap.size + 1 < W2.heap.size := Nat.lt_of_lt_of_le q1 hB.size
    have k5_0' := cells_of ng 0
    have k5_1' := cells_of ng 1
    have k5_2' := cells_of ng 2
    have q5' := lt_of_block ng
    simp only [Array.getElem?_eq_getElem, three0, three1, three2] at k5_0' k5_1' k5_2'
    have kr_0 : W2.cell? ⟨w.heap.size + 1 + 1, 0, none⟩ = some (.int .i64 0) := keep_cell hB q2 k2_0
    have fr_0 : W2.frozen? ⟨w.heap.size + 1 + 1, 0, none⟩ = false := (hB.frozen (p := ⟨w.heap.size + 1 + 1, 0, none⟩) q2).trans f2_0
    have kr_1 : W2.cell? ⟨w.heap.size + 1 + 1, 1, none⟩ = some (.bool false) := keep_cell hB q2 k2_1
    have fr_1 : W2.frozen? ⟨w.heap.size + 1 + 1, 1, none⟩ = false := (hB.frozen (p := ⟨w.heap.size + 1 + 1, 1, none⟩) q2).trans f2_1
    have kr_2 : W2.cell? ⟨w.heap.size + 1 + 1, 2, none⟩ = some (.slice none 0 0) := keep_cell hB q2 k2_2
    have fr_2 : W2.frozen? ⟨w.heap.size + 1 + 1, 2, none⟩ = false := (hB.frozen (p := ⟨w.heap.size + 1 + 1, 2, none⟩) q2).trans f2_2
    have kr_3 : W2.cell? ⟨w.heap.size + 1 + 1, 3, none⟩ = some (.int .i64 0) := keep_cell hB q2 k2_3
    have fr_3 : W2.frozen? ⟨w.heap.size + 1 + 1, 3, none⟩ = false := (hB.frozen (p := ⟨w.heap.size + 1 + 1, 3, none⟩) q2).trans f2_3
    have kr_4 : W2.cell? ⟨w.heap.size + 1 + 1, 4, none⟩ = some (.bool false) := keep_cell hB q2 k2_4
    have fr_4 : W2.frozen? ⟨w.heap.size + 1 + 1, 4, none⟩ = false := (hB.frozen (p := ⟨w.heap.size + 1 + 1, 4, none⟩) q2).trans f2_4
    have kr_5 : W2.cell? ⟨w.heap.size + 1 + 1, 5, none⟩ = some (.slice none 0 0) := keep_cell hB q2 k2_5
    have fr_5 : W2.frozen? ⟨w.heap.size + 1 + 1, 5, none⟩ = false := (hB.frozen (p := ⟨w.heap.size + 1 + 1, 5, none⟩) q2).trans f2_5
    have qr : w.heap.size + 1 + 1 < W2.heap.size := Nat.lt_of_lt_of_le q2 hB.size
    have or5 : w.heap.size + 1 + 1 < b5 := Nat.lt_of_lt_of_le q2 ob5
    clear k0_0 k0_1 k0_2 k1_0 k1_1 k1_2 k2_0 k2_1 k2_2 k2_3 k2_4 k2_5 f2_0 f2_1 f2_2 f2_3 f2_4 f2_5 ng
    have KEEP := hide (show ∀ X, Below W2.heap.size W2 X → X.cell? ⟨w.heap.size, 0, none⟩ = some (.int .i64 s1) ∧ X.cell? ⟨w.heap.size, 1, none⟩ = some (.bool neg1) ∧ X.cell? ⟨w.heap.size, 2, none⟩ = some (.slice A1 l1.length c1) ∧ X.cell? ⟨w.heap.size + 1, 0, none⟩ = some (.int .i64 s2) ∧ X.cell? ⟨w.heap.size + 1, 1, none⟩ = some (.bool neg2) ∧ X.cell? ⟨w.heap.size + 1, 2, none⟩ = some (.slice A2 l2.length c2) ∧ X.cell? ⟨b5, 0, none⟩ = some (.int .i64 s5) ∧ X.cell? ⟨b5, 1, none⟩ = some (.bool neg5) ∧ X.cell? ⟨b5, 2, none⟩ = some (.slice A5 l5.length c5) from fun X hX => ⟨keep_cell hX q0' k0_0', keep_cell hX q0' k0_1', keep_cell hX q0' k0_2', keep_cell hX q1' k1_0', keep_cell hX q1' k1_1', keep_cell hX q1' k1_2', keep_cell hX q5' k5_0', keep_cell hX q5' k5_1', keep_cell hX q5' k5_2'⟩)
    go_wp2_with fail
    go_region_held3 (fun w' => w'.cell? ⟨w.heap.size, 0, none⟩ = some (.int .i64 s1) ∧ w'.cell? ⟨w.heap.size, 1, none⟩ = some (.bool neg1) ∧ w'.cell? ⟨w.heap.size, 2, none⟩ = some (.slice A1 l1.length c1) ∧ w'.cell? ⟨w.heap.size + 1, 0, none⟩ = some (.int .i64 s2) ∧ w'.cell? ⟨w.heap.size + 1, 1, none⟩ = some (.bool neg2) ∧ w'.cell? ⟨w.heap.size + 1, 2, none⟩ = some (.slice A2 l2.length c2) ∧ w'.cell? ⟨b5, 0, none⟩ = some (.int .i64 s5) ∧ w'.cell? ⟨b5, 1, none⟩ = some (.bool neg5) ∧ w'.cell? ⟨b5, 2, none⟩ = some (.slice A5 l5.length c5)) (first | with_reducible exact ⟨(cell_set6 _ _ _ _ _ _ _ _ (by omega)).trans (keep_cell hbw q0' k0_0'), (cell_set6 _ _ _ _ _ _ _ _ (by omega)).trans (keep_cell hbw q0' k0_1'), (cell_set6 _ _ _ _ _ _ _ _ (by omega)).trans (keep_cell hbw q0' k0_2'), (cell_set6 _ _ _ _ _ _ _ _ (by omega)).trans (keep_cell hbw q1' k1_0'), (cell_set6 _ _ _ _ _ _ _ _ (by omega)).trans (keep_cell hbw q1' k1_1'), (cell_set6 _ _ _ _ _ _ _ _ (by omega)).trans (keep_cell hbw q1' k1_2'), (cell_set6 _ _ _ _ _ _ _ _ (by omega)).trans (keep_cell hbw q5' k5_0'), (cell_set6 _ _ _ _ _ _ _ _ (by omega)).trans (keep_cell hbw q5' k5_1'), (cell_set6 _ _ _ _ _ _ _ _ (by omega)).trans (keep_cell hbw q5' k5_2')⟩ | with_reducible exact (unhide KEEP) _ (by (repeat (first | with_reducible exact Below.refl _ _ | with_reducible assumption | with_reducible refine Below.drew ?_ | with_reducible refine below_alloc ?_ _)))) (first | (go_at_call_of 70 (Value.agg #[.int .i64 s1, .bool neg1, .slice A1 l1.length c1]); refine ((unhide HQ1) s1 neg1 A1 c1 l1 s5 neg5 A5 c5 l5 _ (below_step' hw0 (below_step' hB (by (repeat (first | with_reducible exact Below.refl _ _ | with_reducible assumption | with_reducible refine Below.drew ?_ | with_reducible refine below_alloc ?_ _))))) (IntF.below (unhide H1) (below_step' hB (by (repeat (first | with_reducible exact Below.refl _ _ | with_reducible assumption | with_reducible refine Below.drew ?_ | with_reducible refine below_alloc ?_ _))))) (IntF.below (unhide FG) (by (repeat (first | with_reducible exact Below.refl _ _ | with_reducible assumption | with_reducible refine Below.drew ?_ | with_reducible refine below_alloc ?_ _))))).mono ?_; rintro e w' ⟨s8, neg8, A8, c8, l8, rfl, hf8, hb8⟩; have hbw := below_step (w := W2) (by (repeat (first | with_reducible exact Below.refl _ _ | with_reducible assumption | with_reducible refine Below.drew ?_ | with_reducible refine below_alloc ?_ _))) hb8; have hsw := hbw.size; obtain ⟨hc, hfz⟩ := bcell hbw) | (go_at_call_of 70 (Value.agg #[.int .i64 s2, .bool neg2, .slice A2 l2.length c2]); refine ((unhide HQ2) s2 neg2 A2 c2 l2 s5 neg5 A5 c5 l5 _ (below_step' hw0 (below_step' hB (by (repeat (first | with_reducible exact Below.refl _ _ | with_reducible assumption | with_reducible refine Below.drew ?_ | with_reducible refine below_alloc ?_ _))))) (IntF.below (unhide H2) (below_step' hB (by (repeat (first | with_reducible exact Below.refl _ _ | with_reducible assumption | with_reducible refine Below.drew ?_ | with_reducible refine below_alloc ?_ _))))) (IntF.below (unhide FG) (by (repeat (first | with_reducible exact Below.refl _ _ | with_reducible assumption | with_reducible refine Below.drew ?_ | with_reducible refine below_alloc ?_ _))))).mono ?_; rintro e w' ⟨s9, neg9, A9, c9, l9, rfl, hf9, hb9⟩; have hf8 := IntF.below (IntF.below hf8 (by (repeat (first | with_reducible exact Below.refl _ _ | with_reducible assumption | with_reducible refine Below.drew ?_ | with_reducible refine below_alloc ?_ _)))) hb9; have hbw := below_step (w := W2) (by (repeat (first | with_reducible exact Below.refl _ _ | with_reducible assumption | with_reducible refine Below.drew ?_ | with_reducible refine below_alloc ?_ _))) hb9; have hsw := hbw.size; obtain ⟨hc, hfz⟩ := bcell hbw))
    have hBB : Below W0.heap.size W0 w' := below_step' hB hbw
    have hblk : w'.heap[w.heap.size + 1 + 1]? = some (.cells #[.int .i64 0, .bool false, .slice none 0 0, .int .i64 0, .bool false, .slice none 0 0] 60 (0, 0)) := (hBB.block _ q2).trans NR.out
    have HBLK := Lib.hid hblk
    have hb9 : Below w.heap.size w w' := below_step' hw0 hBB
    clear hblk
    go_wp2_with fail
    exact bodyPost_ret (v := (Value.agg #[.int .i64 s8, .bool neg8, .slice A8 l8.length c8, .int .i64 s9, .bool neg9, .slice A9 l9.length c9])) (by simp [results, Tryd.results30, go_sem, hc, kr_0, kr_1, kr_2, kr_3, kr_4, kr_5, qr]) rfl
      ⟨s8, neg8, A8, c8, l8, s9, neg9, A9, c9, l9, rfl, (hf8).upto HBLK.out (noWord6 _ _ _ _ _ _ _ _ _ _) (set6_grown _ _ _ _ _ _ _ _), (hf9).upto HBLK.out (noWord6 _ _ _ _ _ _ _ _ _ _) (set6_grown _ _ _ _ _ _ _ _), hb9.grown (set6_grown _ _ _ _ _ _ _ _) hb9.size (fun k hk => by injection hk with hk; omega)⟩
set_option maxRecDepth 100000 in
set_option maxHeartbeats 16000000 in
theorem newr_neg (s1 : Int) (neg1 : Bool) (A1 : Option Addr) (c1 : Nat) (l1 : List Nat) (s2 : Int) (neg2 : Bool) (A2 : Option Addr) (c2 : Nat) (l2 : List Nat) (z1 z2 g gn r1 r2 : Int) (w : World) (f1 : IntF w s1 neg1 A1 c1 l1 z1) (f2 : IntF w s2 neg2 A2 c2 l2 z2) (hs : z2 < 0) (hgn : gn = -g)
    (hg : Op2 w 67 z1 z2 g) (hq1 : Op2 w 70 z1 gn r1) (hq2 : Op2 w 70 z2 gn r2) :
    Calls Tryd.prog 30 #[(Value.agg #[.int .i64 s1, .bool neg1, .slice A1 l1.length c1]), (Value.agg #[.int .i64 s2, .bool neg2, .slice A2 l2.length c2])] w fun e w' => PairR w r1 r2 e w' := by
  subst hgn
  have H1 := hide f1
  have H2 := hide f2
  have HG := hide hg
  have HQ1 := hide hq1
  have HQ2 := hide hq2
  have hs' : decide (sgn z2 < 0) = true := decide_eq_true (by rw [sgn_neg]; exact hs)
  obtain ⟨o, ho⟩ : ∃ o, o = sgn z2 := ⟨_, rfl⟩
  have HS := hide (fun W (f : IntF W s2 neg2 A2 c2 l2 z2) => (show Calls Tryd.prog 68 #[(Value.agg #[.int .i64 s2, .bool neg2, .slice A2 l2.length c2])] W fun e w' => e = .returned (.int .i64 o) ∧ Below W.heap.size W w' by rw [ho]; exact sign_any s2 neg2 A2 c2 l2 z2 W f))
  rw [← ho] at hs'
  clear f1 f2 hg hq1 hq2 hs ho
  go_enter Tryd.func30, Tryd.ntmps30
  go_upto_region 1 with fail
  obtain ⟨n0, n1, n2, hsz, hw0⟩ := three_new w (.cells #[.int .i64 s1, .bool neg1, .slice A1 l1.length c1] 58) (.cells #[.int .i64 s2, .bool neg2, .slice A2 l2.length c2] 58) (.cells #[.int .i64 0, .bool false, .slice none 0 0, .int .i64 0, .bool false, .slice none 0 0] 60)
  generalize (((w.alloc (.cells #[.int .i64 s1, .bool neg1, .slice A1 l1.length c1] 58)).alloc (.cells #[.int .i64 s2, .bool neg2, .slice A2 l2.length c2] 58)).alloc (.cells #[.int .i64 0, .bool false, .slice none 0 0, .int .i64 0, .bool false, .slice none 0 0] 60)) = W0 at *
  have k0_0 : W0.cell? ⟨w.heap.size, 0, none⟩ = some (.int .i64 s1) := cells_of n0 0
  have k0_1 : W0.cell? ⟨w.heap.size, 1, none⟩ = some (.bool neg1) := cells_of n0 1
  have k0_2 : W0.cell? ⟨w.heap.size, 2, none⟩ = some (.slice A1 l1.length c1) := cells_of n0 2
  have q0 : w.heap.size < W0.heap.size := by omega
  have k1_0 : W0.cell? ⟨w.heap.size + 1, 0, none⟩ = some (.int .i64 s2) := cells_of n1 0
  have k1_1 : W0.cell? ⟨w.heap.size + 1, 1, none⟩ = some (.bool neg2) := cells_of n1 1
  have k1_2 : W0.cell? ⟨w.heap.size + 1, 2, none⟩ = some (.slice A2 l2.length c2) := cells_of n1 2
  have q1 : w.heap.size + 1 < W0.heap.size := by omega
  have k2_0 : W0.cell? ⟨w.heap.size + 1 + 1, 0, none⟩ = some (.int .i64 0) := cells_of n2 0
  have k2_1 : W0.cell? ⟨w.heap.size + 1 + 1, 1, none⟩ = some (.bool false) := cells_of n2 1
  have k2_2 : W0.cell? ⟨w.heap.size + 1 + 1, 2, none⟩ = some (.slice none 0 0) := cells_of n2 2
  have k2_3 : W0.cell? ⟨w.heap.size + 1 + 1, 3, none⟩ = some (.int .i64 0) := cells_of n2 3
  have k2_4 : W0.cell? ⟨w.heap.size + 1 + 1, 4, none⟩ = some (.bool false) := cells_of n2 4
  have k2_5 : W0.cell? ⟨w.heap.size + 1 + 1, 5, none⟩ = some (.slice none 0 0) := cells_of n2 5
  have q2 : w.heap.size + 1 + 1 < W0.heap.size := by omega
  have f2_0 := unfrozen_of n2 0
  have f2_1 := unfrozen_of n2 1
  have f2_2 := unfrozen_of n2 2
  have f2_3 := unfrozen_of n2 3
  have f2_4 := unfrozen_of n2 4
  have f2_5 := unfrozen_of n2 5
  have NR := Lib.hid n2
  clear hsz n0 n1 n2
  replace H1 := hide ((unhide H1).below hw0)
  replace H2 := hide ((unhide H2).below hw0)
  go_cut [5] (fun s5_ wx => ∃ b5 : Nat, s5_ = .pointer (some ⟨b5, 0, none⟩) ∧ BoxI wx b5 g ∧ Below W0.heap.size W0 wx ∧ W0.heap.size ≤ b5)
  case first =>
    go_wp2_with fail
    refine ((unhide HG) s1 neg1 A1 c1 l1 s2 neg2 A2 c2 l2 _ hw0 (unhide H1) (unhide H2)).mono ?_
    rintro e w' ⟨s5, neg5, A5, c5, l5, rfl, hf5, hb5⟩
    go_wp2_with fail
    go_meet
    exact ⟨_, rfl, put_n hf5 hb5 rfl⟩
  case rest =>
    revert hcut
    generalize wc = W1
    intro hcut
    obtain ⟨b5, rfl, ⟨s5, neg5, A5, c5, l5, n5, f5⟩, hB1, ob5⟩ := hcut
    have k5_0 : W1.cell? ⟨b5, 0, none⟩ = some (.int .i64 s5) := cells_of n5 0
    have k5_1 : W1.cell? ⟨b5, 1, none⟩ = some (.bool neg5) := cells_of n5 1
    have k5_2 : W1.cell? ⟨b5, 2, none⟩ = some (.slice A5 l5.length c5) := cells_of n5 2
    have y0 : W1.cell? ⟨w.heap.size + 1, 0, none⟩ = some (.int .i64 s2) := keep_cell hB1 q1 k1_0
    have y1 : W1.cell? ⟨w.heap.size + 1, 1, none⟩ = some (.bool neg2) := keep_cell hB1 q1 k1_1
    have y2 : W1.cell? ⟨w.heap.size + 1, 2, none⟩ = some (.slice A2 l2.length c2) := keep_cell hB1 q1 k1_2
    go_wp2_with fail
    refine ((unhide HS) W1 ((unhide H2).below hB1)).mono ?_
    rintro e W2 ⟨rfl, hb⟩
    have q5 := lt_of_block n5
    have n5' := (hb.block _ q5).trans n5
    have f5' := f5.below hb
    have hB := below_step' hB1 hb
    clear k5_0 k5_1 k5_2 y0 y1 y2 f5 n5 hB1
    have k5_0 : W2.cell? ⟨b5, 0, none⟩ = some (.int .i64 s5) := cells_of n5' 0
    have k5_1 : W2.cell? ⟨b5, 1, none⟩ = some (.bool neg5) := cells_of n5' 1
    have k5_2 : W2.cell? ⟨b5, 2, none⟩ = some (.slice A5 l5.length c5) := cells_of n5' 2
    have F5 := hide f5'
    clear f5' hb
    go_wp2_with fail
    refine (neg_any s5 neg5 A5 c5 l5 g _ (unhide F5)).mono ?_
    rintro e W3 ⟨s7, neg7, A7, c7, l7, rfl, hf7, hb⟩
    have n5 := (hb.block _ (lt_of_block n5')).trans n5'
    replace hB := below_step' hB hb
    clear k5_0 k5_1 k5_2 n5' hb
    have k5_0 : W3.cell? ⟨b5, 0, none⟩ = some (.int .i64 s5) := cells_of n5 0
    have k5_1 : W3.cell? ⟨b5, 1, none⟩ = some (.bool neg5) := cells_of n5 1
    have k5_2 : W3.cell? ⟨b5, 2, none⟩ = some (.slice A5 l5.length c5) := cells_of n5 2
    have u5_0 := unfrozen_of n5 0
    have u5_1 := unfrozen_of n5 1
    have u5_2 := unfrozen_of n5 2
    have HF7 := hide hf7
    have N5 := hide n5
    clear hf7 n5
    go_upto_region 4 with fail
    have pb := set3_block (u0 := .int .i64 s7) (u1 := .bool neg7) (u2 := .slice A7 l7.length c7) (unhide N5)
    have g3 := set3_grown W3 b5 (.int .i64 s7) (.bool neg7) (.slice A7 l7.length c7)
    have fg := (unhide HF7).upto (unhide N5) (noWord3 _ _ _ _ _) g3
    replace hB := hB.grown g3 hB.size (fun k hk => by injection hk with hk; omega)
    have ng := pb
    clear pb g3 k5_0 k5_1 k5_2 u5_0 u5_1 u5_2
    generalize (((W3.setCell ⟨b5, 0, none⟩ (.int .i64 s7)).setCell ⟨b5, 1, none⟩ (.bool neg7)).setCell ⟨b5, 2, none⟩ (.slice A7 l7.length c7)) = W4 at *
    have FG := hide fg
    clear fg
    have k0_0' : W4.cell? ⟨w.heap.size, 0, none⟩ = some (.int .i64 s1) := keep_cell hB q0 k0_0
    have k0_1' : W4.cell? ⟨w.heap.size, 1, none⟩ = some (.bool neg1) := keep_cell hB q0 k0_1
    have k0_2' : W4.cell? ⟨w.heap.size, 2, none⟩ = some (.slice A1 l1.length c1) := keep_cell hB q0 k0_2
    have q0' : w.heap.size < W4.heap.size := Nat.lt_of_lt_of_le q0 hB.size
    have k1_0' : W4.cell? ⟨w.heap.size + 1, 0, none⟩ = some (.int .i64 s2) := keep_cell hB q1 k1_0
    have k1_1' : W4.cell? ⟨w.heap.size + 1, 1, none⟩ = some (.bool neg2) := keep_cell hB q1 k1_1
    have k1_2' : W4.cell? ⟨w.heap.size + 1, 2, none⟩ = some (.slice A2 l2.length c2) := keep_cell hB q1 k1_2
    have q1' : w.heap.size + 1 < W4.heap.size := Nat.lt_of_lt_of_le q1 hB.size
    have k5_0' := cells_of ng 0
    have k5_1' := cells_of ng 1
    have k5_2' := cells_of ng 2
    have q5' := lt_of_block ng
    simp only [Array.getElem?_eq_getElem, three0, three1, three2] at k5_0' k5_1' k5_2'
    have kr_0 : W4.cell? ⟨w.heap.size + 1 + 1, 0, none⟩ = some (.int .i64 0) := keep_cell hB q2 k2_0
    have fr_0 : W4.frozen? ⟨w.heap.size + 1 + 1, 0, none⟩ = false := (hB.frozen (p := ⟨w.heap.size + 1 + 1, 0, none⟩) q2).trans f2_0
    have kr_1 : W4.cell? ⟨w.heap.size + 1 + 1, 1, none⟩ = some (.bool false) := keep_cell hB q2 k2_1
    have fr_1 : W4.frozen? ⟨w.heap.size + 1 + 1, 1, none⟩ = false := (hB.frozen (p := ⟨w.heap.size + 1 + 1, 1, none⟩) q2).trans f2_1
    have kr_2 : W4.cell? ⟨w.heap.size + 1 + 1, 2, none⟩ = some (.slice none 0 0) := keep_cell hB q2 k2_2
    have fr_2 : W4.frozen? ⟨w.heap.size + 1 + 1, 2, none⟩ = false := (hB.frozen (p := ⟨w.heap.size + 1 + 1, 2, none⟩) q2).trans f2_2
    have kr_3 : W4.cell? ⟨w.heap.size + 1 + 1, 3, none⟩ = some (.int .i64 0) := keep_cell hB q2 k2_3
    have fr_3 : W4.frozen? ⟨w.heap.size + 1 + 1, 3, none⟩ = false := (hB.frozen (p := ⟨w.heap.size + 1 + 1, 3, none⟩) q2).trans f2_3
    have kr_4 : W4.cell? ⟨w.heap.size + 1 + 1, 4, none⟩ = some (.bool false) := keep_cell hB q2 k2_4
    have fr_4 : W4.frozen? ⟨w.heap.size + 1 + 1, 4, none⟩ = false := (hB.frozen (p := ⟨w.heap.size + 1 + 1, 4, none⟩) q2).trans f2_4
    have kr_5 : W4.cell? ⟨w.heap.size + 1 + 1, 5, none⟩ = some (.slice none 0 0) := keep_cell hB q2 k2_5
    have fr_5 : W4.frozen? ⟨w.heap.size + 1 + 1, 5, none⟩ = false := (hB.frozen (p := ⟨w.heap.size + 1 + 1, 5, none⟩) q2).trans f2_5
    have qr : w.heap.size + 1 + 1 < W4.heap.size := Nat.lt_of_lt_of_le q2 hB.size
    have or5 : w.heap.size + 1 + 1 < b5 := Nat.lt_of_lt_of_le q2 ob5
    clear k0_0 k0_1 k0_2 k1_0 k1_1 k1_2 k2_0 k2_1 k2_2 k2_3 k2_4 k2_5 f2_0 f2_1 f2_2 f2_3 f2_4 f2_5 ng
    have KEEP := hide (show ∀ X, Below W4.heap.size W4 X → X.cell? ⟨w.heap.size, 0, none⟩ = some (.int .i64 s1) ∧ X.cell? ⟨w.heap.size, 1, none⟩ = some (.bool neg1) ∧ X.cell? ⟨w.heap.size, 2, none⟩ = some (.slice A1 l1.length c1) ∧ X.cell? ⟨w.heap.size + 1, 0, none⟩ = some (.int .i64 s2) ∧ X.cell? ⟨w.heap.size + 1, 1, none⟩ = some (.bool neg2) ∧ X.cell? ⟨w.heap.size + 1, 2, none⟩ = some (.slice A2 l2.length c2) ∧ X.cell? ⟨b5, 0, none⟩ = some (.int .i64 s7) ∧ X.cell? ⟨b5, 1, none⟩ = some (.bool neg7) ∧ X.cell? ⟨b5, 2, none⟩ = some (.slice A7 l7.length c7) from fun X hX => ⟨keep_cell hX q0' k0_0', keep_cell hX q0' k0_1', keep_cell hX q0' k0_2', keep_cell hX q1' k1_0', keep_cell hX q1' k1_1', keep_cell hX q1' k1_2', keep_cell hX q5' k5_0', keep_cell hX q5' k5_1', keep_cell hX q5' k5_2'⟩)
    go_wp2_with fail
    go_region_held3 (fun w' => w'.cell? ⟨w.heap.size, 0, none⟩ = some (.int .i64 s1) ∧ w'.cell? ⟨w.heap.size, 1, none⟩ = some (.bool neg1) ∧ w'.cell? ⟨w.heap.size, 2, none⟩ = some (.slice A1 l1.length c1) ∧ w'.cell? ⟨w.heap.size + 1, 0, none⟩ = some (.int .i64 s2) ∧ w'.cell? ⟨w.heap.size + 1, 1, none⟩ = some (.bool neg2) ∧ w'.cell? ⟨w.heap.size + 1, 2, none⟩ = some (.slice A2 l2.length c2) ∧ w'.cell? ⟨b5, 0, none⟩ = some (.int .i64 s7) ∧ w'.cell? ⟨b5, 1, none⟩ = some (.bool neg7) ∧ w'.cell? ⟨b5, 2, none⟩ = some (.slice A7 l7.length c7)) (first | with_reducible exact ⟨(cell_set6 _ _ _ _ _ _ _ _ (by omega)).trans (keep_cell hbw q0' k0_0'), (cell_set6 _ _ _ _ _ _ _ _ (by omega)).trans (keep_cell hbw q0' k0_1'), (cell_set6 _ _ _ _ _ _ _ _ (by omega)).trans (keep_cell hbw q0' k0_2'), (cell_set6 _ _ _ _ _ _ _ _ (by omega)).trans (keep_cell hbw q1' k1_0'), (cell_set6 _ _ _ _ _ _ _ _ (by omega)).trans (keep_cell hbw q1' k1_1'), (cell_set6 _ _ _ _ _ _ _ _ (by omega)).trans (keep_cell hbw q1' k1_2'), (cell_set6 _ _ _ _ _ _ _ _ (by omega)).trans (keep_cell hbw q5' k5_0'), (cell_set6 _ _ _ _ _ _ _ _ (by omega)).trans (keep_cell hbw q5' k5_1'), (cell_set6 _ _ _ _ _ _ _ _ (by omega)).trans (keep_cell hbw q5' k5_2')⟩ | with_reducible exact (unhide KEEP) _ (by (repeat (first | with_reducible exact Below.refl _ _ | with_reducible assumption | with_reducible refine Below.drew ?_ | with_reducible refine below_alloc ?_ _)))) (first | (go_at_call_of 70 (Value.agg #[.int .i64 s1, .bool neg1, .slice A1 l1.length c1]); refine ((unhide HQ1) s1 neg1 A1 c1 l1 s7 neg7 A7 c7 l7 _ (below_step' hw0 (below_step' hB (by (repeat (first | with_reducible exact Below.refl _ _ | with_reducible assumption | with_reducible refine Below.drew ?_ | with_reducible refine below_alloc ?_ _))))) (IntF.below (unhide H1) (below_step' hB (by (repeat (first | with_reducible exact Below.refl _ _ | with_reducible assumption | with_reducible refine Below.drew ?_ | with_reducible refine below_alloc ?_ _))))) (IntF.below (unhide FG) (by (repeat (first | with_reducible exact Below.refl _ _ | with_reducible assumption | with_reducible refine Below.drew ?_ | with_reducible refine below_alloc ?_ _))))).mono ?_; rintro e w' ⟨s8, neg8, A8, c8, l8, rfl, hf8, hb8⟩; have hbw := below_step (w := W4) (by (repeat (first | with_reducible exact Below.refl _ _ | with_reducible assumption | with_reducible refine Below.drew ?_ | with_reducible refine below_alloc ?_ _))) hb8; have hsw := hbw.size; obtain ⟨hc, hfz⟩ := bcell hbw) | (go_at_call_of 70 (Value.agg #[.int .i64 s2, .bool neg2, .slice A2 l2.length c2]); refine ((unhide HQ2) s2 neg2 A2 c2 l2 s7 neg7 A7 c7 l7 _ (below_step' hw0 (below_step' hB (by (repeat (first | with_reducible exact Below.refl _ _ | with_reducible assumption | with_reducible refine Below.drew ?_ | with_reducible refine below_alloc ?_ _))))) (IntF.below (unhide H2) (below_step' hB (by (repeat (first | with_reducible exact Below.refl _ _ | with_reducible assumption | with_reducible refine Below.drew ?_ | with_reducible refine below_alloc ?_ _))))) (IntF.below (unhide FG) (by (repeat (first | with_reducible exact Below.refl _ _ | with_reducible assumption | with_reducible refine Below.drew ?_ | with_reducible refine below_alloc ?_ _))))).mono ?_; rintro e w' ⟨s9, neg9, A9, c9, l9, rfl, hf9, hb9⟩; have hf8 := IntF.below (IntF.below hf8 (by (repeat (first | with_reducible exact Below.refl _ _ | with_reducible assumption | with_reducible refine Below.drew ?_ | with_reducible refine below_alloc ?_ _)))) hb9; have hbw := below_step (w := W4) (by (repeat (first | with_reducible exact Below.refl _ _ | with_reducible assumption | with_reducible refine Below.drew ?_ | with_reducible refine below_alloc ?_ _))) hb9; have hsw := hbw.size; obtain ⟨hc, hfz⟩ := bcell hbw))
    have hBB : Below W0.heap.size W0 w' := below_step' hB hbw
    have hblk : w'.heap[w.heap.size + 1 + 1]? = some (.cells #[.int .i64 0, .bool false, .slice none 0 0, .int .i64 0, .bool false, .slice none 0 0] 60 (0, 0)) := (hBB.block _ q2).trans NR.out
    have HBLK := Lib.hid hblk
    have hb9 : Below w.heap.size w w' := below_step' hw0 hBB
    clear hblk
    go_wp2_with fail
    exact bodyPost_ret (v := (Value.agg #[.int .i64 s8, .bool neg8, .slice A8 l8.length c8, .int .i64 s9, .bool neg9, .slice A9 l9.length c9])) (by simp [results, Tryd.results30, go_sem, hc, kr_0, kr_1, kr_2, kr_3, kr_4, kr_5, qr]) rfl
      ⟨s8, neg8, A8, c8, l8, s9, neg9, A9, c9, l9, rfl, (hf8).upto HBLK.out (noWord6 _ _ _ _ _ _ _ _ _ _) (set6_grown _ _ _ _ _ _ _ _), (hf9).upto HBLK.out (noWord6 _ _ _ _ _ _ _ _ _ _) (set6_grown _ _ _ _ _ _ _ _), hb9.grown (set6_grown _ _ _ _ _ _ _ _) hb9.size (fun k hk => by injection hk with hk; omega)⟩
theorem newr_any {K : Nat} (s1 : Int) (neg1 : Bool) (A1 : Option Addr) (c1 : Nat) (l1 : List Nat) (s2 : Int) (neg2 : Bool) (A2 : Option Addr) (c2 : Nat) (l2 : List Nat) (z1 z2 : Int) (w : World) (hT : Tab w) (f1 : IntF w s1 neg1 A1 c1 l1 z1) (f2 : IntF w s2 neg2 A2 c2 l2 z2) (h0 : z2 ≠ 0) (hx : Wd.Sz B64 K z1) (hy : Wd.Sz B64 K z2) (hK : K ≤ lim) :
    Calls Tryd.prog 30 #[(Value.agg #[.int .i64 s1, .bool neg1, .slice A1 l1.length c1]), (Value.agg #[.int .i64 s2, .bool neg2, .slice A2 l2.length c2])] w fun e w' => PairR w (Rat.divInt z1 z2).num ((Rat.divInt z1 z2).den : Int) e w' := by
  have hp := Wd.divInt_parts z1 z2 h0
  have g0 : 0 < z1.natAbs.gcd z2.natAbs := Nat.gcd_pos_of_pos_right _ (by omega)
  have sg : Wd.Sz B64 K ((z1.natAbs.gcd z2.natAbs : Nat) : Int) := hy.gcd_right h0
  rw [hp.1, hp.2]
  by_cases hs : z2 < 0
  · have e : z2.sign * ((z1.natAbs.gcd z2.natAbs : Nat) : Int) = -((z1.natAbs.gcd z2.natAbs : Nat) : Int) := by rw [Int.sign_eq_neg_one_of_neg hs]; omega
    rw [e]
    exact newr_neg s1 neg1 A1 c1 l1 s2 neg2 A2 c2 l2 z1 z2 _ _ _ _ w f1 f2 hs rfl (op_gcd hT hx hy hK rfl) (op_quo hx sg.neg hK (by omega) rfl) (op_quo hy sg.neg hK (by omega) rfl)
  · have e : z2.sign * ((z1.natAbs.gcd z2.natAbs : Nat) : Int) = ((z1.natAbs.gcd z2.natAbs : Nat) : Int) := by rw [Int.sign_eq_one_of_pos (by omega)]; omega
    rw [e]
    exact newr_pos s1 neg1 A1 c1 l1 s2 neg2 A2 c2 l2 z1 z2 _ _ _ w f1 f2 hs (op_gcd hT hx hy hK rfl) (op_quo hx sg hK (by omega) rfl) (op_quo hy sg hK (by omega) rfl)

end Go.Proofs.YtaaccgjopcgbfaaDoor
/- The number of two ints. -/
namespace Go.Proofs.YtaaccgjopcgbfaaDoor
open Go.RowKit

/-- What Make tells. -/
def mkE (n d : Int) : Wd.Told := if d = 0 then ⟨0, 0, 1⟩ else Wd.told (Rat.divInt n d)
set_option maxRecDepth 100000 in
set_option maxHeartbeats 16000000 in
theorem make_zero (n : Int) (w : World) : Calls Tryd.prog 7 #[.int .i64 n, .int .i64 0] w fun e w' => TolR w ⟨0, 0, 1⟩ e w' := by
  go_enter Tryd.func7, Tryd.ntmps7
  go_wp2
  exact bodyPost_ret (v := .tuple #[.agg #[.int .i64 0, .int .i64 0], .int .i64 1]) (by simp [results, Tryd.results7, go_sem]) rfl
    ⟨rfl, (Below.refl _ _).alloc (Nat.le_refl _) _⟩
set_option maxRecDepth 100000 in
set_option maxHeartbeats 16000000 in
theorem make_any (n d : Int) (w : World) (hT : Tab w) (b1 : -9223372036854775808 ≤ n) (b2 : n ≤ 9223372036854775807) (b3 : -9223372036854775808 ≤ d) (b4 : d ≤ 9223372036854775807) :
    Calls Tryd.prog 7 #[.int .i64 n, .int .i64 d] w fun e w' => TolR w (mkE n d) e w' := by
  unfold mkE
  by_cases h0 : d = 0
  · subst h0; rw [if_pos rfl]; exact make_zero n w
  rw [if_neg h0]
  obtain ⟨q, hq⟩ : ∃ q, q = Rat.divInt n d := ⟨_, rfl⟩
  have B : (9223372036854775808 : Nat) < B64 := by rw [B64_eq]; omega
  have HN := hide (fun (s5 : Int) (neg5 : Bool) (A5 : Option Addr) (c5 : Nat) (l5 : List Nat) (s6 : Int) (neg6 : Bool) (A6 : Option Addr) (c6 : Nat) (l6 : List Nat) (W : World) (hW : Tab W) (f5 : IntF W s5 neg5 A5 c5 l5 n) (f6 : IntF W s6 neg6 A6 c6 l6 d) => newr_any (K := 1) s5 neg5 A5 c5 l5 s6 neg6 A6 c6 l6 n d W hW f5 f6 h0 (Wd.Sz.of_le (by omega) B64_pos (Nat.le_refl _)) (Wd.Sz.of_le (by omega) B64_pos (Nat.le_refl _)) (by unfold lim; omega))
  rw [← hq] at HN ⊢
  have HO1 := hide (fun W => newInt_any n b1 b2 W)
  have HO2 := hide (fun W => newInt_any d b3 b4 W)
  have hz : (d == 0) = false := beq_eq_false_iff_ne.2 h0
  have HT := hide hT
  have HRT := hide (fun (s9 : Int) (neg9 : Bool) (A9 : Option Addr) (c9 : Nat) (l9 : List Nat) (s10 : Int) (neg10 : Bool) (A10 : Option Addr) (c10 : Nat) (l10 : List Nat) (W : World) (f9 : IntF W s9 neg9 A9 c9 l9 q.num) (f10 : IntF W s10 neg10 A10 c10 l10 (q.den : Int)) => rrat_any s9 neg9 A9 c9 l9 q.num s10 neg10 A10 c10 l10 (q.den : Int) W f9 f10 q rfl rfl)
  obtain ⟨tn, htn⟩ : ∃ x, x = (Wd.told q).n := ⟨_, rfl⟩
  obtain ⟨td, htd⟩ : ∃ x, x = (Wd.told q).d := ⟨_, rfl⟩
  obtain ⟨te, hte⟩ : ∃ x, x = (Wd.told q).e := ⟨_, rfl⟩
  rw [← htn, ← htd, ← hte] at HRT
  have HTL := Lib.hid (show Wd.told q = ⟨tn, td, te⟩ by rw [htn, htd, hte])
  clear htn htd hte
  clear hT h0 b1 b2 b3 b4 hq
  go_enter Tryd.func7, Tryd.ntmps7
  go_wp2_with fail
  have nr := heap_alloc_new w (.cells #[.int .i64 0, .int .i64 0] 23)
  have hw0 : Below w.heap.size w (w.alloc (.cells #[.int .i64 0, .int .i64 0] 23)) := below_alloc (Below.refl _ _) _
  generalize w.alloc (.cells #[.int .i64 0, .int .i64 0] 23) = W0 at *
  have NR := Lib.hid nr
  clear nr
  refine ((unhide HO1) _).mono ?_
  rintro e W1 ⟨s5, neg5, A5, c5, l5, rfl, hf5, hb5⟩
  go_wp2_with fail
  refine ((unhide HO2) _).mono ?_
  rintro e W2 ⟨s6, neg6, A6, c6, l6, rfl, hf6, hb6⟩
  have hB := below_step' hb5 hb6
  go_wp2_with fail
  refine ((unhide HN) s5 neg5 A5 c5 l5 s6 neg6 A6 c6 l6 _ ((unhide HT).below (below_step' hw0 hB)) (hf5.below hb6) hf6).mono ?_
  rintro e W3 ⟨s9, neg9, A9, c9, l9, s10, neg10, A10, c10, l10, rfl, hf9, hf10, hb9⟩
  replace hB := below_step' hB hb9
  go_wp2_with fail
  refine ((unhide HRT) s9 neg9 A9 c9 l9 s10 neg10 A10 c10 l10 _ hf9 hf10).mono ?_
  rintro e W4 ⟨rfl, hb10⟩
  replace hB := below_step' hB hb10
  have nr4 := (hB.block _ (lt_of_block NR.out)).trans NR.out
  have k0 : W4.cell? ⟨w.heap.size, 0, none⟩ = some (.int .i64 0) := cells_of nr4 0
  have k1 : W4.cell? ⟨w.heap.size, 1, none⟩ = some (.int .i64 0) := cells_of nr4 1
  have u0 := unfrozen_of nr4 0
  have u1 := unfrozen_of nr4 1
  have hbn : Below w.heap.size w W4 := below_step' hw0 hB
  clear nr4
  go_wp2_with fail
  exact bodyPost_ret (v := .tuple #[.agg #[.int .i64 tn, .int .i64 td], .int .i64 te]) (by simp [results, Tryd.results7, go_sem, k0, k1]) rfl
    ⟨HTL.out ▸ rfl, hbn.grown (set2_grown _ _ _ _) hbn.size (fun k hk => by injection hk with hk; omega)⟩

end Go.Proofs.YtaaccgjopcgbfaaDoor
/- The document's examples. -/
namespace Go.Proofs.YtaaccgjopcgbfaaDoor
open Go.RowKit

theorem told_ext {t : Wd.Told} {a b c : Int} (h : t.n = a ∧ t.d = b ∧ t.e = c) : t = ⟨a, b, c⟩ := by
  cases t
  obtain ⟨rfl, rfl, rfl⟩ := h
  rfl
set_option maxRecDepth 100000 in
set_option maxHeartbeats 16000000 in
theorem known_any (w : World) (hT : Tab w) : Calls Tryd.prog 13 #[] w fun e w' => e = .returned (.bool true) ∧ Below w.heap.size w w' := by
  have HM := hide (fun W (hW : Tab W) => make_any (-6) 4 W hW (by omega) (by omega) (by omega) (by omega))
  rw [told_ext (t := mkE (-6) 4) (a := -3) (b := 2) (c := 0) (by decide +kernel)] at HM
  have HF := hide (floor_any (-3) 2)
  rw [show floorV (-3) 2 = -2 by decide, show valE (-3) 2 = 0 by decide] at HF
  have HN := hide near_known
  have HT := hide hT
  clear hT
  go_enter Tryd.func13, Tryd.ntmps13
  go_wp2_with fail
  refine ((unhide HM) _ (unhide HT)).mono ?_
  rintro e W1 ⟨rfl, hb1⟩
  go_wp2_with fail
  have nx := heap_alloc_new W1 (.cells #[.int .i64 (-3), .int .i64 2] 23)
  have hb2 := below_step' hb1 (below_alloc (Below.refl _ _) (.cells #[.int .i64 (-3), .int .i64 2] 23))
  generalize W1.alloc (.cells #[.int .i64 (-3), .int .i64 2] 23) = W2 at *
  obtain ⟨bx, hbx⟩ : ∃ b, b = W1.heap.size := ⟨_, rfl⟩
  rw [← hbx] at nx ⊢
  clear hb1 hbx
  refine ((unhide HF) _ ((unhide HT).below hb2)).mono ?_
  rintro e W3 ⟨rfl, hb⟩
  have nx3 := (hb.block _ (lt_of_block nx)).trans nx
  have hb3 := below_step' hb2 hb
  clear nx hb hb2
  go_wp2_with fail
  refine ((unhide HN) _ ((unhide HT).below hb3)).mono ?_
  rintro e W4 ⟨rfl, hb⟩
  have nx4 := (hb.block _ (lt_of_block nx3)).trans nx3
  have hb4 := below_step' hb3 hb
  have hlt := lt_of_block nx4
  have k0 : W4.cell? ⟨bx, 0, none⟩ = some (.int .i64 (-3)) := cells_of nx4 0
  have k1 : W4.cell? ⟨bx, 1, none⟩ = some (.int .i64 2) := cells_of nx4 1
  have hne : ¬ (bx = W4.heap.size) := by omega
  clear nx3 nx4 hb hb3
  go_wp2
  go_ret
  exact ⟨rfl, below_alloc hb4 _⟩

end Go.Proofs.YtaaccgjopcgbfaaDoor
/- What the four functions tell, as letters. -/
namespace Go.Proofs.YtaaccgjopcgbfaaDoor
open Go.RowKit

/-- What a function tells of two numbers, in every world that has the tables. -/
def CT (F : Nat) (a b c d n' d' e' : Int) : Prop := ∀ W, Tab W → Calls Tryd.prog F #[.agg #[.int .i64 a, .int .i64 b], .agg #[.int .i64 c, .int .i64 d]] W fun e w' => e = .returned (.tuple #[.agg #[.int .i64 n', .int .i64 d'], .int .i64 e']) ∧ Below W.heap.size W w'
theorem ct_add {a b c d n' d' e' : Int} (h : Wd.addR a b c d = ⟨n', d', e'⟩) : CT 26 a b c d n' d' e' := fun W hW => by
  have := ratAdd_any a b c d W hW
  rw [h] at this
  exact this
theorem ct_sub {a b c d n' d' e' : Int} (h : Wd.subR a b c d = ⟨n', d', e'⟩) : CT 27 a b c d n' d' e' := fun W hW => by
  have := ratSub_any a b c d W hW
  rw [h] at this
  exact this
theorem ct_mul {a b c d n' d' e' : Int} (h : Wd.mulR a b c d = ⟨n', d', e'⟩) : CT 28 a b c d n' d' e' := fun W hW => by
  have := ratMul_any a b c d W hW
  rw [h] at this
  exact this
theorem ct_div {a b c d n' d' e' : Int} (h : Wd.divR a b c d = ⟨n', d', e'⟩) : CT 29 a b c d n' d' e' := fun W hW => by
  have := ratDiv_any a b c d W hW
  rw [h] at this
  exact this

end Go.Proofs.YtaaccgjopcgbfaaDoor
/- Sums and products: the walk where the first sum is told. -/
namespace Go.Proofs.YtaaccgjopcgbfaaDoor
open Go.RowKit

set_option maxRecDepth 100000 in
set_option maxHeartbeats 16000000 in
theorem field_a (n1 d1 n2 d2 n3 d3 na da ea np dp ep nv dv ev ns ds es nl dl el nm dm em nr dr er : Int) (w : World) (hT : Tab w)
    (c1 : CT 26 n1 d1 n2 d2 na da ea) (c2 : CT 26 n2 d2 n1 d1 na da ea) (c4 : CT 28 n1 d1 n2 d2 np dp ep) (c5 : CT 28 n2 d2 n1 d1 np dp ep)
    (c6 : CT 29 np dp n2 d2 nv dv ev) (hv : ep ≠ 0 ∨ (ep = 0 ∧ n2 = 0) ∨ (ep = 0 ∧ n2 ≠ 0 ∧ nv = n1 ∧ dv = d1 ∧ ev = 0))
    (c7 : CT 26 n2 d2 n3 d3 ns ds es) (c8 : CT 28 n1 d1 ns ds nl dl el) (c9 : CT 28 n1 d1 n3 d3 nm dm em) (c10 : CT 26 np dp nm dm nr dr er)
    (hd : es = 0 → el = 0 → em = 0 → er = 0 → ep = 0 → nl = nr ∧ dl = dr)
    (c3 : CT 27 na da n2 d2 n1 d1 0) (hea : ea = 0) :
    Calls Tryd.prog 6 #[(Value.agg #[.int .i64 n1, .int .i64 d1]), (Value.agg #[.int .i64 n2, .int .i64 d2]), (Value.agg #[.int .i64 n3, .int .i64 d3])] w fun e w' => e = .returned (.bool true) ∧ Below w.heap.size w w' := by
  have C1 := hide c1
  have C2 := hide c2
  have C4 := hide c4
  have C5 := hide c5
  have C6 := hide c6
  have C7 := hide c7
  have C8 := hide c8
  have C9 := hide c9
  have C10 := hide c10
  have C3 := hide c3
  have HV := Lib.hid hv
  have HD := Lib.hid hd
  have HT := hide hT
  have HK := hide known_any
  clear c1 c2 c4 c5 c6 c7 c8 c9 c10 hv hd hT c3
  subst hea
  go_enter Tryd.func6, Tryd.ntmps6
  go_upto_region 1 with fail
  obtain ⟨n0_, n1_, n2_, hsz, hw0⟩ := three_new w (.cells #[.int .i64 n1, .int .i64 d1] 23) (.cells #[.int .i64 n2, .int .i64 d2] 23) (.cells #[.int .i64 n3, .int .i64 d3] 23)
  generalize (((w.alloc (.cells #[.int .i64 n1, .int .i64 d1] 23)).alloc (.cells #[.int .i64 n2, .int .i64 d2] 23)).alloc (.cells #[.int .i64 n3, .int .i64 d3] 23)) = W0 at *
  clear hsz
  have jx := hide n0_
  have jy := hide n1_
  have jz := hide n2_
  have HB := Lib.hid hw0
  clear n0_ n1_ n2_ hw0
  have kx0 : W0.cell? ⟨w.heap.size, 0, none⟩ = some (.int .i64 n1) := cells_of (unhide jx) 0
  have kx1 : W0.cell? ⟨w.heap.size, 1, none⟩ = some (.int .i64 d1) := cells_of (unhide jx) 1
  have ky0 : W0.cell? ⟨w.heap.size + 1, 0, none⟩ = some (.int .i64 n2) := cells_of (unhide jy) 0
  have ky1 : W0.cell? ⟨w.heap.size + 1, 1, none⟩ = some (.int .i64 d2) := cells_of (unhide jy) 1
  go_wp2_with fail
  refine ((unhide C1) _ ((unhide HT).below HB.out)).mono ?_
  rintro e V1 ⟨rfl, hb⟩
  clear kx0 kx1 ky0 ky1
  go_upto_region 2 with fail
  have hn := heap_alloc_new V1 (.cells #[.int .i64 na, .int .i64 da] 23)
  replace hb := below_step' hb (below_alloc (Below.refl V1.heap.size V1) (.cells #[.int .i64 na, .int .i64 da] 23))
  generalize V1.alloc (.cells #[.int .i64 na, .int .i64 da] 23) = W1 at *
  obtain ⟨ba, hbn⟩ : ∃ b, b = V1.heap.size := ⟨_, rfl⟩
  rw [← hbn] at hn ⊢
  clear hbn
  replace jx := hide ((hb.block _ (lt_of_block (unhide jx))).trans (unhide jx))
  replace jy := hide ((hb.block _ (lt_of_block (unhide jy))).trans (unhide jy))
  replace jz := hide ((hb.block _ (lt_of_block (unhide jz))).trans (unhide jz))
  replace HB := Lib.hid (below_step' HB.out hb)
  have ja := hide hn
  clear hn hb
  have kx0 : W1.cell? ⟨w.heap.size, 0, none⟩ = some (.int .i64 n1) := cells_of (unhide jx) 0
  have kx1 : W1.cell? ⟨w.heap.size, 1, none⟩ = some (.int .i64 d1) := cells_of (unhide jx) 1
  have ky0 : W1.cell? ⟨w.heap.size + 1, 0, none⟩ = some (.int .i64 n2) := cells_of (unhide jy) 0
  have ky1 : W1.cell? ⟨w.heap.size + 1, 1, none⟩ = some (.int .i64 d2) := cells_of (unhide jy) 1
  go_wp2_with fail
  refine ((unhide C2) _ ((unhide HT).below HB.out)).mono ?_
  rintro e V2 ⟨rfl, hb⟩
  clear kx0 kx1 ky0 ky1
  go_upto_region 3 with fail
  have hn := heap_alloc_new V2 (.cells #[.int .i64 na, .int .i64 da] 23)
  replace hb := below_step' hb (below_alloc (Below.refl V2.heap.size V2) (.cells #[.int .i64 na, .int .i64 da] 23))
  generalize V2.alloc (.cells #[.int .i64 na, .int .i64 da] 23) = W2 at *
  obtain ⟨bb, hbn⟩ : ∃ b, b = V2.heap.size := ⟨_, rfl⟩
  rw [← hbn] at hn ⊢
  clear hbn
  replace jx := hide ((hb.block _ (lt_of_block (unhide jx))).trans (unhide jx))
  replace jy := hide ((hb.block _ (lt_of_block (unhide jy))).trans (unhide jy))
  replace jz := hide ((hb.block _ (lt_of_block (unhide jz))).trans (unhide jz))
  replace ja := hide ((hb.block _ (lt_of_block (unhide ja))).trans (unhide ja))
  replace HB := Lib.hid (below_step' HB.out hb)
  have jb := hide hn
  clear hn hb
  have ka0 : W2.cell? ⟨ba, 0, none⟩ = some (.int .i64 na) := cells_of (unhide ja) 0
  have ka1 : W2.cell? ⟨ba, 1, none⟩ = some (.int .i64 da) := cells_of (unhide ja) 1
  have kb0 : W2.cell? ⟨bb, 0, none⟩ = some (.int .i64 na) := cells_of (unhide jb) 0
  have kb1 : W2.cell? ⟨bb, 1, none⟩ = some (.int .i64 da) := cells_of (unhide jb) 1
  go_upto_region 5 with fail
  clear ka0 ka1 kb0 kb1
  clear jb
  go_upto_region 6 with fail
  have ky0 : W2.cell? ⟨w.heap.size + 1, 0, none⟩ = some (.int .i64 n2) := cells_of (unhide jy) 0
  have ky1 : W2.cell? ⟨w.heap.size + 1, 1, none⟩ = some (.int .i64 d2) := cells_of (unhide jy) 1
  have ka0 : W2.cell? ⟨ba, 0, none⟩ = some (.int .i64 na) := cells_of (unhide ja) 0
  have ka1 : W2.cell? ⟨ba, 1, none⟩ = some (.int .i64 da) := cells_of (unhide ja) 1
  go_wp2_with fail
  refine ((unhide C3) _ ((unhide HT).below HB.out)).mono ?_
  rintro e V3 ⟨rfl, hb⟩
  clear ky0 ky1 ka0 ka1
  go_upto_region 7 with fail
  have hn := heap_alloc_new V3 (.cells #[.int .i64 n1, .int .i64 d1] 23)
  replace hb := below_step' hb (below_alloc (Below.refl V3.heap.size V3) (.cells #[.int .i64 n1, .int .i64 d1] 23))
  generalize V3.alloc (.cells #[.int .i64 n1, .int .i64 d1] 23) = W3 at *
  obtain ⟨bc, hbn⟩ : ∃ b, b = V3.heap.size := ⟨_, rfl⟩
  rw [← hbn] at hn ⊢
  clear hbn
  replace jx := hide ((hb.block _ (lt_of_block (unhide jx))).trans (unhide jx))
  replace jy := hide ((hb.block _ (lt_of_block (unhide jy))).trans (unhide jy))
  replace jz := hide ((hb.block _ (lt_of_block (unhide jz))).trans (unhide jz))
  replace ja := hide ((hb.block _ (lt_of_block (unhide ja))).trans (unhide ja))
  replace HB := Lib.hid (below_step' HB.out hb)
  have jc := hide hn
  clear hn hb
  have kx0 : W3.cell? ⟨w.heap.size, 0, none⟩ = some (.int .i64 n1) := cells_of (unhide jx) 0
  have kx1 : W3.cell? ⟨w.heap.size, 1, none⟩ = some (.int .i64 d1) := cells_of (unhide jx) 1
  have kc0 : W3.cell? ⟨bc, 0, none⟩ = some (.int .i64 n1) := cells_of (unhide jc) 0
  have kc1 : W3.cell? ⟨bc, 1, none⟩ = some (.int .i64 d1) := cells_of (unhide jc) 1
  go_upto_region 9 with fail
  clear kx0 kx1 kc0 kc1
  clear jc
  clear ja
  have kx0 : W3.cell? ⟨w.heap.size, 0, none⟩ = some (.int .i64 n1) := cells_of (unhide jx) 0
  have kx1 : W3.cell? ⟨w.heap.size, 1, none⟩ = some (.int .i64 d1) := cells_of (unhide jx) 1
  have ky0 : W3.cell? ⟨w.heap.size + 1, 0, none⟩ = some (.int .i64 n2) := cells_of (unhide jy) 0
  have ky1 : W3.cell? ⟨w.heap.size + 1, 1, none⟩ = some (.int .i64 d2) := cells_of (unhide jy) 1
  go_wp2_with fail
  refine ((unhide C4) _ ((unhide HT).below HB.out)).mono ?_
  rintro e V4 ⟨rfl, hb⟩
  clear kx0 kx1 ky0 ky1
  go_upto_region 10 with fail
  have hn := heap_alloc_new V4 (.cells #[.int .i64 np, .int .i64 dp] 23)
  replace hb := below_step' hb (below_alloc (Below.refl V4.heap.size V4) (.cells #[.int .i64 np, .int .i64 dp] 23))
  generalize V4.alloc (.cells #[.int .i64 np, .int .i64 dp] 23) = W4 at *
  obtain ⟨bp, hbn⟩ : ∃ b, b = V4.heap.size := ⟨_, rfl⟩
  rw [← hbn] at hn ⊢
  clear hbn
  replace jx := hide ((hb.block _ (lt_of_block (unhide jx))).trans (unhide jx))
  replace jy := hide ((hb.block _ (lt_of_block (unhide jy))).trans (unhide jy))
  replace jz := hide ((hb.block _ (lt_of_block (unhide jz))).trans (unhide jz))
  replace HB := Lib.hid (below_step' HB.out hb)
  have jp := hide hn
  clear hn hb
  have kx0 : W4.cell? ⟨w.heap.size, 0, none⟩ = some (.int .i64 n1) := cells_of (unhide jx) 0
  have kx1 : W4.cell? ⟨w.heap.size, 1, none⟩ = some (.int .i64 d1) := cells_of (unhide jx) 1
  have ky0 : W4.cell? ⟨w.heap.size + 1, 0, none⟩ = some (.int .i64 n2) := cells_of (unhide jy) 0
  have ky1 : W4.cell? ⟨w.heap.size + 1, 1, none⟩ = some (.int .i64 d2) := cells_of (unhide jy) 1
  go_wp2_with fail
  refine ((unhide C5) _ ((unhide HT).below HB.out)).mono ?_
  rintro e V5 ⟨rfl, hb⟩
  clear kx0 kx1 ky0 ky1
  go_upto_region 11 with fail
  have hn := heap_alloc_new V5 (.cells #[.int .i64 np, .int .i64 dp] 23)
  replace hb := below_step' hb (below_alloc (Below.refl V5.heap.size V5) (.cells #[.int .i64 np, .int .i64 dp] 23))
  generalize V5.alloc (.cells #[.int .i64 np, .int .i64 dp] 23) = W5 at *
  obtain ⟨bq, hbn⟩ : ∃ b, b = V5.heap.size := ⟨_, rfl⟩
  rw [← hbn] at hn ⊢
  clear hbn
  replace jx := hide ((hb.block _ (lt_of_block (unhide jx))).trans (unhide jx))
  replace jy := hide ((hb.block _ (lt_of_block (unhide jy))).trans (unhide jy))
  replace jz := hide ((hb.block _ (lt_of_block (unhide jz))).trans (unhide jz))
  replace jp := hide ((hb.block _ (lt_of_block (unhide jp))).trans (unhide jp))
  replace HB := Lib.hid (below_step' HB.out hb)
  have jq := hide hn
  clear hn hb
  have kp0 : W5.cell? ⟨bp, 0, none⟩ = some (.int .i64 np) := cells_of (unhide jp) 0
  have kp1 : W5.cell? ⟨bp, 1, none⟩ = some (.int .i64 dp) := cells_of (unhide jp) 1
  have kq0 : W5.cell? ⟨bq, 0, none⟩ = some (.int .i64 np) := cells_of (unhide jq) 0
  have kq1 : W5.cell? ⟨bq, 1, none⟩ = some (.int .i64 dp) := cells_of (unhide jq) 1
  go_upto_region 13 with fail
  clear kp0 kp1 kq0 kq1
  clear jq
  have ky0 : W5.cell? ⟨w.heap.size + 1, 0, none⟩ = some (.int .i64 n2) := cells_of (unhide jy) 0
  have ky1 : W5.cell? ⟨w.heap.size + 1, 1, none⟩ = some (.int .i64 d2) := cells_of (unhide jy) 1
  have kp0 : W5.cell? ⟨bp, 0, none⟩ = some (.int .i64 np) := cells_of (unhide jp) 0
  have kp1 : W5.cell? ⟨bp, 1, none⟩ = some (.int .i64 dp) := cells_of (unhide jp) 1
  go_wp2_with fail
  refine ((unhide C6) _ ((unhide HT).below HB.out)).mono ?_
  rintro e V6 ⟨rfl, hb⟩
  clear ky0 ky1 kp0 kp1
  go_upto_region 14 with fail
  have hn := heap_alloc_new V6 (.cells #[.int .i64 nv, .int .i64 dv] 23)
  replace hb := below_step' hb (below_alloc (Below.refl V6.heap.size V6) (.cells #[.int .i64 nv, .int .i64 dv] 23))
  generalize V6.alloc (.cells #[.int .i64 nv, .int .i64 dv] 23) = W6 at *
  obtain ⟨bv, hbn⟩ : ∃ b, b = V6.heap.size := ⟨_, rfl⟩
  rw [← hbn] at hn ⊢
  clear hbn
  replace jx := hide ((hb.block _ (lt_of_block (unhide jx))).trans (unhide jx))
  replace jy := hide ((hb.block _ (lt_of_block (unhide jy))).trans (unhide jy))
  replace jz := hide ((hb.block _ (lt_of_block (unhide jz))).trans (unhide jz))
  replace jp := hide ((hb.block _ (lt_of_block (unhide jp))).trans (unhide jp))
  replace HB := Lib.hid (below_step' HB.out hb)
  have jv := hide hn
  clear hn hb
  have kx0 : W6.cell? ⟨w.heap.size, 0, none⟩ = some (.int .i64 n1) := cells_of (unhide jx) 0
  have kx1 : W6.cell? ⟨w.heap.size, 1, none⟩ = some (.int .i64 d1) := cells_of (unhide jx) 1
  have ky0 : W6.cell? ⟨w.heap.size + 1, 0, none⟩ = some (.int .i64 n2) := cells_of (unhide jy) 0
  have ky1 : W6.cell? ⟨w.heap.size + 1, 1, none⟩ = some (.int .i64 d2) := cells_of (unhide jy) 1
  have kv0 : W6.cell? ⟨bv, 0, none⟩ = some (.int .i64 nv) := cells_of (unhide jv) 0
  have kv1 : W6.cell? ⟨bv, 1, none⟩ = some (.int .i64 dv) := cells_of (unhide jv) 1
  go_cut [101] (fun s101 wx => s101 = .bool false ∧ wx = W6)
  case first =>
    rcases HV.out with hp | ⟨hp, h0⟩ | ⟨hp, h0, rfl, rfl, rfl⟩
    · have p1 : (ep == 0) = false := beq_eq_false_iff_ne.2 hp
      clear hp
      go_wp2_with fail
      go_meet
      exact ⟨rfl, rfl⟩
    · subst hp h0
      go_wp2_with fail
      go_meet
      exact ⟨rfl, rfl⟩
    · have p2 : (n2 == 0) = false := beq_eq_false_iff_ne.2 h0
      have p3 : (n2 != 0) = true := by simp [bne, p2]
      subst hp
      clear h0
      go_wp2_with fail
      go_meet
      exact ⟨rfl, rfl⟩
  case rest =>
    clear kx0 kx1 ky0 ky1 kv0 kv1
    obtain ⟨rfl, rfl⟩ := hcut
    clear jv
    go_upto_region 16 with fail
    have ky0 : wc.cell? ⟨w.heap.size + 1, 0, none⟩ = some (.int .i64 n2) := cells_of (unhide jy) 0
    have ky1 : wc.cell? ⟨w.heap.size + 1, 1, none⟩ = some (.int .i64 d2) := cells_of (unhide jy) 1
    have kz0 : wc.cell? ⟨w.heap.size + 1 + 1, 0, none⟩ = some (.int .i64 n3) := cells_of (unhide jz) 0
    have kz1 : wc.cell? ⟨w.heap.size + 1 + 1, 1, none⟩ = some (.int .i64 d3) := cells_of (unhide jz) 1
    go_wp2_with fail
    refine ((unhide C7) _ ((unhide HT).below HB.out)).mono ?_
    rintro e V7 ⟨rfl, hb⟩
    clear ky0 ky1 kz0 kz1
    go_upto_region 17 with fail
    have hn := heap_alloc_new V7 (.cells #[.int .i64 ns, .int .i64 ds] 23)
    replace hb := below_step' hb (below_alloc (Below.refl V7.heap.size V7) (.cells #[.int .i64 ns, .int .i64 ds] 23))
    generalize V7.alloc (.cells #[.int .i64 ns, .int .i64 ds] 23) = W7 at *
    obtain ⟨bs, hbn⟩ : ∃ b, b = V7.heap.size := ⟨_, rfl⟩
    rw [← hbn] at hn ⊢
    clear hbn
    replace jx := hide ((hb.block _ (lt_of_block (unhide jx))).trans (unhide jx))
    replace jy := hide ((hb.block _ (lt_of_block (unhide jy))).trans (unhide jy))
    replace jz := hide ((hb.block _ (lt_of_block (unhide jz))).trans (unhide jz))
    replace jp := hide ((hb.block _ (lt_of_block (unhide jp))).trans (unhide jp))
    replace HB := Lib.hid (below_step' HB.out hb)
    have js := hide hn
    clear hn hb
    have kx0 : W7.cell? ⟨w.heap.size, 0, none⟩ = some (.int .i64 n1) := cells_of (unhide jx) 0
    have kx1 : W7.cell? ⟨w.heap.size, 1, none⟩ = some (.int .i64 d1) := cells_of (unhide jx) 1
    have ks0 : W7.cell? ⟨bs, 0, none⟩ = some (.int .i64 ns) := cells_of (unhide js) 0
    have ks1 : W7.cell? ⟨bs, 1, none⟩ = some (.int .i64 ds) := cells_of (unhide js) 1
    go_wp2_with fail
    refine ((unhide C8) _ ((unhide HT).below HB.out)).mono ?_
    rintro e V8 ⟨rfl, hb⟩
    clear kx0 kx1 ks0 ks1
    go_upto_region 18 with fail
    have hn := heap_alloc_new V8 (.cells #[.int .i64 nl, .int .i64 dl] 23)
    replace hb := below_step' hb (below_alloc (Below.refl V8.heap.size V8) (.cells #[.int .i64 nl, .int .i64 dl] 23))
    generalize V8.alloc (.cells #[.int .i64 nl, .int .i64 dl] 23) = W8 at *
    obtain ⟨bl, hbn⟩ : ∃ b, b = V8.heap.size := ⟨_, rfl⟩
    rw [← hbn] at hn ⊢
    clear hbn
    replace jx := hide ((hb.block _ (lt_of_block (unhide jx))).trans (unhide jx))
    replace jy := hide ((hb.block _ (lt_of_block (unhide jy))).trans (unhide jy))
    replace jz := hide ((hb.block _ (lt_of_block (unhide jz))).trans (unhide jz))
    replace jp := hide ((hb.block _ (lt_of_block (unhide jp))).trans (unhide jp))
    replace js := hide ((hb.block _ (lt_of_block (unhide js))).trans (unhide js))
    replace HB := Lib.hid (below_step' HB.out hb)
    have jl := hide hn
    clear hn hb
    clear js
    have kx0 : W8.cell? ⟨w.heap.size, 0, none⟩ = some (.int .i64 n1) := cells_of (unhide jx) 0
    have kx1 : W8.cell? ⟨w.heap.size, 1, none⟩ = some (.int .i64 d1) := cells_of (unhide jx) 1
    have kz0 : W8.cell? ⟨w.heap.size + 1 + 1, 0, none⟩ = some (.int .i64 n3) := cells_of (unhide jz) 0
    have kz1 : W8.cell? ⟨w.heap.size + 1 + 1, 1, none⟩ = some (.int .i64 d3) := cells_of (unhide jz) 1
    go_wp2_with fail
    refine ((unhide C9) _ ((unhide HT).below HB.out)).mono ?_
    rintro e V9 ⟨rfl, hb⟩
    clear kx0 kx1 kz0 kz1
    go_upto_region 19 with fail
    have hn := heap_alloc_new V9 (.cells #[.int .i64 nm, .int .i64 dm] 23)
    replace hb := below_step' hb (below_alloc (Below.refl V9.heap.size V9) (.cells #[.int .i64 nm, .int .i64 dm] 23))
    generalize V9.alloc (.cells #[.int .i64 nm, .int .i64 dm] 23) = W9 at *
    obtain ⟨bm, hbn⟩ : ∃ b, b = V9.heap.size := ⟨_, rfl⟩
    rw [← hbn] at hn ⊢
    clear hbn
    replace jx := hide ((hb.block _ (lt_of_block (unhide jx))).trans (unhide jx))
    replace jy := hide ((hb.block _ (lt_of_block (unhide jy))).trans (unhide jy))
    replace jz := hide ((hb.block _ (lt_of_block (unhide jz))).trans (unhide jz))
    replace jp := hide ((hb.block _ (lt_of_block (unhide jp))).trans (unhide jp))
    replace jl := hide ((hb.block _ (lt_of_block (unhide jl))).trans (unhide jl))
    replace HB := Lib.hid (below_step' HB.out hb)
    have jm := hide hn
    clear hn hb
    have kp0 : W9.cell? ⟨bp, 0, none⟩ = some (.int .i64 np) := cells_of (unhide jp) 0
    have kp1 : W9.cell? ⟨bp, 1, none⟩ = some (.int .i64 dp) := cells_of (unhide jp) 1
    have km0 : W9.cell? ⟨bm, 0, none⟩ = some (.int .i64 nm) := cells_of (unhide jm) 0
    have km1 : W9.cell? ⟨bm, 1, none⟩ = some (.int .i64 dm) := cells_of (unhide jm) 1
    go_wp2_with fail
    refine ((unhide C10) _ ((unhide HT).below HB.out)).mono ?_
    rintro e V10 ⟨rfl, hb⟩
    clear kp0 kp1 km0 km1
    go_upto_region 20 with fail
    have hn := heap_alloc_new V10 (.cells #[.int .i64 nr, .int .i64 dr] 23)
    replace hb := below_step' hb (below_alloc (Below.refl V10.heap.size V10) (.cells #[.int .i64 nr, .int .i64 dr] 23))
    generalize V10.alloc (.cells #[.int .i64 nr, .int .i64 dr] 23) = W10 at *
    obtain ⟨br, hbn⟩ : ∃ b, b = V10.heap.size := ⟨_, rfl⟩
    rw [← hbn] at hn ⊢
    clear hbn
    replace jx := hide ((hb.block _ (lt_of_block (unhide jx))).trans (unhide jx))
    replace jy := hide ((hb.block _ (lt_of_block (unhide jy))).trans (unhide jy))
    replace jz := hide ((hb.block _ (lt_of_block (unhide jz))).trans (unhide jz))
    replace jp := hide ((hb.block _ (lt_of_block (unhide jp))).trans (unhide jp))
    replace jl := hide ((hb.block _ (lt_of_block (unhide jl))).trans (unhide jl))
    replace jm := hide ((hb.block _ (lt_of_block (unhide jm))).trans (unhide jm))
    replace HB := Lib.hid (below_step' HB.out hb)
    have jr := hide hn
    clear hn hb
    have kx0 : W10.cell? ⟨w.heap.size, 0, none⟩ = some (.int .i64 n1) := cells_of (unhide jx) 0
    have kx1 : W10.cell? ⟨w.heap.size, 1, none⟩ = some (.int .i64 d1) := cells_of (unhide jx) 1
    have ky0 : W10.cell? ⟨w.heap.size + 1, 0, none⟩ = some (.int .i64 n2) := cells_of (unhide jy) 0
    have ky1 : W10.cell? ⟨w.heap.size + 1, 1, none⟩ = some (.int .i64 d2) := cells_of (unhide jy) 1
    go_wp2_with fail
    refine ((unhide C4) _ ((unhide HT).below HB.out)).mono ?_
    rintro e V11 ⟨rfl, hb⟩
    clear kx0 kx1 ky0 ky1
    go_upto_region 21 with fail
    have hn := heap_alloc_new V11 (.cells #[.int .i64 np, .int .i64 dp] 23)
    replace hb := below_step' hb (below_alloc (Below.refl V11.heap.size V11) (.cells #[.int .i64 np, .int .i64 dp] 23))
    generalize V11.alloc (.cells #[.int .i64 np, .int .i64 dp] 23) = W11 at *
    obtain ⟨bk, hbn⟩ : ∃ b, b = V11.heap.size := ⟨_, rfl⟩
    rw [← hbn] at hn ⊢
    clear hbn
    replace jx := hide ((hb.block _ (lt_of_block (unhide jx))).trans (unhide jx))
    replace jy := hide ((hb.block _ (lt_of_block (unhide jy))).trans (unhide jy))
    replace jz := hide ((hb.block _ (lt_of_block (unhide jz))).trans (unhide jz))
    replace jp := hide ((hb.block _ (lt_of_block (unhide jp))).trans (unhide jp))
    replace jl := hide ((hb.block _ (lt_of_block (unhide jl))).trans (unhide jl))
    replace jm := hide ((hb.block _ (lt_of_block (unhide jm))).trans (unhide jm))
    replace jr := hide ((hb.block _ (lt_of_block (unhide jr))).trans (unhide jr))
    replace HB := Lib.hid (below_step' HB.out hb)
    have jk := hide hn
    clear hn hb
    have kl0 : W11.cell? ⟨bl, 0, none⟩ = some (.int .i64 nl) := cells_of (unhide jl) 0
    have kl1 : W11.cell? ⟨bl, 1, none⟩ = some (.int .i64 dl) := cells_of (unhide jl) 1
    have kr0 : W11.cell? ⟨br, 0, none⟩ = some (.int .i64 nr) := cells_of (unhide jr) 0
    have kr1 : W11.cell? ⟨br, 1, none⟩ = some (.int .i64 dr) := cells_of (unhide jr) 1
    go_cut [154] (fun s154 wx => s154 = .bool false ∧ wx = W11)
    case first =>
      by_cases g0 : es = 0
      rotate_left
      · have p0 : (es == 0) = false := beq_eq_false_iff_ne.2 g0
        clear g0
        go_wp2_with fail
        go_meet
        exact ⟨rfl, rfl⟩
      subst g0
      by_cases g1 : el = 0
      rotate_left
      · have p1 : (el == 0) = false := beq_eq_false_iff_ne.2 g1
        clear g1
        go_wp2_with fail
        go_meet
        exact ⟨rfl, rfl⟩
      subst g1
      by_cases g2 : em = 0
      rotate_left
      · have p2 : (em == 0) = false := beq_eq_false_iff_ne.2 g2
        clear g2
        go_wp2_with fail
        go_meet
        exact ⟨rfl, rfl⟩
      subst g2
      by_cases g3 : er = 0
      rotate_left
      · have p3 : (er == 0) = false := beq_eq_false_iff_ne.2 g3
        clear g3
        go_wp2_with fail
        go_meet
        exact ⟨rfl, rfl⟩
      subst g3
      by_cases g4 : ep = 0
      rotate_left
      · have p4 : (ep == 0) = false := beq_eq_false_iff_ne.2 g4
        clear g4
        go_wp2_with fail
        go_meet
        exact ⟨rfl, rfl⟩
      subst g4
      obtain ⟨rfl, rfl⟩ := HD.out rfl rfl rfl rfl rfl
      go_wp2_with fail
      go_meet
      exact ⟨rfl, rfl⟩
    case rest =>
      clear kl0 kl1 kr0 kr1
      obtain ⟨rfl, rfl⟩ := hcut
      go_upto_region 23 with fail
      go_wp2_with fail
      refine ((unhide HK) _ ((unhide HT).below HB.out)).mono ?_
      rintro e W9 ⟨rfl, hb⟩
      have hb9 := below_step' HB.out hb
      go_wp2
      go_ret
      exact ⟨rfl, hb9⟩

end Go.Proofs.YtaaccgjopcgbfaaDoor
