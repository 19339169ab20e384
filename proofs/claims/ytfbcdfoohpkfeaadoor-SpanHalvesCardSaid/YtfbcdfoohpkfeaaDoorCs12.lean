/- Part 12 of the texts beneath a law of layer 1: SpD, SpE. -/
import Derived.Test.YtfbcdfoohpkfeaaDoorCs11
/- Which spans and grids there are. -/
namespace Go.Proofs.YtfbcdfoohpkfeaaDoor
open Go.RowKit

namespace Sb
/-- The error of a grid behind another one. -/
def grdE (e g : Int) : Int := if e = 0 ∧ (g < 1 ∨ 1000000 < g) then 1 else e
set_option maxRecDepth 100000 in
set_option maxHeartbeats 16000000 in
theorem c_grid (e g : Int) (w : World) : Calls Tryd.prog 100 #[.int .i64 e, .int .i64 g] w (RetT (Rg.EqT (.int .i64 (grdE e g))) w) := by
  obtain ⟨rr, hrr⟩ : ∃ rr, rr = grdE e g := ⟨_, rfl⟩
  rw [← hrr]
  unfold grdE at hrr
  have HR := hide hrr
  clear hrr
  go_enter Tryd.func100, Tryd.ntmps100
  go_upto_region 1 with fail
  have hO := (Own.nil w)
  have HO := hide hO
  clear hO
  by_cases h0 : e = 0
  · by_cases h1 : g < 1
    · have d1 : (e == 0) = true := beq_iff_eq.2 h0
      have d2 : decide (g < 1) = true := decide_eq_true h1
      go_upto_region 1 with fail
      refine Rg.regionS 10 16 (Rg.pick [Rg.EqT (.int .i64 e), Rg.EqT (.bool true), Rg.EqT (.bool true), Rg.EqT (.int .i64 g), Rg.EqT (.bool true), Rg.EqT (.bool true), Rg.EqT undef, Rg.EqT undef, Rg.EqT (.bool true), Rg.EqT (.bool true)]) (OwnG w [] w) Bel [] (by kernel_rfl) rfl (Rg.Stabs.pick ⟨Rg.stab_eq _, Rg.stab_eq _, Rg.stab_eq _, Rg.stab_eq _, Rg.stab_eq _, Rg.stab_eq _, Rg.stab_eq _, Rg.stab_eq _, Rg.stab_eq _, Rg.stab_eq _, trivial⟩) (OwnG.begin (unhide HO))
        (Rg.steps_cons (Rg.plain rfl (s_move rfl (Rg.argF (by kernel_rfl) rfl)))
          (Rg.steps_cons (Rg.plain rfl (s_eqlE rfl (Rg.argT 0 (by kernel_rfl)) (Rg.argC _) rfl d1))
          (Rg.steps_cons (Rg.plain rfl (s_move rfl (Rg.argT 1 (by kernel_rfl))))
          (Rg.steps_cons (Rg.guard_yes (d := 7) rfl (by kernel_rfl) rfl (s_move rfl (Rg.argF (by kernel_rfl) rfl)))
          (Rg.steps_cons (Rg.guard_yes (d := 7) rfl (by kernel_rfl) rfl (s_lss rfl (Rg.argT 3 (by kernel_rfl)) (Rg.argC _) rfl d2))
          (Rg.steps_cons (Rg.guard_yes (d := 7) rfl (by kernel_rfl) rfl (s_move rfl (Rg.argT 4 (by kernel_rfl))))
          (Rg.steps_cons (Rg.guard_no (d := 10) rfl (by kernel_rfl) rfl rfl bel_refl rfl rfl)
          (Rg.steps_cons (Rg.guard_no (d := 10) rfl (by kernel_rfl) rfl rfl bel_refl rfl rfl)
          (Rg.steps_cons (Rg.guard_yes (d := 7) rfl (by kernel_rfl) rfl (s_pick_t rfl (Rg.argT 5 (by kernel_rfl)) (Rg.argC _)))
          (Rg.steps_cons (Rg.plain rfl (s_pick_t rfl (Rg.argT 2 (by kernel_rfl)) (Rg.argT 8 (by kernel_rfl))))
          Rg.steps_nil)))))))))) ?_
      intro v1 V1 hG1 hv1 hne1
      simp only [Rg.puts, List.take_succ_cons, List.take_zero, List.drop_succ_cons, List.drop_zero, Act.put, List.setIfInBounds_toArray, List.set_cons_zero, List.set_cons_succ]
      have e0 : v1 0 = .int .i64 e := hv1 0 (by decide)
      have e1 : v1 1 = .bool true := hv1 1 (by decide)
      have e2 : v1 2 = .bool true := hv1 2 (by decide)
      have e3 : v1 3 = .int .i64 g := hv1 3 (by decide)
      have e4 : v1 4 = .bool true := hv1 4 (by decide)
      have e5 : v1 5 = .bool true := hv1 5 (by decide)
      have e6 : v1 6 = undef := hv1 6 (by decide)
      have e7 : v1 7 = undef := hv1 7 (by decide)
      have e8 : v1 8 = .bool true := hv1 8 (by decide)
      have e9 : v1 9 = .bool true := hv1 9 (by decide)
      simp only [e0, e1, e2, e3, e4, e5, e6, e7, e8, e9]
      have hO := hG1.1
      clear HO
      have HO := hide hO
      clear hO hG1 hv1 hne1
      try clear e0 e1 e2 e3 e4 e5 e6 e7 e8 e9
      have hr : rr = 1 := by rw [unhide HR, if_pos (by omega)]
      subst hr
      go_upto_region 2 with fail
      refine Rg.regionS 1 16 (Rg.pick [Rg.EqT (.int .i64 1)]) (OwnG w [] V1) Bel [] (by kernel_rfl) rfl (Rg.Stabs.pick ⟨Rg.stab_eq _, trivial⟩) (OwnG.begin (unhide HO))
        (Rg.steps_cons (Rg.plain rfl (s_assign rfl (Rg.argC _)))
          Rg.steps_nil) ?_
      intro v2 V2 hG2 hv2 hne2
      simp only [Rg.puts, List.take_succ_cons, List.take_zero, List.drop_succ_cons, List.drop_zero, Act.put, List.setIfInBounds_toArray, List.set_cons_zero, List.set_cons_succ]
      have e0 : v2 0 = .int .i64 1 := hv2 0 (by decide)
      simp only [e0]
      have hO := hG2.1
      clear HO
      have HO := hide hO
      clear hO hG2 hv2 hne2
      try clear e0
      go_wp2_with fail
      exact end_t Tryd.results100 rfl (unhide HO).bel rfl
    · by_cases h2 : 1000000 < g
      · have d1 : (e == 0) = true := beq_iff_eq.2 h0
        have d2 : decide (g < 1) = false := decide_eq_false h1
        have d3 : decide (1000000 < g) = true := decide_eq_true h2
        go_upto_region 1 with fail
        refine Rg.regionS 10 16 (Rg.pick [Rg.EqT (.int .i64 e), Rg.EqT (.bool true), Rg.EqT (.bool true), Rg.EqT (.int .i64 g), Rg.EqT (.bool false), Rg.EqT (.bool false), Rg.EqT (.int .i64 g), Rg.EqT (.bool true), Rg.EqT (.bool true), Rg.EqT (.bool true)]) (OwnG w [] w) Bel [] (by kernel_rfl) rfl (Rg.Stabs.pick ⟨Rg.stab_eq _, Rg.stab_eq _, Rg.stab_eq _, Rg.stab_eq _, Rg.stab_eq _, Rg.stab_eq _, Rg.stab_eq _, Rg.stab_eq _, Rg.stab_eq _, Rg.stab_eq _, trivial⟩) (OwnG.begin (unhide HO))
          (Rg.steps_cons (Rg.plain rfl (s_move rfl (Rg.argF (by kernel_rfl) rfl)))
            (Rg.steps_cons (Rg.plain rfl (s_eqlE rfl (Rg.argT 0 (by kernel_rfl)) (Rg.argC _) rfl d1))
            (Rg.steps_cons (Rg.plain rfl (s_move rfl (Rg.argT 1 (by kernel_rfl))))
            (Rg.steps_cons (Rg.guard_yes (d := 7) rfl (by kernel_rfl) rfl (s_move rfl (Rg.argF (by kernel_rfl) rfl)))
            (Rg.steps_cons (Rg.guard_yes (d := 7) rfl (by kernel_rfl) rfl (s_lss rfl (Rg.argT 3 (by kernel_rfl)) (Rg.argC _) rfl d2))
            (Rg.steps_cons (Rg.guard_yes (d := 7) rfl (by kernel_rfl) rfl (s_move rfl (Rg.argT 4 (by kernel_rfl))))
            (Rg.steps_cons (Rg.guard_yes (d := 10) rfl (by kernel_rfl) rfl (s_move rfl (Rg.argF (by kernel_rfl) rfl)))
            (Rg.steps_cons (Rg.guard_yes (d := 10) rfl (by kernel_rfl) rfl (s_gtr rfl (Rg.argT 6 (by kernel_rfl)) (Rg.argC _) rfl d3))
            (Rg.steps_cons (Rg.guard_yes (d := 7) rfl (by kernel_rfl) rfl (s_pick_f rfl (Rg.argT 5 (by kernel_rfl)) (Rg.argT 7 (by kernel_rfl))))
            (Rg.steps_cons (Rg.plain rfl (s_pick_t rfl (Rg.argT 2 (by kernel_rfl)) (Rg.argT 8 (by kernel_rfl))))
            Rg.steps_nil)))))))))) ?_
        intro v1 V1 hG1 hv1 hne1
        simp only [Rg.puts, List.take_succ_cons, List.take_zero, List.drop_succ_cons, List.drop_zero, Act.put, List.setIfInBounds_toArray, List.set_cons_zero, List.set_cons_succ]
        have e0 : v1 0 = .int .i64 e := hv1 0 (by decide)
        have e1 : v1 1 = .bool true := hv1 1 (by decide)
        have e2 : v1 2 = .bool true := hv1 2 (by decide)
        have e3 : v1 3 = .int .i64 g := hv1 3 (by decide)
        have e4 : v1 4 = .bool false := hv1 4 (by decide)
        have e5 : v1 5 = .bool false := hv1 5 (by decide)
        have e6 : v1 6 = .int .i64 g := hv1 6 (by decide)
        have e7 : v1 7 = .bool true := hv1 7 (by decide)
        have e8 : v1 8 = .bool true := hv1 8 (by decide)
        have e9 : v1 9 = .bool true := hv1 9 (by decide)
        simp only [e0, e1, e2, e3, e4, e5, e6, e7, e8, e9]
        have hO := hG1.1
        clear HO
        have HO := hide hO
        clear hO hG1 hv1 hne1
        try clear e0 e1 e2 e3 e4 e5 e6 e7 e8 e9
        have hr : rr = 1 := by rw [unhide HR, if_pos (by omega)]
        subst hr
        go_upto_region 2 with fail
        refine Rg.regionS 1 16 (Rg.pick [Rg.EqT (.int .i64 1)]) (OwnG w [] V1) Bel [] (by kernel_rfl) rfl (Rg.Stabs.pick ⟨Rg.stab_eq _, trivial⟩) (OwnG.begin (unhide HO))
          (Rg.steps_cons (Rg.plain rfl (s_assign rfl (Rg.argC _)))
            Rg.steps_nil) ?_
        intro v2 V2 hG2 hv2 hne2
        simp only [Rg.puts, List.take_succ_cons, List.take_zero, List.drop_succ_cons, List.drop_zero, Act.put, List.setIfInBounds_toArray, List.set_cons_zero, List.set_cons_succ]
        have e0 : v2 0 = .int .i64 1 := hv2 0 (by decide)
        simp only [e0]
        have hO := hG2.1
        clear HO
        have HO := hide hO
        clear hO hG2 hv2 hne2
        try clear e0
        go_wp2_with fail
        exact end_t Tryd.results100 rfl (unhide HO).bel rfl
      · have d1 : (e == 0) = true := beq_iff_eq.2 h0
        have d2 : decide (g < 1) = false := decide_eq_false h1
        have d3 : decide (1000000 < g) = false := decide_eq_false h2
        go_upto_region 1 with fail
        refine Rg.regionS 10 16 (Rg.pick [Rg.EqT (.int .i64 e), Rg.EqT (.bool true), Rg.EqT (.bool true), Rg.EqT (.int .i64 g), Rg.EqT (.bool false), Rg.EqT (.bool false), Rg.EqT (.int .i64 g), Rg.EqT (.bool false), Rg.EqT (.bool false), Rg.EqT (.bool false)]) (OwnG w [] w) Bel [] (by kernel_rfl) rfl (Rg.Stabs.pick ⟨Rg.stab_eq _, Rg.stab_eq _, Rg.stab_eq _, Rg.stab_eq _, Rg.stab_eq _, Rg.stab_eq _, Rg.stab_eq _, Rg.stab_eq _, Rg.stab_eq _, Rg.stab_eq _, trivial⟩) (OwnG.begin (unhide HO))
          (Rg.steps_cons (Rg.plain rfl (s_move rfl (Rg.argF (by kernel_rfl) rfl)))
            (Rg.steps_cons (Rg.plain rfl (s_eqlE rfl (Rg.argT 0 (by kernel_rfl)) (Rg.argC _) rfl d1))
            (Rg.steps_cons (Rg.plain rfl (s_move rfl (Rg.argT 1 (by kernel_rfl))))
            (Rg.steps_cons (Rg.guard_yes (d := 7) rfl (by kernel_rfl) rfl (s_move rfl (Rg.argF (by kernel_rfl) rfl)))
            (Rg.steps_cons (Rg.guard_yes (d := 7) rfl (by kernel_rfl) rfl (s_lss rfl (Rg.argT 3 (by kernel_rfl)) (Rg.argC _) rfl d2))
            (Rg.steps_cons (Rg.guard_yes (d := 7) rfl (by kernel_rfl) rfl (s_move rfl (Rg.argT 4 (by kernel_rfl))))
            (Rg.steps_cons (Rg.guard_yes (d := 10) rfl (by kernel_rfl) rfl (s_move rfl (Rg.argF (by kernel_rfl) rfl)))
            (Rg.steps_cons (Rg.guard_yes (d := 10) rfl (by kernel_rfl) rfl (s_gtr rfl (Rg.argT 6 (by kernel_rfl)) (Rg.argC _) rfl d3))
            (Rg.steps_cons (Rg.guard_yes (d := 7) rfl (by kernel_rfl) rfl (s_pick_f rfl (Rg.argT 5 (by kernel_rfl)) (Rg.argT 7 (by kernel_rfl))))
            (Rg.steps_cons (Rg.plain rfl (s_pick_t rfl (Rg.argT 2 (by kernel_rfl)) (Rg.argT 8 (by kernel_rfl))))
            Rg.steps_nil)))))))))) ?_
        intro v1 V1 hG1 hv1 hne1
        simp only [Rg.puts, List.take_succ_cons, List.take_zero, List.drop_succ_cons, List.drop_zero, Act.put, List.setIfInBounds_toArray, List.set_cons_zero, List.set_cons_succ]
        have e0 : v1 0 = .int .i64 e := hv1 0 (by decide)
        have e1 : v1 1 = .bool true := hv1 1 (by decide)
        have e2 : v1 2 = .bool true := hv1 2 (by decide)
        have e3 : v1 3 = .int .i64 g := hv1 3 (by decide)
        have e4 : v1 4 = .bool false := hv1 4 (by decide)
        have e5 : v1 5 = .bool false := hv1 5 (by decide)
        have e6 : v1 6 = .int .i64 g := hv1 6 (by decide)
        have e7 : v1 7 = .bool false := hv1 7 (by decide)
        have e8 : v1 8 = .bool false := hv1 8 (by decide)
        have e9 : v1 9 = .bool false := hv1 9 (by decide)
        simp only [e0, e1, e2, e3, e4, e5, e6, e7, e8, e9]
        have hO := hG1.1
        clear HO
        have HO := hide hO
        clear hO hG1 hv1 hne1
        try clear e0 e1 e2 e3 e4 e5 e6 e7 e8 e9
        have hr : e = rr := by rw [unhide HR, if_neg (by omega)]
        subst hr
        go_upto_region 3 with fail
        refine Rg.regionS 2 16 (Rg.pick [Rg.EqT (.int .i64 e), Rg.EqT (.int .i64 e)]) (OwnG w [] V1) Bel [] (by kernel_rfl) rfl (Rg.Stabs.pick ⟨Rg.stab_eq _, Rg.stab_eq _, trivial⟩) (OwnG.begin (unhide HO))
          (Rg.steps_cons (Rg.plain rfl (s_move rfl (Rg.argF (by kernel_rfl) rfl)))
            (Rg.steps_cons (Rg.plain rfl (s_assign rfl (Rg.argT 0 (by kernel_rfl))))
            Rg.steps_nil)) ?_
        intro v2 V2 hG2 hv2 hne2
        simp only [Rg.puts, List.take_succ_cons, List.take_zero, List.drop_succ_cons, List.drop_zero, Act.put, List.setIfInBounds_toArray, List.set_cons_zero, List.set_cons_succ]
        have e0 : v2 0 = .int .i64 e := hv2 0 (by decide)
        have e1 : v2 1 = .int .i64 e := hv2 1 (by decide)
        simp only [e0, e1]
        have hO := hG2.1
        clear HO
        have HO := hide hO
        clear hO hG2 hv2 hne2
        try clear e0 e1
        go_wp2_with fail
        exact end_t Tryd.results100 rfl (unhide HO).bel rfl
  · have d1 : (e == 0) = false := beq_eq_false_iff_ne.2 h0
    go_upto_region 1 with fail
    refine Rg.regionS 10 16 (Rg.pick [Rg.EqT (.int .i64 e), Rg.EqT (.bool false), Rg.EqT (.bool false), Rg.EqT undef, Rg.EqT undef, Rg.EqT undef, Rg.EqT undef, Rg.EqT undef, Rg.EqT undef, Rg.EqT (.bool false)]) (OwnG w [] w) Bel [] (by kernel_rfl) rfl (Rg.Stabs.pick ⟨Rg.stab_eq _, Rg.stab_eq _, Rg.stab_eq _, Rg.stab_eq _, Rg.stab_eq _, Rg.stab_eq _, Rg.stab_eq _, Rg.stab_eq _, Rg.stab_eq _, Rg.stab_eq _, trivial⟩) (OwnG.begin (unhide HO))
      (Rg.steps_cons (Rg.plain rfl (s_move rfl (Rg.argF (by kernel_rfl) rfl)))
        (Rg.steps_cons (Rg.plain rfl (s_eqlE rfl (Rg.argT 0 (by kernel_rfl)) (Rg.argC _) rfl d1))
        (Rg.steps_cons (Rg.plain rfl (s_move rfl (Rg.argT 1 (by kernel_rfl))))
        (Rg.steps_cons (Rg.guard_no (d := 7) rfl (by kernel_rfl) rfl rfl bel_refl rfl rfl)
        (Rg.steps_cons (Rg.guard_no (d := 7) rfl (by kernel_rfl) rfl rfl bel_refl rfl rfl)
        (Rg.steps_cons (Rg.guard_no (d := 7) rfl (by kernel_rfl) rfl rfl bel_refl rfl rfl)
        (Rg.steps_cons (guard_un (d := 10) rfl (by kernel_rfl) rfl bel_refl rfl rfl)
        (Rg.steps_cons (guard_un (d := 10) rfl (by kernel_rfl) rfl bel_refl rfl rfl)
        (Rg.steps_cons (Rg.guard_no (d := 7) rfl (by kernel_rfl) rfl rfl bel_refl rfl rfl)
        (Rg.steps_cons (Rg.plain rfl (s_pick_f rfl (Rg.argT 2 (by kernel_rfl)) (Rg.argC _)))
        Rg.steps_nil)))))))))) ?_
    intro v1 V1 hG1 hv1 hne1
    simp only [Rg.puts, List.take_succ_cons, List.take_zero, List.drop_succ_cons, List.drop_zero, Act.put, List.setIfInBounds_toArray, List.set_cons_zero, List.set_cons_succ]
    have e0 : v1 0 = .int .i64 e := hv1 0 (by decide)
    have e1 : v1 1 = .bool false := hv1 1 (by decide)
    have e2 : v1 2 = .bool false := hv1 2 (by decide)
    have e3 : v1 3 = undef := hv1 3 (by decide)
    have e4 : v1 4 = undef := hv1 4 (by decide)
    have e5 : v1 5 = undef := hv1 5 (by decide)
    have e6 : v1 6 = undef := hv1 6 (by decide)
    have e7 : v1 7 = undef := hv1 7 (by decide)
    have e8 : v1 8 = undef := hv1 8 (by decide)
    have e9 : v1 9 = .bool false := hv1 9 (by decide)
    simp only [e0, e1, e2, e3, e4, e5, e6, e7, e8, e9]
    have hO := hG1.1
    clear HO
    have HO := hide hO
    clear hO hG1 hv1 hne1
    try clear e0 e1 e2 e3 e4 e5 e6 e7 e8 e9
    have hr : e = rr := by rw [unhide HR, if_neg (by omega)]
    subst hr
    go_upto_region 3 with fail
    refine Rg.regionS 2 16 (Rg.pick [Rg.EqT (.int .i64 e), Rg.EqT (.int .i64 e)]) (OwnG w [] V1) Bel [] (by kernel_rfl) rfl (Rg.Stabs.pick ⟨Rg.stab_eq _, Rg.stab_eq _, trivial⟩) (OwnG.begin (unhide HO))
      (Rg.steps_cons (Rg.plain rfl (s_move rfl (Rg.argF (by kernel_rfl) rfl)))
        (Rg.steps_cons (Rg.plain rfl (s_assign rfl (Rg.argT 0 (by kernel_rfl))))
        Rg.steps_nil)) ?_
    intro v2 V2 hG2 hv2 hne2
    simp only [Rg.puts, List.take_succ_cons, List.take_zero, List.drop_succ_cons, List.drop_zero, Act.put, List.setIfInBounds_toArray, List.set_cons_zero, List.set_cons_succ]
    have e0 : v2 0 = .int .i64 e := hv2 0 (by decide)
    have e1 : v2 1 = .int .i64 e := hv2 1 (by decide)
    simp only [e0, e1]
    have hO := hG2.1
    clear HO
    have HO := hide hO
    clear hO hG2 hv2 hne2
    try clear e0 e1
    go_wp2_with fail
    exact end_t Tryd.results100 rfl (unhide HO).bel rfl
/-- Which spans there are. -/
def okS (a b c d : Int) : Prop := Wd.okR a b ∧ Wd.okR c d ∧ a * d - c * b ≤ 0
instance (a b c d : Int) : Decidable (okS a b c d) := by unfold okS; infer_instance
def valS (a b c d : Int) : Int := if okS a b c d then 0 else 1
set_option maxRecDepth 100000 in
set_option maxHeartbeats 16000000 in
theorem val_walk {xa1 xb1 xc1 xd1 : Int} (o e r : Int) (w : World) (hT : Tab w) (u0 : Value) (h0 : AggT [.v (.int .i64 xa1), .v (.int .i64 xb1), .v (.int .i64 xc1), .v (.int .i64 xd1)] w u0)
    (hc : ∀ (W : World) (v0 v1 : Value), Tab W → AggT [.v (.int .i64 xa1), .v (.int .i64 xb1)] W v0 → AggT [.v (.int .i64 xc1), .v (.int .i64 xd1)] W v1 → Calls Tryd.prog 8 #[v0, v1] W (RetT (TupT [Rg.EqT (.int .i64 o), Rg.EqT (.int .i64 e)]) W))
    (hr : (e = 0 → 0 < o → r = 1) ∧ (¬ (e = 0 ∧ 0 < o) → e = r)) : Calls Tryd.prog 41 #[u0] w (RetT (Rg.EqT (.int .i64 r)) w) := by
  have HC := hide hc
  have HR := hide hr
  have HT := hide hT
  clear hc hr hT
  have hu0 := agg_v4 h0
  subst hu0
  go_enter Tryd.func41, Tryd.ntmps41
  go_upto_region 1 with fail
  have hO := (Own.push (T := 35) (ls := [.v (.int .i64 xa1), .v (.int .i64 xb1), .v (.int .i64 xc1), .v (.int .i64 xd1)]) (cs := [.int .i64 xa1, .int .i64 xb1, .int .i64 xc1, .int .i64 xd1]) (Own.nil w) (LOk.v (notW_i _) (LOk.v (notW_i _) (LOk.v (notW_i _) (LOk.v (notW_i _) rfl)))) (w.heap.size) rfl)
  generalize w.alloc (.cells #[.int .i64 xa1, .int .i64 xb1, .int .i64 xc1, .int .i64 xd1] 35) = W0 at *
  have HO := hide hO
  clear hO
  go_upto_region 1 with fail
  refine Rg.regionS 10 20 (Rg.pick [Rg.EqT (.pointer (some ⟨w.heap.size, 0, none⟩)), AggT [.v (.int .i64 xa1), .v (.int .i64 xb1)], Rg.EqT (.pointer (some ⟨w.heap.size, 2, none⟩)), AggT [.v (.int .i64 xc1), .v (.int .i64 xd1)], TupT [Rg.EqT (.int .i64 o), Rg.EqT (.int .i64 e)], TupT [Rg.EqT (.int .i64 o), Rg.EqT (.int .i64 e)], Rg.EqT (.int .i64 o), Rg.EqT (.int .i64 e), Rg.EqT (.int .i64 o), Rg.EqT (.int .i64 e)]) (OwnG w [(w.heap.size, 35, [.v (.int .i64 xa1), .v (.int .i64 xb1), .v (.int .i64 xc1), .v (.int .i64 xd1)])] W0) Bel [] (by kernel_rfl) rfl (Rg.Stabs.pick ⟨Rg.stab_eq _, stab_agg _, Rg.stab_eq _, stab_agg _, stab_tup ⟨(Rg.stab_eq _), (Rg.stab_eq _), trivial⟩, stab_tup ⟨(Rg.stab_eq _), (Rg.stab_eq _), trivial⟩, Rg.stab_eq _, Rg.stab_eq _, Rg.stab_eq _, Rg.stab_eq _, trivial⟩) (OwnG.begin (unhide HO))
    (Rg.steps_cons (Rg.plain rfl (s_addr_s0 (b := w.heap.size) (off := 0) rfl (Rg.argF (by kernel_rfl) rfl) rfl rfl))
      (Rg.steps_cons (Rg.plain rfl (s_load (b := w.heap.size) (off := 0) (TB := 35) (pre := []) (mid := [.v (.int .i64 xa1), .v (.int .i64 xb1)]) (post := [.v (.int .i64 xc1), .v (.int .i64 xd1)]) load_r rfl (Rg.argT 0 (by kernel_rfl)) (fun W h => OwnG.box (List.Mem.head _) h) rfl rfl rfl))
      (Rg.steps_cons (Rg.plain rfl (s_addr_s1 (b := w.heap.size) (off := 0) rfl (Rg.argF (by kernel_rfl) rfl) rfl rfl))
      (Rg.steps_cons (Rg.plain rfl (s_load (b := w.heap.size) (off := 2) (TB := 35) (pre := [.v (.int .i64 xa1), .v (.int .i64 xb1)]) (mid := [.v (.int .i64 xc1), .v (.int .i64 xd1)]) (post := []) load_r rfl (Rg.argT 2 (by kernel_rfl)) (fun W h => OwnG.box (List.Mem.head _) h) rfl rfl rfl))
      (Rg.steps_cons (Rg.plain rfl (s_call2 Tryd.func8 (by kernel_rfl) rfl OwnG.step (Rg.argT 1 (by kernel_rfl)) (Rg.argT 3 (by kernel_rfl)) (fun W v0 v1 hG h0 h1 => unhide HC W v0 v1 ((unhide HT).below hG.bel) h0 h1)))
      (Rg.steps_cons (Rg.plain rfl (s_move rfl (Rg.argT 4 (by kernel_rfl))))
      (Rg.steps_cons (Rg.plain rfl (s_extT (ts := [Rg.EqT (.int .i64 o), Rg.EqT (.int .i64 e)]) rfl (Rg.argT 5 (by kernel_rfl)) (of_decide_eq_true rfl) rfl))
      (Rg.steps_cons (Rg.plain rfl (s_extT (ts := [Rg.EqT (.int .i64 o), Rg.EqT (.int .i64 e)]) rfl (Rg.argT 5 (by kernel_rfl)) (of_decide_eq_true rfl) rfl))
      (Rg.steps_cons (Rg.plain rfl (s_assign rfl (Rg.argT 6 (by kernel_rfl))))
      (Rg.steps_cons (Rg.plain rfl (s_assign rfl (Rg.argT 7 (by kernel_rfl))))
      Rg.steps_nil)))))))))) ?_
  intro v1 V1 hG1 hv1 hne1
  simp only [Rg.puts, List.take_succ_cons, List.take_zero, List.drop_succ_cons, List.drop_zero, Act.put, List.setIfInBounds_toArray, List.set_cons_zero, List.set_cons_succ]
  have e0 : v1 0 = .pointer (some ⟨w.heap.size, 0, none⟩) := hv1 0 (by decide)
  have e2 : v1 2 = .pointer (some ⟨w.heap.size, 2, none⟩) := hv1 2 (by decide)
  have e6 : v1 6 = .int .i64 o := hv1 6 (by decide)
  have e7 : v1 7 = .int .i64 e := hv1 7 (by decide)
  have e8 : v1 8 = .int .i64 o := hv1 8 (by decide)
  have e9 : v1 9 = .int .i64 e := hv1 9 (by decide)
  simp only [e0, e2, e6, e7, e8, e9]
  have hO := hG1.1
  clear HO
  have HO := hide hO
  clear hO hG1 hv1 hne1
  try clear e0 e2 e6 e7 e8 e9
  by_cases g0 : e = 0
  · by_cases g1 : 0 < o
    · have d1 : (e == 0) = true := beq_iff_eq.2 g0
      have d2 : decide (0 < o) = true := decide_eq_true g1
      go_upto_region 2 with fail
      refine Rg.regionS 6 20 (Rg.pick [Rg.EqT (.int .i64 e), Rg.EqT (.bool true), Rg.EqT (.bool true), Rg.EqT (.int .i64 o), Rg.EqT (.bool true), Rg.EqT (.bool true)]) (OwnG w [(w.heap.size, 35, [.v (.int .i64 xa1), .v (.int .i64 xb1), .v (.int .i64 xc1), .v (.int .i64 xd1)])] V1) Bel [] (by kernel_rfl) rfl (Rg.Stabs.pick ⟨Rg.stab_eq _, Rg.stab_eq _, Rg.stab_eq _, Rg.stab_eq _, Rg.stab_eq _, Rg.stab_eq _, trivial⟩) (OwnG.begin (unhide HO))
        (Rg.steps_cons (Rg.plain rfl (s_move rfl (Rg.argF (by kernel_rfl) rfl)))
          (Rg.steps_cons (Rg.plain rfl (s_eqlE rfl (Rg.argT 0 (by kernel_rfl)) (Rg.argC _) rfl d1))
          (Rg.steps_cons (Rg.plain rfl (s_move rfl (Rg.argT 1 (by kernel_rfl))))
          (Rg.steps_cons (Rg.guard_yes (d := 15) rfl (by kernel_rfl) rfl (s_move rfl (Rg.argF (by kernel_rfl) rfl)))
          (Rg.steps_cons (Rg.guard_yes (d := 15) rfl (by kernel_rfl) rfl (s_gtr rfl (Rg.argT 3 (by kernel_rfl)) (Rg.argC _) rfl d2))
          (Rg.steps_cons (Rg.plain rfl (s_pick_t rfl (Rg.argT 2 (by kernel_rfl)) (Rg.argT 4 (by kernel_rfl))))
          Rg.steps_nil)))))) ?_
      intro v2 V2 hG2 hv2 hne2
      simp only [Rg.puts, List.take_succ_cons, List.take_zero, List.drop_succ_cons, List.drop_zero, Act.put, List.setIfInBounds_toArray, List.set_cons_zero, List.set_cons_succ]
      have e0 : v2 0 = .int .i64 e := hv2 0 (by decide)
      have e1 : v2 1 = .bool true := hv2 1 (by decide)
      have e2 : v2 2 = .bool true := hv2 2 (by decide)
      have e3 : v2 3 = .int .i64 o := hv2 3 (by decide)
      have e4 : v2 4 = .bool true := hv2 4 (by decide)
      have e5 : v2 5 = .bool true := hv2 5 (by decide)
      simp only [e0, e1, e2, e3, e4, e5]
      have hO := hG2.1
      clear HO
      have HO := hide hO
      clear hO hG2 hv2 hne2
      try clear e0 e1 e2 e3 e4 e5
      have hr : r = 1 := (unhide HR).1 g0 g1
      subst hr
      go_upto_region 3 with fail
      refine Rg.regionS 1 20 (Rg.pick [Rg.EqT (.int .i64 1)]) (OwnG w [(w.heap.size, 35, [.v (.int .i64 xa1), .v (.int .i64 xb1), .v (.int .i64 xc1), .v (.int .i64 xd1)])] V2) Bel [] (by kernel_rfl) rfl (Rg.Stabs.pick ⟨Rg.stab_eq _, trivial⟩) (OwnG.begin (unhide HO))
        (Rg.steps_cons (Rg.plain rfl (s_assign rfl (Rg.argC _)))
          Rg.steps_nil) ?_
      intro v3 V3 hG3 hv3 hne3
      simp only [Rg.puts, List.take_succ_cons, List.take_zero, List.drop_succ_cons, List.drop_zero, Act.put, List.setIfInBounds_toArray, List.set_cons_zero, List.set_cons_succ]
      have e0 : v3 0 = .int .i64 1 := hv3 0 (by decide)
      simp only [e0]
      have hO := hG3.1
      clear HO
      have HO := hide hO
      clear hO hG3 hv3 hne3
      try clear e0
      go_wp2_with fail
      exact end_t Tryd.results41 rfl (unhide HO).bel rfl
    · have d1 : (e == 0) = true := beq_iff_eq.2 g0
      have d2 : decide (0 < o) = false := decide_eq_false g1
      go_upto_region 2 with fail
      refine Rg.regionS 6 20 (Rg.pick [Rg.EqT (.int .i64 e), Rg.EqT (.bool true), Rg.EqT (.bool true), Rg.EqT (.int .i64 o), Rg.EqT (.bool false), Rg.EqT (.bool false)]) (OwnG w [(w.heap.size, 35, [.v (.int .i64 xa1), .v (.int .i64 xb1), .v (.int .i64 xc1), .v (.int .i64 xd1)])] V1) Bel [] (by kernel_rfl) rfl (Rg.Stabs.pick ⟨Rg.stab_eq _, Rg.stab_eq _, Rg.stab_eq _, Rg.stab_eq _, Rg.stab_eq _, Rg.stab_eq _, trivial⟩) (OwnG.begin (unhide HO))
        (Rg.steps_cons (Rg.plain rfl (s_move rfl (Rg.argF (by kernel_rfl) rfl)))
          (Rg.steps_cons (Rg.plain rfl (s_eqlE rfl (Rg.argT 0 (by kernel_rfl)) (Rg.argC _) rfl d1))
          (Rg.steps_cons (Rg.plain rfl (s_move rfl (Rg.argT 1 (by kernel_rfl))))
          (Rg.steps_cons (Rg.guard_yes (d := 15) rfl (by kernel_rfl) rfl (s_move rfl (Rg.argF (by kernel_rfl) rfl)))
          (Rg.steps_cons (Rg.guard_yes (d := 15) rfl (by kernel_rfl) rfl (s_gtr rfl (Rg.argT 3 (by kernel_rfl)) (Rg.argC _) rfl d2))
          (Rg.steps_cons (Rg.plain rfl (s_pick_t rfl (Rg.argT 2 (by kernel_rfl)) (Rg.argT 4 (by kernel_rfl))))
          Rg.steps_nil)))))) ?_
      intro v2 V2 hG2 hv2 hne2
      simp only [Rg.puts, List.take_succ_cons, List.take_zero, List.drop_succ_cons, List.drop_zero, Act.put, List.setIfInBounds_toArray, List.set_cons_zero, List.set_cons_succ]
      have e0 : v2 0 = .int .i64 e := hv2 0 (by decide)
      have e1 : v2 1 = .bool true := hv2 1 (by decide)
      have e2 : v2 2 = .bool true := hv2 2 (by decide)
      have e3 : v2 3 = .int .i64 o := hv2 3 (by decide)
      have e4 : v2 4 = .bool false := hv2 4 (by decide)
      have e5 : v2 5 = .bool false := hv2 5 (by decide)
      simp only [e0, e1, e2, e3, e4, e5]
      have hO := hG2.1
      clear HO
      have HO := hide hO
      clear hO hG2 hv2 hne2
      try clear e0 e1 e2 e3 e4 e5
      have hr : e = r := (unhide HR).2 (by omega)
      subst hr
      go_upto_region 4 with fail
      refine Rg.regionS 2 20 (Rg.pick [Rg.EqT (.int .i64 e), Rg.EqT (.int .i64 e)]) (OwnG w [(w.heap.size, 35, [.v (.int .i64 xa1), .v (.int .i64 xb1), .v (.int .i64 xc1), .v (.int .i64 xd1)])] V2) Bel [] (by kernel_rfl) rfl (Rg.Stabs.pick ⟨Rg.stab_eq _, Rg.stab_eq _, trivial⟩) (OwnG.begin (unhide HO))
        (Rg.steps_cons (Rg.plain rfl (s_move rfl (Rg.argF (by kernel_rfl) rfl)))
          (Rg.steps_cons (Rg.plain rfl (s_assign rfl (Rg.argT 0 (by kernel_rfl))))
          Rg.steps_nil)) ?_
      intro v3 V3 hG3 hv3 hne3
      simp only [Rg.puts, List.take_succ_cons, List.take_zero, List.drop_succ_cons, List.drop_zero, Act.put, List.setIfInBounds_toArray, List.set_cons_zero, List.set_cons_succ]
      have e0 : v3 0 = .int .i64 e := hv3 0 (by decide)
      have e1 : v3 1 = .int .i64 e := hv3 1 (by decide)
      simp only [e0, e1]
      have hO := hG3.1
      clear HO
      have HO := hide hO
      clear hO hG3 hv3 hne3
      try clear e0 e1
      go_wp2_with fail
      exact end_t Tryd.results41 rfl (unhide HO).bel rfl
  · have d1 : (e == 0) = false := beq_eq_false_iff_ne.2 g0
    go_upto_region 2 with fail
    refine Rg.regionS 6 20 (Rg.pick [Rg.EqT (.int .i64 e), Rg.EqT (.bool false), Rg.EqT (.bool false), Rg.EqT undef, Rg.EqT undef, Rg.EqT (.bool false)]) (OwnG w [(w.heap.size, 35, [.v (.int .i64 xa1), .v (.int .i64 xb1), .v (.int .i64 xc1), .v (.int .i64 xd1)])] V1) Bel [] (by kernel_rfl) rfl (Rg.Stabs.pick ⟨Rg.stab_eq _, Rg.stab_eq _, Rg.stab_eq _, Rg.stab_eq _, Rg.stab_eq _, Rg.stab_eq _, trivial⟩) (OwnG.begin (unhide HO))
      (Rg.steps_cons (Rg.plain rfl (s_move rfl (Rg.argF (by kernel_rfl) rfl)))
        (Rg.steps_cons (Rg.plain rfl (s_eqlE rfl (Rg.argT 0 (by kernel_rfl)) (Rg.argC _) rfl d1))
        (Rg.steps_cons (Rg.plain rfl (s_move rfl (Rg.argT 1 (by kernel_rfl))))
        (Rg.steps_cons (Rg.guard_no (d := 15) rfl (by kernel_rfl) rfl rfl bel_refl rfl rfl)
        (Rg.steps_cons (Rg.guard_no (d := 15) rfl (by kernel_rfl) rfl rfl bel_refl rfl rfl)
        (Rg.steps_cons (Rg.plain rfl (s_pick_f rfl (Rg.argT 2 (by kernel_rfl)) (Rg.argC _)))
        Rg.steps_nil)))))) ?_
    intro v2 V2 hG2 hv2 hne2
    simp only [Rg.puts, List.take_succ_cons, List.take_zero, List.drop_succ_cons, List.drop_zero, Act.put, List.setIfInBounds_toArray, List.set_cons_zero, List.set_cons_succ]
    have e0 : v2 0 = .int .i64 e := hv2 0 (by decide)
    have e1 : v2 1 = .bool false := hv2 1 (by decide)
    have e2 : v2 2 = .bool false := hv2 2 (by decide)
    have e3 : v2 3 = undef := hv2 3 (by decide)
    have e4 : v2 4 = undef := hv2 4 (by decide)
    have e5 : v2 5 = .bool false := hv2 5 (by decide)
    simp only [e0, e1, e2, e3, e4, e5]
    have hO := hG2.1
    clear HO
    have HO := hide hO
    clear hO hG2 hv2 hne2
    try clear e0 e1 e2 e3 e4 e5
    have hr : e = r := (unhide HR).2 (by omega)
    subst hr
    go_upto_region 4 with fail
    refine Rg.regionS 2 20 (Rg.pick [Rg.EqT (.int .i64 e), Rg.EqT (.int .i64 e)]) (OwnG w [(w.heap.size, 35, [.v (.int .i64 xa1), .v (.int .i64 xb1), .v (.int .i64 xc1), .v (.int .i64 xd1)])] V2) Bel [] (by kernel_rfl) rfl (Rg.Stabs.pick ⟨Rg.stab_eq _, Rg.stab_eq _, trivial⟩) (OwnG.begin (unhide HO))
      (Rg.steps_cons (Rg.plain rfl (s_move rfl (Rg.argF (by kernel_rfl) rfl)))
        (Rg.steps_cons (Rg.plain rfl (s_assign rfl (Rg.argT 0 (by kernel_rfl))))
        Rg.steps_nil)) ?_
    intro v3 V3 hG3 hv3 hne3
    simp only [Rg.puts, List.take_succ_cons, List.take_zero, List.drop_succ_cons, List.drop_zero, Act.put, List.setIfInBounds_toArray, List.set_cons_zero, List.set_cons_succ]
    have e0 : v3 0 = .int .i64 e := hv3 0 (by decide)
    have e1 : v3 1 = .int .i64 e := hv3 1 (by decide)
    simp only [e0, e1]
    have hO := hG3.1
    clear HO
    have HO := hide hO
    clear hO hG3 hv3 hne3
    try clear e0 e1
    go_wp2_with fail
    exact end_t Tryd.results41 rfl (unhide HO).bel rfl
theorem c_valS {xa1 xb1 xc1 xd1 : Int} (w : World) (hT : Tab w) (u0 : Value) (h0 : AggT [.v (.int .i64 xa1), .v (.int .i64 xb1), .v (.int .i64 xc1), .v (.int .i64 xd1)] w u0) : Calls Tryd.prog 41 #[u0] w (RetT (Rg.EqT (.int .i64 (valS xa1 xb1 xc1 xd1))) w) := by
  refine val_walk (cmpC xa1 xb1 xc1 xd1) (fstE xa1 xb1 xc1 xd1) _ w hT u0 h0 (fun W v0 v1 hT g0 g1 => ?_) ?_
  · rw [agg_v2 g0, agg_v2 g1]
    exact (cmpR_any xa1 xb1 xc1 xd1 W hT).mono fun e w' ⟨h1, h2⟩ => ⟨_, h1, h2, [_, _], rfl, _, _, rfl, rfl, _, _, rfl, rfl, rfl⟩
  · unfold cmpC fstE valS
    by_cases ok : Wd.okR xa1 xb1 ∧ Wd.okR xc1 xd1
    · rw [if_pos ok, if_pos ok]
      have hs : 0 < sgn (xa1 * xd1 - xc1 * xb1) ↔ 0 < xa1 * xd1 - xc1 * xb1 := by unfold sgn; (repeat' split) <;> omega
      refine ⟨fun _ h => if_neg (fun hk => ?_), fun h => (if_pos ⟨ok.1, ok.2, ?_⟩).symm⟩
      · have := hk.2.2; have := hs.1 h; omega
      · have h1 : ¬ 0 < sgn (xa1 * xd1 - xc1 * xb1) := fun h2 => h ⟨rfl, h2⟩
        rw [hs] at h1; omega
    · rw [if_neg ok, if_neg ok, if_neg (fun hk => ok ⟨hk.1, hk.2.1⟩)]
      exact ⟨fun h => by omega, fun _ => rfl⟩
structure Sp where
  a : Int
  b : Int
  c : Int
  d : Int
def lv4 (s : Sp) : List Leaf := [.v (.int .i64 s.a), .v (.int .i64 s.b), .v (.int .i64 s.c), .v (.int .i64 s.d)]
def lvs (ss : List Sp) : List Leaf := (ss.map lv4).flatten
theorem lvs_mid (q1 : List Sp) (y : Sp) (q2 : List Sp) : lvs (q1 ++ y :: q2) = lvs q1 ++ (lv4 y ++ lvs q2) := by simp [lvs]
theorem lsize_app : ∀ (a b : List Leaf), lsize (a ++ b) = lsize a + lsize b
  | [], b => by simp [lsize]
  | l :: a, b => by rw [List.cons_append, lsize, lsize, lsize_app a b]; omega
theorem lsize_lvs : ∀ (l : List Sp), lsize (lvs l) = 4 * l.length
  | [] => rfl
  | x :: l => by
    have h : lvs (x :: l) = lv4 x ++ lvs l := by simp [lvs]
    rw [h, lsize_app, lsize_lvs l, List.length_cons, show lsize (lv4 x) = 4 from rfl]; omega
def okSp (s : Sp) : Prop := okS s.a s.b s.c s.d
instance (s : Sp) : Decidable (okSp s) := by unfold okSp; infer_instance
def errS (ss : List Sp) : Int := if ∀ s ∈ ss, okSp s then 0 else 1
set_option maxRecDepth 100000 in
set_option maxHeartbeats 16000000 in
theorem c_list {ss : List Sp} (hm : ss.length ≤ 1000000) (w : World) (hT : Tab w) (u0 : Value) (h0 : SlT 35 ss.length (lvs ss) w u0) :
    Calls Tryd.prog 45 #[u0] w (RetT (Rg.EqT (.int .i64 (errS ss))) w) := by
  obtain ⟨b0, rfl, hbx⟩ := h0
  obtain ⟨rr, hrr⟩ : ∃ rr, rr = errS ss := ⟨_, rfl⟩
  rw [← hrr]
  unfold errS at hrr
  have HR := hide hrr
  have HT := hide hT
  have HLEN := hide hm
  have HBX := hide hbx
  clear hT hbx hm hrr
  go_enter Tryd.func45, Tryd.ntmps45
  go_upto_region 1 with fail
  have hO := (Own.nil w)
  have HO := hide hO
  clear hO
  go_wp2_with fail
  go_loopw [8] (fun iv wr => ∃ q1 q2 : List Sp, ss = q1 ++ q2 ∧ iv = .int .i64 ((q1.length : Nat) : Int) ∧ (∀ s ∈ q1, okSp s) ∧ Hid (Own w [] wr)) (fun iv _ => ss.length - (intOf iv).toNat)
  case atStart => exact ⟨[], ss, rfl, rfl, (by intro s h; cases h), HO⟩
  case round =>
    obtain ⟨q1, q2, hqs, rfl, hok, HO⟩ := hrel
    have HOK := hide hok
    clear hok
    rcases q2 with _ | ⟨y, q2⟩
    · have d1 : decide ((q1.length : Int) < (ss.length : Int)) = false := decide_eq_false (by rw [hqs]; simp)
      rw [List.append_nil] at hqs
      obtain rfl : q1 = ss := hqs.symm
      have hr : rr = 0 := by rw [unhide HR]; exact if_pos (unhide HOK)
      subst hr
      go_upto_region 2 with fail
      refine Rg.regionS 1 18 (Rg.pick [Rg.EqT (.bool false)]) (OwnG w [] wr) Bel [] (by kernel_rfl) rfl (Rg.Stabs.pick ⟨Rg.stab_eq _, trivial⟩) (OwnG.begin (unhide HO))
        (Rg.steps_cons (Rg.plain rfl (s_lss rfl (Rg.argF (by kernel_rfl) rfl) (Rg.argF (by kernel_rfl) rfl) rfl d1))
          Rg.steps_nil) ?_
      intro v1 V1 hG1 hv1 hne1
      simp only [Rg.puts, List.take_succ_cons, List.take_zero, List.drop_succ_cons, List.drop_zero, Act.put, List.setIfInBounds_toArray, List.set_cons_zero, List.set_cons_succ]
      have e0 : v1 0 = .bool false := hv1 0 (by decide)
      simp only [e0]
      have hO := hG1.1
      clear HO
      have HO := hide hO
      clear hO hG1 hv1 hne1
      try clear e0
      go_upto_region 8 with fail
      refine Rg.regionS 1 18 (Rg.pick [Rg.EqT (.int .i64 0)]) (OwnG w [] V1) Bel [] (by kernel_rfl) rfl (Rg.Stabs.pick ⟨Rg.stab_eq _, trivial⟩) (OwnG.begin (unhide HO))
        (Rg.steps_cons (Rg.plain rfl (s_assign rfl (Rg.argC _)))
          Rg.steps_nil) ?_
      intro v2 V2 hG2 hv2 hne2
      simp only [Rg.puts, List.take_succ_cons, List.take_zero, List.drop_succ_cons, List.drop_zero, Act.put, List.setIfInBounds_toArray, List.set_cons_zero, List.set_cons_succ]
      have e0 : v2 0 = .int .i64 0 := hv2 0 (by decide)
      simp only [e0]
      have hO := hG2.1
      clear HO
      have HO := hide hO
      clear hO hG2 hv2 hne2
      try clear e0
      go_wp2_with fail
      exact end_t Tryd.results45 rfl (unhide HO).bel rfl
    · have d1 : decide ((q1.length : Int) < (ss.length : Int)) = true := decide_eq_true (by rw [hqs]; simp; omega)
      have HLT := hide (show q1.length < ss.length by rw [hqs]; simp)
      have HQS := hide hqs
      have hB := (unhide HBX)
      rw [hqs, lvs_mid] at hB
      have HB := hide hB
      clear hB hqs
      go_upto_region 2 with fail
      refine Rg.regionS 1 18 (Rg.pick [Rg.EqT (.bool true)]) (OwnG w [] wr) Bel [] (by kernel_rfl) rfl (Rg.Stabs.pick ⟨Rg.stab_eq _, trivial⟩) (OwnG.begin (unhide HO))
        (Rg.steps_cons (Rg.plain rfl (s_lss rfl (Rg.argF (by kernel_rfl) rfl) (Rg.argF (by kernel_rfl) rfl) rfl d1))
          Rg.steps_nil) ?_
      intro v1 V1 hG1 hv1 hne1
      simp only [Rg.puts, List.take_succ_cons, List.take_zero, List.drop_succ_cons, List.drop_zero, Act.put, List.setIfInBounds_toArray, List.set_cons_zero, List.set_cons_succ]
      have e0 : v1 0 = .bool true := hv1 0 (by decide)
      simp only [e0]
      have hO := hG1.1
      clear HO
      have HO := hide hO
      clear hO hG1 hv1 hne1
      try clear e0
      clear d1
      go_upto_region 3 with fail
      refine Rg.regionS 3 18 (Rg.pick [Rg.EqT (.pointer (some ⟨b0, 4 * q1.length, none⟩)), AggT [.v (.int .i64 y.a), .v (.int .i64 y.b), .v (.int .i64 y.c), .v (.int .i64 y.d)], NewB 35 [.v (.int .i64 0), .v (.int .i64 0), .v (.int .i64 0), .v (.int .i64 0)] V1.heap.size]) (OwnG w [] V1) Bel [2] (by kernel_rfl) rfl (Rg.Stabs.pick ⟨Rg.stab_eq _, stab_agg _, stab_new _ _ _, trivial⟩) (OwnG.begin (unhide HO))
        (Rg.steps_cons (Rg.plain rfl (s_idxS (i := q1.length) (m := ss.length) rfl (Rg.argF (by kernel_rfl) rfl) (Rg.argF (by kernel_rfl) rfl) (unhide HLT) rfl))
          (Rg.steps_cons (Rg.plain rfl (s_load (b := b0) (off := 4 * q1.length) (TB := 35) (pre := lvs q1) (mid := lv4 y) (post := lvs q2) load_s rfl (Rg.argT 0 (by kernel_rfl)) (fun W h => (unhide HB).below h.1.bel) (lsize_lvs q1) rfl rfl))
          (Rg.steps_cons (Rg.plain rfl (s_alloc new_s rfl OwnG.step OwnG.size rfl (new_lt (by intro j hj; simp at hj; (repeat' (first | (rcases hj with rfl | hj))) <;> first | (subst hj; exact ⟨_, _, _, rfl⟩) | exact ⟨_, _, _, rfl⟩))))
          Rg.steps_nil))) ?_
      intro v2 V2 hG2 hv2 hne2
      simp only [Rg.puts, List.take_succ_cons, List.take_zero, List.drop_succ_cons, List.drop_zero, Act.put, List.setIfInBounds_toArray, List.set_cons_zero, List.set_cons_succ]
      have e0 : v2 0 = .pointer (some ⟨b0, 4 * q1.length, none⟩) := hv2 0 (by decide)
      obtain ⟨b2_2, e2, hge2, hz2⟩ := (show NewB 35 [.v (.int .i64 0), .v (.int .i64 0), .v (.int .i64 0), .v (.int .i64 0)] V1.heap.size V2 (v2 2) from hv2 2 (by decide))
      simp only [e0, e2]
      have hO := hG2.1
      replace hO := Own.add (unhide HO) hG2.2 hge2 hz2
      clear hge2 hz2
      refine tl_store (xs := []) (ys := []) (pre := []) (old := [.v (.int .i64 0), .v (.int .i64 0), .v (.int .i64 0), .v (.int .i64 0)]) (new := [.v (.int .i64 y.a), .v (.int .i64 y.b), .v (.int .i64 y.c), .v (.int .i64 y.d)]) (post := []) (b := b2_2) (off := 0) store_s rfl (show AggT [.v (.int .i64 y.a), .v (.int .i64 y.b), .v (.int .i64 y.c), .v (.int .i64 y.d)] V2 (v2 1) from hv2 1 (by decide)) hO rfl rfl rfl ?_
      intro U2_0 hO0 hk0
      replace hO : Own w [(b2_2, 35, [.v (.int .i64 y.a), .v (.int .i64 y.b), .v (.int .i64 y.c), .v (.int .i64 y.d)])] U2_0 := hO0
      clear hO0
      clear HO
      have HO := hide hO
      clear hO hG2 hv2 hne2 hk0
      try clear e0 e2
      go_upto_region 4 with fail
      refine Rg.regionS 3 18 (Rg.pick [AggT [.v (.int .i64 y.a), .v (.int .i64 y.b), .v (.int .i64 y.c), .v (.int .i64 y.d)], Rg.EqT (.int .i64 (valS y.a y.b y.c y.d)), Rg.EqT (.int .i64 (valS y.a y.b y.c y.d))]) (OwnG w [(b2_2, 35, [.v (.int .i64 y.a), .v (.int .i64 y.b), .v (.int .i64 y.c), .v (.int .i64 y.d)])] U2_0) Bel [] (by kernel_rfl) rfl (Rg.Stabs.pick ⟨stab_agg _, Rg.stab_eq _, Rg.stab_eq _, trivial⟩) (OwnG.begin (unhide HO))
        (Rg.steps_cons (Rg.plain rfl (s_load (b := b2_2) (off := 0) (TB := 35) (pre := []) (mid := [.v (.int .i64 y.a), .v (.int .i64 y.b), .v (.int .i64 y.c), .v (.int .i64 y.d)]) (post := []) load_s rfl (Rg.argF (by kernel_rfl) rfl) (fun W h => OwnG.box (List.Mem.head _) h) rfl rfl rfl))
          (Rg.steps_cons (Rg.plain rfl (s_call1 Tryd.func41 (by kernel_rfl) rfl OwnG.step (Rg.argT 0 (by kernel_rfl)) (fun W v0 hG h0 => c_valS W ((unhide HT).below hG.bel) _ h0)))
          (Rg.steps_cons (Rg.plain rfl (s_assign rfl (Rg.argT 1 (by kernel_rfl))))
          Rg.steps_nil))) ?_
      intro v3 V3 hG3 hv3 hne3
      simp only [Rg.puts, List.take_succ_cons, List.take_zero, List.drop_succ_cons, List.drop_zero, Act.put, List.setIfInBounds_toArray, List.set_cons_zero, List.set_cons_succ]
      have e1 : v3 1 = .int .i64 (valS y.a y.b y.c y.d) := hv3 1 (by decide)
      have e2 : v3 2 = .int .i64 (valS y.a y.b y.c y.d) := hv3 2 (by decide)
      simp only [e1, e2]
      have hO := hG3.1
      clear HO
      have HO := hide hO
      clear hO hG3 hv3 hne3
      try clear e1 e2
      by_cases g0 : okS y.a y.b y.c y.d
      · have hv : valS y.a y.b y.c y.d = 0 := if_pos g0
        rw [hv]
        have HG := hide g0
        clear g0 hv
        go_upto_region 5 with fail
        refine Rg.regionS 2 18 (Rg.pick [Rg.EqT (.int .i64 0), Rg.EqT (.bool false)]) (OwnG w [(b2_2, 35, [.v (.int .i64 y.a), .v (.int .i64 y.b), .v (.int .i64 y.c), .v (.int .i64 y.d)])] V3) Bel [] (by kernel_rfl) rfl (Rg.Stabs.pick ⟨Rg.stab_eq _, Rg.stab_eq _, trivial⟩) (OwnG.begin (unhide HO))
          (Rg.steps_cons (Rg.plain rfl (s_move rfl (Rg.argF (by kernel_rfl) rfl)))
            (Rg.steps_cons (Rg.plain rfl (s_neqE rfl (Rg.argT 0 (by kernel_rfl)) (Rg.argC _) rfl rfl))
            Rg.steps_nil)) ?_
        intro v4 V4 hG4 hv4 hne4
        simp only [Rg.puts, List.take_succ_cons, List.take_zero, List.drop_succ_cons, List.drop_zero, Act.put, List.setIfInBounds_toArray, List.set_cons_zero, List.set_cons_succ]
        have e0 : v4 0 = .int .i64 0 := hv4 0 (by decide)
        have e1 : v4 1 = .bool false := hv4 1 (by decide)
        simp only [e0, e1]
        have hO := hG4.1
        clear HO
        have HO := hide hO
        clear hO hG4 hv4 hne4
        try clear e0 e1
        go_wp2_with fail
        go_roundw
        case rel =>
          have h1 := unhide HLT; have h2 := unhide HLEN
          refine ⟨q1 ++ [y], q2, by rw [unhide HQS]; simp, by rw [List.length_append, List.length_singleton]; exact wrapV h1 h2, fun s hs => ?_, hide (unhide HO).drop⟩
          rcases List.mem_append.1 hs with hs | hs
          · exact (unhide HOK) s hs
          · rw [List.mem_singleton.1 hs]; exact unhide HG
        case measure =>
          have h1 := unhide HLT; have h2 := unhide HLEN
          clear HO HQS HB
          rw [wrapE h1 h2]
          exact measS h1
      · have hv : valS y.a y.b y.c y.d = 1 := if_neg g0
        rw [hv]
        have hr : rr = 1 := by rw [unhide HR]; exact if_neg (fun h => g0 (h y (by rw [unhide HQS]; simp)))
        subst hr
        clear g0
        go_upto_region 5 with fail
        refine Rg.regionS 2 18 (Rg.pick [Rg.EqT (.int .i64 1), Rg.EqT (.bool true)]) (OwnG w [(b2_2, 35, [.v (.int .i64 y.a), .v (.int .i64 y.b), .v (.int .i64 y.c), .v (.int .i64 y.d)])] V3) Bel [] (by kernel_rfl) rfl (Rg.Stabs.pick ⟨Rg.stab_eq _, Rg.stab_eq _, trivial⟩) (OwnG.begin (unhide HO))
          (Rg.steps_cons (Rg.plain rfl (s_move rfl (Rg.argF (by kernel_rfl) rfl)))
            (Rg.steps_cons (Rg.plain rfl (s_neqE rfl (Rg.argT 0 (by kernel_rfl)) (Rg.argC _) rfl rfl))
            Rg.steps_nil)) ?_
        intro v4 V4 hG4 hv4 hne4
        simp only [Rg.puts, List.take_succ_cons, List.take_zero, List.drop_succ_cons, List.drop_zero, Act.put, List.setIfInBounds_toArray, List.set_cons_zero, List.set_cons_succ]
        have e0 : v4 0 = .int .i64 1 := hv4 0 (by decide)
        have e1 : v4 1 = .bool true := hv4 1 (by decide)
        simp only [e0, e1]
        have hO := hG4.1
        clear HO
        have HO := hide hO
        clear hO hG4 hv4 hne4
        try clear e0 e1
        go_upto_region 6 with fail
        refine Rg.regionS 2 18 (Rg.pick [Rg.EqT (.int .i64 1), Rg.EqT (.int .i64 1)]) (OwnG w [(b2_2, 35, [.v (.int .i64 y.a), .v (.int .i64 y.b), .v (.int .i64 y.c), .v (.int .i64 y.d)])] V4) Bel [] (by kernel_rfl) rfl (Rg.Stabs.pick ⟨Rg.stab_eq _, Rg.stab_eq _, trivial⟩) (OwnG.begin (unhide HO))
          (Rg.steps_cons (Rg.plain rfl (s_move rfl (Rg.argF (by kernel_rfl) rfl)))
            (Rg.steps_cons (Rg.plain rfl (s_assign rfl (Rg.argT 0 (by kernel_rfl))))
            Rg.steps_nil)) ?_
        intro v5 V5 hG5 hv5 hne5
        simp only [Rg.puts, List.take_succ_cons, List.take_zero, List.drop_succ_cons, List.drop_zero, Act.put, List.setIfInBounds_toArray, List.set_cons_zero, List.set_cons_succ]
        have e0 : v5 0 = .int .i64 1 := hv5 0 (by decide)
        have e1 : v5 1 = .int .i64 1 := hv5 1 (by decide)
        simp only [e0, e1]
        have hO := hG5.1
        clear HO
        have HO := hide hO
        clear hO hG5 hv5 hne5
        try clear e0 e1
        go_wp2_with fail
        exact end_t Tryd.results45 rfl (unhide HO).bel rfl
end Sb

end Go.Proofs.YtfbcdfoohpkfeaaDoor
/- Sums and products of spans, and what two spans share: their walks. -/
namespace Go.Proofs.YtfbcdfoohpkfeaaDoor
open Go.RowKit

namespace Sb
set_option maxRecDepth 100000 in
set_option maxHeartbeats 16000000 in
theorem comb_times {xa1 xb1 xc1 xd1 xa2 xb2 xc2 xd2 : Int} {g : Int} (t : ToldS) (w : World) (hT : Tab w) (u0 : Value) (h0 : AggT [.v (.int .i64 xa1), .v (.int .i64 xb1), .v (.int .i64 xc1), .v (.int .i64 xd1)] w u0) (u1 : Value) (h1 : AggT [.v (.int .i64 xa2), .v (.int .i64 xb2), .v (.int .i64 xc2), .v (.int .i64 xd2)] w u1)
    (hok : grdE (errS [⟨xa1, xb1, xc1, xd1⟩, ⟨xa2, xb2, xc2, xd2⟩]) g = 0 → (okS xa1 xb1 xc1 xd1 ∧ okS xa2 xb2 xc2 xd2 ∧ 1 ≤ g ∧ g ≤ 1000000))
    (hr : (grdE (errS [⟨xa1, xb1, xc1, xd1⟩, ⟨xa2, xb2, xc2, xd2⟩]) g ≠ 0 → t = ⟨0, 0, 0, 0, grdE (errS [⟨xa1, xb1, xc1, xd1⟩, ⟨xa2, xb2, xc2, xd2⟩]) g⟩) ∧ (grdE (errS [⟨xa1, xb1, xc1, xd1⟩, ⟨xa2, xb2, xc2, xd2⟩]) g = 0 → t = toldS (downQ (minL ((Wd.qR xa1 xb1) * (Wd.qR xa2 xb2)) [(Wd.qR xa1 xb1) * (Wd.qR xc2 xd2), (Wd.qR xc1 xd1) * (Wd.qR xa2 xb2), (Wd.qR xc1 xd1) * (Wd.qR xc2 xd2)]) g) (upQ (maxL ((Wd.qR xa1 xb1) * (Wd.qR xa2 xb2)) [(Wd.qR xa1 xb1) * (Wd.qR xc2 xd2), (Wd.qR xc1 xd1) * (Wd.qR xa2 xb2), (Wd.qR xc1 xd1) * (Wd.qR xc2 xd2)]) g))) :
    Calls Tryd.prog 72 #[u0, u1, .int .i64 g, .func (.func 73) #[] #[]] w (RetT (SpT t) w) := by
  have HSM := hide (fun (h1 : okS xa1 xb1 xc1 xd1) (h2 : okS xa2 xb2 xc2 xd2) => And.intro (minL_sm (times_sm (K := 1) (sm_okR h1.1) (sm_okR h1.2.1) (sm_okR h2.1) (sm_okR h2.2.1) (by omega) w hT).1 (times_sm (K := 1) (sm_okR h1.1) (sm_okR h1.2.1) (sm_okR h2.1) (sm_okR h2.2.1) (by omega) w hT).2 : Sm (1 + 1) (minL ((Wd.qR xa1 xb1) * (Wd.qR xa2 xb2)) [(Wd.qR xa1 xb1) * (Wd.qR xc2 xd2), (Wd.qR xc1 xd1) * (Wd.qR xa2 xb2), (Wd.qR xc1 xd1) * (Wd.qR xc2 xd2)])) (maxL_sm (times_sm (K := 1) (sm_okR h1.1) (sm_okR h1.2.1) (sm_okR h2.1) (sm_okR h2.2.1) (by omega) w hT).1 (times_sm (K := 1) (sm_okR h1.1) (sm_okR h1.2.1) (sm_okR h2.1) (sm_okR h2.2.1) (by omega) w hT).2 : Sm (1 + 1) (maxL ((Wd.qR xa1 xb1) * (Wd.qR xa2 xb2)) [(Wd.qR xa1 xb1) * (Wd.qR xc2 xd2), (Wd.qR xc1 xd1) * (Wd.qR xa2 xb2), (Wd.qR xc1 xd1) * (Wd.qR xc2 xd2)])))
  have HOK := hide hok
  have HR := hide hr
  have HT := hide hT
  clear hok hr hT
  have hu0 := agg_v4 h0
  subst hu0
  have hu1 := agg_v4 h1
  subst hu1
  go_enter Tryd.func72, Tryd.ntmps72
  go_upto_region 1 with fail
  have hO := (Own.push (T := 35) (ls := [.v (.int .i64 0), .v (.int .i64 0), .v (.int .i64 0), .v (.int .i64 0)]) (cs := [.int .i64 0, .int .i64 0, .int .i64 0, .int .i64 0]) (Own.push (T := 35) (ls := [.v (.int .i64 xa2), .v (.int .i64 xb2), .v (.int .i64 xc2), .v (.int .i64 xd2)]) (cs := [.int .i64 xa2, .int .i64 xb2, .int .i64 xc2, .int .i64 xd2]) (Own.push (T := 35) (ls := [.v (.int .i64 xa1), .v (.int .i64 xb1), .v (.int .i64 xc1), .v (.int .i64 xd1)]) (cs := [.int .i64 xa1, .int .i64 xb1, .int .i64 xc1, .int .i64 xd1]) (Own.nil w) (LOk.v (notW_i _) (LOk.v (notW_i _) (LOk.v (notW_i _) (LOk.v (notW_i _) rfl)))) (w.heap.size) rfl) (((LOk.v (notW_i _) (LOk.v (notW_i _) (LOk.v (notW_i _) (LOk.v (notW_i _) rfl)))) : LOk w [.v (.int .i64 xa2), .v (.int .i64 xb2), .v (.int .i64 xc2), .v (.int .i64 xd2)] [.int .i64 xa2, .int .i64 xb2, .int .i64 xc2, .int .i64 xd2]).below (by repeat (first | exact Below.refl _ _ | refine below_alloc ?_ _))) (w.heap.size + 1) (by simp only [World.size_alloc])) (((LOk.vs w [.int .i64 0, .int .i64 0, .int .i64 0, .int .i64 0] rfl) : LOk w [.v (.int .i64 0), .v (.int .i64 0), .v (.int .i64 0), .v (.int .i64 0)] [.int .i64 0, .int .i64 0, .int .i64 0, .int .i64 0]).below (by repeat (first | exact Below.refl _ _ | refine below_alloc ?_ _))) (w.heap.size + 2) (by simp only [World.size_alloc]))
  generalize ((w.alloc (.cells #[.int .i64 xa1, .int .i64 xb1, .int .i64 xc1, .int .i64 xd1] 35)).alloc (.cells #[.int .i64 xa2, .int .i64 xb2, .int .i64 xc2, .int .i64 xd2] 35)).alloc (.cells #[.int .i64 0, .int .i64 0, .int .i64 0, .int .i64 0] 35) = W0 at *
  have HO := hide hO
  clear hO
  go_upto_region 1 with fail
  refine Rg.regionS 7 32 (Rg.pick [AggT [.v (.int .i64 xa1), .v (.int .i64 xb1), .v (.int .i64 xc1), .v (.int .i64 xd1)], AggT [.v (.int .i64 xa2), .v (.int .i64 xb2), .v (.int .i64 xc2), .v (.int .i64 xd2)], SlT 35 2 [.v (.int .i64 xa1), .v (.int .i64 xb1), .v (.int .i64 xc1), .v (.int .i64 xd1), .v (.int .i64 xa2), .v (.int .i64 xb2), .v (.int .i64 xc2), .v (.int .i64 xd2)], Rg.EqT (.int .i64 (errS [⟨xa1, xb1, xc1, xd1⟩, ⟨xa2, xb2, xc2, xd2⟩])), Rg.EqT (.int .i64 g), Rg.EqT (.int .i64 (grdE (errS [⟨xa1, xb1, xc1, xd1⟩, ⟨xa2, xb2, xc2, xd2⟩]) g)), Rg.EqT (.int .i64 (grdE (errS [⟨xa1, xb1, xc1, xd1⟩, ⟨xa2, xb2, xc2, xd2⟩]) g))]) (OwnG w [(w.heap.size + 2, 35, [.v (.int .i64 0), .v (.int .i64 0), .v (.int .i64 0), .v (.int .i64 0)]), (w.heap.size + 1, 35, [.v (.int .i64 xa2), .v (.int .i64 xb2), .v (.int .i64 xc2), .v (.int .i64 xd2)]), (w.heap.size, 35, [.v (.int .i64 xa1), .v (.int .i64 xb1), .v (.int .i64 xc1), .v (.int .i64 xd1)])] W0) Bel [] (by kernel_rfl) rfl (Rg.Stabs.pick ⟨stab_agg _, stab_agg _, stab_sl _ _ _, Rg.stab_eq _, Rg.stab_eq _, Rg.stab_eq _, Rg.stab_eq _, trivial⟩) (OwnG.begin (unhide HO))
    (Rg.steps_cons (Rg.plain rfl (s_load (b := w.heap.size) (off := 0) (TB := 35) (pre := []) (mid := [.v (.int .i64 xa1), .v (.int .i64 xb1), .v (.int .i64 xc1), .v (.int .i64 xd1)]) (post := []) load_s rfl (Rg.argF (by kernel_rfl) rfl) (fun W h => OwnG.box (List.Mem.tail _ (List.Mem.tail _ (List.Mem.head _))) h) rfl rfl rfl))
      (Rg.steps_cons (Rg.plain rfl (s_load (b := w.heap.size + 1) (off := 0) (TB := 35) (pre := []) (mid := [.v (.int .i64 xa2), .v (.int .i64 xb2), .v (.int .i64 xc2), .v (.int .i64 xd2)]) (post := []) load_s rfl (Rg.argF (by kernel_rfl) rfl) (fun W h => OwnG.box (List.Mem.tail _ (List.Mem.head _)) h) rfl rfl rfl))
      (Rg.steps_cons (Rg.plain rfl (s_buildsl (ps := [(0, .tmp 11), (1, .tmp 12)]) (gs := [[.v (.int .i64 xa1), .v (.int .i64 xb1), .v (.int .i64 xc1), .v (.int .i64 xd1)], [.v (.int .i64 xa2), .v (.int .i64 xb2), .v (.int .i64 xc2), .v (.int .i64 xd2)]]) buildsl_s2 rfl OwnG.step rfl (ArgsOk.cons (Rg.argT 0 (by kernel_rfl)) rfl (ArgsOk.cons (Rg.argT 1 (by kernel_rfl)) rfl ArgsOk.nil)) rfl))
      (Rg.steps_cons (Rg.plain rfl (s_call1 Tryd.func45 (by kernel_rfl) rfl OwnG.step (Rg.argT 2 (by kernel_rfl)) (fun W v0 hG h0 => c_list (ss := [⟨xa1, xb1, xc1, xd1⟩, ⟨xa2, xb2, xc2, xd2⟩]) (by simp) W ((unhide HT).below hG.bel) _ h0)))
      (Rg.steps_cons (Rg.plain rfl (s_move rfl (Rg.argF (by kernel_rfl) rfl)))
      (Rg.steps_cons (Rg.plain rfl (s_call2 Tryd.func100 (by kernel_rfl) rfl OwnG.step (Rg.argT 3 (by kernel_rfl)) (Rg.argT 4 (by kernel_rfl)) (fun W v0 v1 hG h0 h1 => by cases h0; cases h1; exact c_grid _ _ W)))
      (Rg.steps_cons (Rg.plain rfl (s_assign rfl (Rg.argT 5 (by kernel_rfl))))
      Rg.steps_nil))))))) ?_
  intro v1 V1 hG1 hv1 hne1
  simp only [Rg.puts, List.take_succ_cons, List.take_zero, List.drop_succ_cons, List.drop_zero, Act.put, List.setIfInBounds_toArray, List.set_cons_zero, List.set_cons_succ]
  have e3 : v1 3 = .int .i64 (errS [⟨xa1, xb1, xc1, xd1⟩, ⟨xa2, xb2, xc2, xd2⟩]) := hv1 3 (by decide)
  have e4 : v1 4 = .int .i64 g := hv1 4 (by decide)
  have e5 : v1 5 = .int .i64 (grdE (errS [⟨xa1, xb1, xc1, xd1⟩, ⟨xa2, xb2, xc2, xd2⟩]) g) := hv1 5 (by decide)
  have e6 : v1 6 = .int .i64 (grdE (errS [⟨xa1, xb1, xc1, xd1⟩, ⟨xa2, xb2, xc2, xd2⟩]) g) := hv1 6 (by decide)
  simp only [e3, e4, e5, e6]
  have hO := hG1.1
  clear HO
  have HO := hide hO
  clear hO hG1 hv1 hne1
  try clear e3 e4 e5 e6
  by_cases g0 : grdE (errS [⟨xa1, xb1, xc1, xd1⟩, ⟨xa2, xb2, xc2, xd2⟩]) g = 0
  · have k1 : (grdE (errS [⟨xa1, xb1, xc1, xd1⟩, ⟨xa2, xb2, xc2, xd2⟩]) g != 0) = false := by simp [bne, beq_iff_eq.2 g0]
    have hr := (unhide HR).2 g0
    have HQ := hide ((unhide HOK) g0)
    replace HSM := hide ((unhide HSM) (unhide HQ).1 (unhide HQ).2.1)
    clear HR HOK
    subst hr
    go_upto_region 2 with fail
    refine Rg.regionS 2 32 (Rg.pick [Rg.EqT (.int .i64 (grdE (errS [⟨xa1, xb1, xc1, xd1⟩, ⟨xa2, xb2, xc2, xd2⟩]) g)), Rg.EqT (.bool false)]) (OwnG w [(w.heap.size + 2, 35, [.v (.int .i64 0), .v (.int .i64 0), .v (.int .i64 0), .v (.int .i64 0)]), (w.heap.size + 1, 35, [.v (.int .i64 xa2), .v (.int .i64 xb2), .v (.int .i64 xc2), .v (.int .i64 xd2)]), (w.heap.size, 35, [.v (.int .i64 xa1), .v (.int .i64 xb1), .v (.int .i64 xc1), .v (.int .i64 xd1)])] V1) Bel [] (by kernel_rfl) rfl (Rg.Stabs.pick ⟨Rg.stab_eq _, Rg.stab_eq _, trivial⟩) (OwnG.begin (unhide HO))
      (Rg.steps_cons (Rg.plain rfl (s_move rfl (Rg.argF (by kernel_rfl) rfl)))
        (Rg.steps_cons (Rg.plain rfl (s_neqE rfl (Rg.argT 0 (by kernel_rfl)) (Rg.argC _) rfl k1))
        Rg.steps_nil)) ?_
    intro v2 V2 hG2 hv2 hne2
    simp only [Rg.puts, List.take_succ_cons, List.take_zero, List.drop_succ_cons, List.drop_zero, Act.put, List.setIfInBounds_toArray, List.set_cons_zero, List.set_cons_succ]
    have e0 : v2 0 = .int .i64 (grdE (errS [⟨xa1, xb1, xc1, xd1⟩, ⟨xa2, xb2, xc2, xd2⟩]) g) := hv2 0 (by decide)
    have e1 : v2 1 = .bool false := hv2 1 (by decide)
    simp only [e0, e1]
    have hO := hG2.1
    clear HO
    have HO := hide hO
    clear hO hG2 hv2 hne2
    try clear e0 e1
    clear k1 g0
    go_upto_region 4 with fail
    refine Rg.region 13 32 (Rg.pick [Rg.EqT (.func (.func 73) #[] #[]), AggT [.v (.int .i64 xa1), .v (.int .i64 xb1), .v (.int .i64 xc1), .v (.int .i64 xd1)], AggT [.q (Wd.qR xa1 xb1), .q (Wd.qR xc1 xd1)], AggT [.v (.int .i64 xa2), .v (.int .i64 xb2), .v (.int .i64 xc2), .v (.int .i64 xd2)], AggT [.q (Wd.qR xa2 xb2), .q (Wd.qR xc2 xd2)], AggT [.q (minL ((Wd.qR xa1 xb1) * (Wd.qR xa2 xb2)) [(Wd.qR xa1 xb1) * (Wd.qR xc2 xd2), (Wd.qR xc1 xd1) * (Wd.qR xa2 xb2), (Wd.qR xc1 xd1) * (Wd.qR xc2 xd2)]), .q (maxL ((Wd.qR xa1 xb1) * (Wd.qR xa2 xb2)) [(Wd.qR xa1 xb1) * (Wd.qR xc2 xd2), (Wd.qR xc1 xd1) * (Wd.qR xa2 xb2), (Wd.qR xc1 xd1) * (Wd.qR xc2 xd2)])], Rg.EqT (.int .i64 g), AggT [.q (downQ (minL ((Wd.qR xa1 xb1) * (Wd.qR xa2 xb2)) [(Wd.qR xa1 xb1) * (Wd.qR xc2 xd2), (Wd.qR xc1 xd1) * (Wd.qR xa2 xb2), (Wd.qR xc1 xd1) * (Wd.qR xc2 xd2)]) g), .q (upQ (maxL ((Wd.qR xa1 xb1) * (Wd.qR xa2 xb2)) [(Wd.qR xa1 xb1) * (Wd.qR xc2 xd2), (Wd.qR xc1 xd1) * (Wd.qR xa2 xb2), (Wd.qR xc1 xd1) * (Wd.qR xc2 xd2)]) g)], TupT [AggT [.v (.int .i64 (toldS (downQ (minL ((Wd.qR xa1 xb1) * (Wd.qR xa2 xb2)) [(Wd.qR xa1 xb1) * (Wd.qR xc2 xd2), (Wd.qR xc1 xd1) * (Wd.qR xa2 xb2), (Wd.qR xc1 xd1) * (Wd.qR xc2 xd2)]) g) (upQ (maxL ((Wd.qR xa1 xb1) * (Wd.qR xa2 xb2)) [(Wd.qR xa1 xb1) * (Wd.qR xc2 xd2), (Wd.qR xc1 xd1) * (Wd.qR xa2 xb2), (Wd.qR xc1 xd1) * (Wd.qR xc2 xd2)]) g)).a), .v (.int .i64 (toldS (downQ (minL ((Wd.qR xa1 xb1) * (Wd.qR xa2 xb2)) [(Wd.qR xa1 xb1) * (Wd.qR xc2 xd2), (Wd.qR xc1 xd1) * (Wd.qR xa2 xb2), (Wd.qR xc1 xd1) * (Wd.qR xc2 xd2)]) g) (upQ (maxL ((Wd.qR xa1 xb1) * (Wd.qR xa2 xb2)) [(Wd.qR xa1 xb1) * (Wd.qR xc2 xd2), (Wd.qR xc1 xd1) * (Wd.qR xa2 xb2), (Wd.qR xc1 xd1) * (Wd.qR xc2 xd2)]) g)).b), .v (.int .i64 (toldS (downQ (minL ((Wd.qR xa1 xb1) * (Wd.qR xa2 xb2)) [(Wd.qR xa1 xb1) * (Wd.qR xc2 xd2), (Wd.qR xc1 xd1) * (Wd.qR xa2 xb2), (Wd.qR xc1 xd1) * (Wd.qR xc2 xd2)]) g) (upQ (maxL ((Wd.qR xa1 xb1) * (Wd.qR xa2 xb2)) [(Wd.qR xa1 xb1) * (Wd.qR xc2 xd2), (Wd.qR xc1 xd1) * (Wd.qR xa2 xb2), (Wd.qR xc1 xd1) * (Wd.qR xc2 xd2)]) g)).c), .v (.int .i64 (toldS (downQ (minL ((Wd.qR xa1 xb1) * (Wd.qR xa2 xb2)) [(Wd.qR xa1 xb1) * (Wd.qR xc2 xd2), (Wd.qR xc1 xd1) * (Wd.qR xa2 xb2), (Wd.qR xc1 xd1) * (Wd.qR xc2 xd2)]) g) (upQ (maxL ((Wd.qR xa1 xb1) * (Wd.qR xa2 xb2)) [(Wd.qR xa1 xb1) * (Wd.qR xc2 xd2), (Wd.qR xc1 xd1) * (Wd.qR xa2 xb2), (Wd.qR xc1 xd1) * (Wd.qR xc2 xd2)]) g)).d)], Rg.EqT (.int .i64 (toldS (downQ (minL ((Wd.qR xa1 xb1) * (Wd.qR xa2 xb2)) [(Wd.qR xa1 xb1) * (Wd.qR xc2 xd2), (Wd.qR xc1 xd1) * (Wd.qR xa2 xb2), (Wd.qR xc1 xd1) * (Wd.qR xc2 xd2)]) g) (upQ (maxL ((Wd.qR xa1 xb1) * (Wd.qR xa2 xb2)) [(Wd.qR xa1 xb1) * (Wd.qR xc2 xd2), (Wd.qR xc1 xd1) * (Wd.qR xa2 xb2), (Wd.qR xc1 xd1) * (Wd.qR xc2 xd2)]) g)).e)], AggT [.v (.int .i64 (toldS (downQ (minL ((Wd.qR xa1 xb1) * (Wd.qR xa2 xb2)) [(Wd.qR xa1 xb1) * (Wd.qR xc2 xd2), (Wd.qR xc1 xd1) * (Wd.qR xa2 xb2), (Wd.qR xc1 xd1) * (Wd.qR xc2 xd2)]) g) (upQ (maxL ((Wd.qR xa1 xb1) * (Wd.qR xa2 xb2)) [(Wd.qR xa1 xb1) * (Wd.qR xc2 xd2), (Wd.qR xc1 xd1) * (Wd.qR xa2 xb2), (Wd.qR xc1 xd1) * (Wd.qR xc2 xd2)]) g)).a), .v (.int .i64 (toldS (downQ (minL ((Wd.qR xa1 xb1) * (Wd.qR xa2 xb2)) [(Wd.qR xa1 xb1) * (Wd.qR xc2 xd2), (Wd.qR xc1 xd1) * (Wd.qR xa2 xb2), (Wd.qR xc1 xd1) * (Wd.qR xc2 xd2)]) g) (upQ (maxL ((Wd.qR xa1 xb1) * (Wd.qR xa2 xb2)) [(Wd.qR xa1 xb1) * (Wd.qR xc2 xd2), (Wd.qR xc1 xd1) * (Wd.qR xa2 xb2), (Wd.qR xc1 xd1) * (Wd.qR xc2 xd2)]) g)).b), .v (.int .i64 (toldS (downQ (minL ((Wd.qR xa1 xb1) * (Wd.qR xa2 xb2)) [(Wd.qR xa1 xb1) * (Wd.qR xc2 xd2), (Wd.qR xc1 xd1) * (Wd.qR xa2 xb2), (Wd.qR xc1 xd1) * (Wd.qR xc2 xd2)]) g) (upQ (maxL ((Wd.qR xa1 xb1) * (Wd.qR xa2 xb2)) [(Wd.qR xa1 xb1) * (Wd.qR xc2 xd2), (Wd.qR xc1 xd1) * (Wd.qR xa2 xb2), (Wd.qR xc1 xd1) * (Wd.qR xc2 xd2)]) g)).c), .v (.int .i64 (toldS (downQ (minL ((Wd.qR xa1 xb1) * (Wd.qR xa2 xb2)) [(Wd.qR xa1 xb1) * (Wd.qR xc2 xd2), (Wd.qR xc1 xd1) * (Wd.qR xa2 xb2), (Wd.qR xc1 xd1) * (Wd.qR xc2 xd2)]) g) (upQ (maxL ((Wd.qR xa1 xb1) * (Wd.qR xa2 xb2)) [(Wd.qR xa1 xb1) * (Wd.qR xc2 xd2), (Wd.qR xc1 xd1) * (Wd.qR xa2 xb2), (Wd.qR xc1 xd1) * (Wd.qR xc2 xd2)]) g)).d)], Rg.EqT (.int .i64 (toldS (downQ (minL ((Wd.qR xa1 xb1) * (Wd.qR xa2 xb2)) [(Wd.qR xa1 xb1) * (Wd.qR xc2 xd2), (Wd.qR xc1 xd1) * (Wd.qR xa2 xb2), (Wd.qR xc1 xd1) * (Wd.qR xc2 xd2)]) g) (upQ (maxL ((Wd.qR xa1 xb1) * (Wd.qR xa2 xb2)) [(Wd.qR xa1 xb1) * (Wd.qR xc2 xd2), (Wd.qR xc1 xd1) * (Wd.qR xa2 xb2), (Wd.qR xc1 xd1) * (Wd.qR xc2 xd2)]) g)).e), StT (w.heap.size + 2, 35, [.v (.int .i64 (toldS (downQ (minL ((Wd.qR xa1 xb1) * (Wd.qR xa2 xb2)) [(Wd.qR xa1 xb1) * (Wd.qR xc2 xd2), (Wd.qR xc1 xd1) * (Wd.qR xa2 xb2), (Wd.qR xc1 xd1) * (Wd.qR xc2 xd2)]) g) (upQ (maxL ((Wd.qR xa1 xb1) * (Wd.qR xa2 xb2)) [(Wd.qR xa1 xb1) * (Wd.qR xc2 xd2), (Wd.qR xc1 xd1) * (Wd.qR xa2 xb2), (Wd.qR xc1 xd1) * (Wd.qR xc2 xd2)]) g)).a), .v (.int .i64 (toldS (downQ (minL ((Wd.qR xa1 xb1) * (Wd.qR xa2 xb2)) [(Wd.qR xa1 xb1) * (Wd.qR xc2 xd2), (Wd.qR xc1 xd1) * (Wd.qR xa2 xb2), (Wd.qR xc1 xd1) * (Wd.qR xc2 xd2)]) g) (upQ (maxL ((Wd.qR xa1 xb1) * (Wd.qR xa2 xb2)) [(Wd.qR xa1 xb1) * (Wd.qR xc2 xd2), (Wd.qR xc1 xd1) * (Wd.qR xa2 xb2), (Wd.qR xc1 xd1) * (Wd.qR xc2 xd2)]) g)).b), .v (.int .i64 (toldS (downQ (minL ((Wd.qR xa1 xb1) * (Wd.qR xa2 xb2)) [(Wd.qR xa1 xb1) * (Wd.qR xc2 xd2), (Wd.qR xc1 xd1) * (Wd.qR xa2 xb2), (Wd.qR xc1 xd1) * (Wd.qR xc2 xd2)]) g) (upQ (maxL ((Wd.qR xa1 xb1) * (Wd.qR xa2 xb2)) [(Wd.qR xa1 xb1) * (Wd.qR xc2 xd2), (Wd.qR xc1 xd1) * (Wd.qR xa2 xb2), (Wd.qR xc1 xd1) * (Wd.qR xc2 xd2)]) g)).c), .v (.int .i64 (toldS (downQ (minL ((Wd.qR xa1 xb1) * (Wd.qR xa2 xb2)) [(Wd.qR xa1 xb1) * (Wd.qR xc2 xd2), (Wd.qR xc1 xd1) * (Wd.qR xa2 xb2), (Wd.qR xc1 xd1) * (Wd.qR xc2 xd2)]) g) (upQ (maxL ((Wd.qR xa1 xb1) * (Wd.qR xa2 xb2)) [(Wd.qR xa1 xb1) * (Wd.qR xc2 xd2), (Wd.qR xc1 xd1) * (Wd.qR xa2 xb2), (Wd.qR xc1 xd1) * (Wd.qR xc2 xd2)]) g)).d)]), Rg.EqT (.int .i64 (toldS (downQ (minL ((Wd.qR xa1 xb1) * (Wd.qR xa2 xb2)) [(Wd.qR xa1 xb1) * (Wd.qR xc2 xd2), (Wd.qR xc1 xd1) * (Wd.qR xa2 xb2), (Wd.qR xc1 xd1) * (Wd.qR xc2 xd2)]) g) (upQ (maxL ((Wd.qR xa1 xb1) * (Wd.qR xa2 xb2)) [(Wd.qR xa1 xb1) * (Wd.qR xc2 xd2), (Wd.qR xc1 xd1) * (Wd.qR xa2 xb2), (Wd.qR xc1 xd1) * (Wd.qR xc2 xd2)]) g)).e)]) (GS w [(w.heap.size + 2, 35, [.v (.int .i64 0), .v (.int .i64 0), .v (.int .i64 0), .v (.int .i64 0)]), (w.heap.size + 1, 35, [.v (.int .i64 xa2), .v (.int .i64 xb2), .v (.int .i64 xc2), .v (.int .i64 xd2)]), (w.heap.size, 35, [.v (.int .i64 xa1), .v (.int .i64 xb1), .v (.int .i64 xc1), .v (.int .i64 xd1)])] (w.heap.size + 2, 35, [.v (.int .i64 (toldS (downQ (minL ((Wd.qR xa1 xb1) * (Wd.qR xa2 xb2)) [(Wd.qR xa1 xb1) * (Wd.qR xc2 xd2), (Wd.qR xc1 xd1) * (Wd.qR xa2 xb2), (Wd.qR xc1 xd1) * (Wd.qR xc2 xd2)]) g) (upQ (maxL ((Wd.qR xa1 xb1) * (Wd.qR xa2 xb2)) [(Wd.qR xa1 xb1) * (Wd.qR xc2 xd2), (Wd.qR xc1 xd1) * (Wd.qR xa2 xb2), (Wd.qR xc1 xd1) * (Wd.qR xc2 xd2)]) g)).a), .v (.int .i64 (toldS (downQ (minL ((Wd.qR xa1 xb1) * (Wd.qR xa2 xb2)) [(Wd.qR xa1 xb1) * (Wd.qR xc2 xd2), (Wd.qR xc1 xd1) * (Wd.qR xa2 xb2), (Wd.qR xc1 xd1) * (Wd.qR xc2 xd2)]) g) (upQ (maxL ((Wd.qR xa1 xb1) * (Wd.qR xa2 xb2)) [(Wd.qR xa1 xb1) * (Wd.qR xc2 xd2), (Wd.qR xc1 xd1) * (Wd.qR xa2 xb2), (Wd.qR xc1 xd1) * (Wd.qR xc2 xd2)]) g)).b), .v (.int .i64 (toldS (downQ (minL ((Wd.qR xa1 xb1) * (Wd.qR xa2 xb2)) [(Wd.qR xa1 xb1) * (Wd.qR xc2 xd2), (Wd.qR xc1 xd1) * (Wd.qR xa2 xb2), (Wd.qR xc1 xd1) * (Wd.qR xc2 xd2)]) g) (upQ (maxL ((Wd.qR xa1 xb1) * (Wd.qR xa2 xb2)) [(Wd.qR xa1 xb1) * (Wd.qR xc2 xd2), (Wd.qR xc1 xd1) * (Wd.qR xa2 xb2), (Wd.qR xc1 xd1) * (Wd.qR xc2 xd2)]) g)).c), .v (.int .i64 (toldS (downQ (minL ((Wd.qR xa1 xb1) * (Wd.qR xa2 xb2)) [(Wd.qR xa1 xb1) * (Wd.qR xc2 xd2), (Wd.qR xc1 xd1) * (Wd.qR xa2 xb2), (Wd.qR xc1 xd1) * (Wd.qR xc2 xd2)]) g) (upQ (maxL ((Wd.qR xa1 xb1) * (Wd.qR xa2 xb2)) [(Wd.qR xa1 xb1) * (Wd.qR xc2 xd2), (Wd.qR xc1 xd1) * (Wd.qR xa2 xb2), (Wd.qR xc1 xd1) * (Wd.qR xc2 xd2)]) g)).d)]) (w.heap.size + 2, 35, [.v (.int .i64 (toldS (downQ (minL ((Wd.qR xa1 xb1) * (Wd.qR xa2 xb2)) [(Wd.qR xa1 xb1) * (Wd.qR xc2 xd2), (Wd.qR xc1 xd1) * (Wd.qR xa2 xb2), (Wd.qR xc1 xd1) * (Wd.qR xc2 xd2)]) g) (upQ (maxL ((Wd.qR xa1 xb1) * (Wd.qR xa2 xb2)) [(Wd.qR xa1 xb1) * (Wd.qR xc2 xd2), (Wd.qR xc1 xd1) * (Wd.qR xa2 xb2), (Wd.qR xc1 xd1) * (Wd.qR xc2 xd2)]) g)).a), .v (.int .i64 (toldS (downQ (minL ((Wd.qR xa1 xb1) * (Wd.qR xa2 xb2)) [(Wd.qR xa1 xb1) * (Wd.qR xc2 xd2), (Wd.qR xc1 xd1) * (Wd.qR xa2 xb2), (Wd.qR xc1 xd1) * (Wd.qR xc2 xd2)]) g) (upQ (maxL ((Wd.qR xa1 xb1) * (Wd.qR xa2 xb2)) [(Wd.qR xa1 xb1) * (Wd.qR xc2 xd2), (Wd.qR xc1 xd1) * (Wd.qR xa2 xb2), (Wd.qR xc1 xd1) * (Wd.qR xc2 xd2)]) g)).b), .v (.int .i64 (toldS (downQ (minL ((Wd.qR xa1 xb1) * (Wd.qR xa2 xb2)) [(Wd.qR xa1 xb1) * (Wd.qR xc2 xd2), (Wd.qR xc1 xd1) * (Wd.qR xa2 xb2), (Wd.qR xc1 xd1) * (Wd.qR xc2 xd2)]) g) (upQ (maxL ((Wd.qR xa1 xb1) * (Wd.qR xa2 xb2)) [(Wd.qR xa1 xb1) * (Wd.qR xc2 xd2), (Wd.qR xc1 xd1) * (Wd.qR xa2 xb2), (Wd.qR xc1 xd1) * (Wd.qR xc2 xd2)]) g)).c), .v (.int .i64 (toldS (downQ (minL ((Wd.qR xa1 xb1) * (Wd.qR xa2 xb2)) [(Wd.qR xa1 xb1) * (Wd.qR xc2 xd2), (Wd.qR xc1 xd1) * (Wd.qR xa2 xb2), (Wd.qR xc1 xd1) * (Wd.qR xc2 xd2)]) g) (upQ (maxL ((Wd.qR xa1 xb1) * (Wd.qR xa2 xb2)) [(Wd.qR xa1 xb1) * (Wd.qR xc2 xd2), (Wd.qR xc1 xd1) * (Wd.qR xa2 xb2), (Wd.qR xc1 xd1) * (Wd.qR xc2 xd2)]) g)).d)])) (ES (w.heap.size + 2, 35, [.v (.int .i64 (toldS (downQ (minL ((Wd.qR xa1 xb1) * (Wd.qR xa2 xb2)) [(Wd.qR xa1 xb1) * (Wd.qR xc2 xd2), (Wd.qR xc1 xd1) * (Wd.qR xa2 xb2), (Wd.qR xc1 xd1) * (Wd.qR xc2 xd2)]) g) (upQ (maxL ((Wd.qR xa1 xb1) * (Wd.qR xa2 xb2)) [(Wd.qR xa1 xb1) * (Wd.qR xc2 xd2), (Wd.qR xc1 xd1) * (Wd.qR xa2 xb2), (Wd.qR xc1 xd1) * (Wd.qR xc2 xd2)]) g)).a), .v (.int .i64 (toldS (downQ (minL ((Wd.qR xa1 xb1) * (Wd.qR xa2 xb2)) [(Wd.qR xa1 xb1) * (Wd.qR xc2 xd2), (Wd.qR xc1 xd1) * (Wd.qR xa2 xb2), (Wd.qR xc1 xd1) * (Wd.qR xc2 xd2)]) g) (upQ (maxL ((Wd.qR xa1 xb1) * (Wd.qR xa2 xb2)) [(Wd.qR xa1 xb1) * (Wd.qR xc2 xd2), (Wd.qR xc1 xd1) * (Wd.qR xa2 xb2), (Wd.qR xc1 xd1) * (Wd.qR xc2 xd2)]) g)).b), .v (.int .i64 (toldS (downQ (minL ((Wd.qR xa1 xb1) * (Wd.qR xa2 xb2)) [(Wd.qR xa1 xb1) * (Wd.qR xc2 xd2), (Wd.qR xc1 xd1) * (Wd.qR xa2 xb2), (Wd.qR xc1 xd1) * (Wd.qR xc2 xd2)]) g) (upQ (maxL ((Wd.qR xa1 xb1) * (Wd.qR xa2 xb2)) [(Wd.qR xa1 xb1) * (Wd.qR xc2 xd2), (Wd.qR xc1 xd1) * (Wd.qR xa2 xb2), (Wd.qR xc1 xd1) * (Wd.qR xc2 xd2)]) g)).c), .v (.int .i64 (toldS (downQ (minL ((Wd.qR xa1 xb1) * (Wd.qR xa2 xb2)) [(Wd.qR xa1 xb1) * (Wd.qR xc2 xd2), (Wd.qR xc1 xd1) * (Wd.qR xa2 xb2), (Wd.qR xc1 xd1) * (Wd.qR xc2 xd2)]) g) (upQ (maxL ((Wd.qR xa1 xb1) * (Wd.qR xa2 xb2)) [(Wd.qR xa1 xb1) * (Wd.qR xc2 xd2), (Wd.qR xc1 xd1) * (Wd.qR xa2 xb2), (Wd.qR xc1 xd1) * (Wd.qR xc2 xd2)]) g)).d)]) (w.heap.size + 2, 35, [.v (.int .i64 (toldS (downQ (minL ((Wd.qR xa1 xb1) * (Wd.qR xa2 xb2)) [(Wd.qR xa1 xb1) * (Wd.qR xc2 xd2), (Wd.qR xc1 xd1) * (Wd.qR xa2 xb2), (Wd.qR xc1 xd1) * (Wd.qR xc2 xd2)]) g) (upQ (maxL ((Wd.qR xa1 xb1) * (Wd.qR xa2 xb2)) [(Wd.qR xa1 xb1) * (Wd.qR xc2 xd2), (Wd.qR xc1 xd1) * (Wd.qR xa2 xb2), (Wd.qR xc1 xd1) * (Wd.qR xc2 xd2)]) g)).a), .v (.int .i64 (toldS (downQ (minL ((Wd.qR xa1 xb1) * (Wd.qR xa2 xb2)) [(Wd.qR xa1 xb1) * (Wd.qR xc2 xd2), (Wd.qR xc1 xd1) * (Wd.qR xa2 xb2), (Wd.qR xc1 xd1) * (Wd.qR xc2 xd2)]) g) (upQ (maxL ((Wd.qR xa1 xb1) * (Wd.qR xa2 xb2)) [(Wd.qR xa1 xb1) * (Wd.qR xc2 xd2), (Wd.qR xc1 xd1) * (Wd.qR xa2 xb2), (Wd.qR xc1 xd1) * (Wd.qR xc2 xd2)]) g)).b), .v (.int .i64 (toldS (downQ (minL ((Wd.qR xa1 xb1) * (Wd.qR xa2 xb2)) [(Wd.qR xa1 xb1) * (Wd.qR xc2 xd2), (Wd.qR xc1 xd1) * (Wd.qR xa2 xb2), (Wd.qR xc1 xd1) * (Wd.qR xc2 xd2)]) g) (upQ (maxL ((Wd.qR xa1 xb1) * (Wd.qR xa2 xb2)) [(Wd.qR xa1 xb1) * (Wd.qR xc2 xd2), (Wd.qR xc1 xd1) * (Wd.qR xa2 xb2), (Wd.qR xc1 xd1) * (Wd.qR xc2 xd2)]) g)).c), .v (.int .i64 (toldS (downQ (minL ((Wd.qR xa1 xb1) * (Wd.qR xa2 xb2)) [(Wd.qR xa1 xb1) * (Wd.qR xc2 xd2), (Wd.qR xc1 xd1) * (Wd.qR xa2 xb2), (Wd.qR xc1 xd1) * (Wd.qR xc2 xd2)]) g) (upQ (maxL ((Wd.qR xa1 xb1) * (Wd.qR xa2 xb2)) [(Wd.qR xa1 xb1) * (Wd.qR xc2 xd2), (Wd.qR xc1 xd1) * (Wd.qR xa2 xb2), (Wd.qR xc1 xd1) * (Wd.qR xc2 xd2)]) g)).d)])) [] (by kernel_rfl) (by kernel_rfl) rfl (Rg.Stabs.pick ⟨(stabS_eq _), (stabS_agg _), (stabS_agg _), (stabS_agg _), (stabS_agg _), (stabS_agg _), (stabS_eq _), (stabS_agg _), (stabS_tup ⟨(stabS_agg _), (stabS_eq _), trivial⟩), (stabS_agg _), (stabS_eq _), (stabS_st (.inr rfl) (.inl rfl)), (stabS_eq _), trivial⟩) (GS.start (unhide HO))
      (Rg.steps_cons (Rg.plain rfl (step_mono (s_move rfl (Rg.argF (by kernel_rfl) rfl))))
        (Rg.steps_cons (Rg.plain rfl (step_mono (s_load (b := w.heap.size) (off := 0) (TB := 35) (pre := []) (mid := [.v (.int .i64 xa1), .v (.int .i64 xb1), .v (.int .i64 xc1), .v (.int .i64 xd1)]) (post := []) load_s rfl (Rg.argF (by kernel_rfl) rfl) (fun W h => GS.get (List.Mem.tail _ (List.Mem.tail _ (List.Mem.head _))) (fun h => absurd (show (w.heap.size + 2 : Nat) = w.heap.size from h) (by first | omega | (intro h; exact _root_.trivial h))) (fun h => absurd (show (w.heap.size + 2 : Nat) = w.heap.size from h) (by first | omega | (intro h; exact _root_.trivial h))) h) rfl rfl rfl)))
        (Rg.steps_cons (Rg.plain rfl (step_mono (s_call1 Tryd.func42 (by kernel_rfl) rfl GS.step (Rg.argT 1 (by kernel_rfl)) (fun W v0 hG h0 => c_span ⟨(unhide HQ).1.1, (unhide HQ).1.2.1⟩ W _ h0))))
        (Rg.steps_cons (Rg.plain rfl (step_mono (s_load (b := w.heap.size + 1) (off := 0) (TB := 35) (pre := []) (mid := [.v (.int .i64 xa2), .v (.int .i64 xb2), .v (.int .i64 xc2), .v (.int .i64 xd2)]) (post := []) load_s rfl (Rg.argF (by kernel_rfl) rfl) (fun W h => GS.get (List.Mem.tail _ (List.Mem.head _)) (fun h => absurd (show (w.heap.size + 2 : Nat) = w.heap.size + 1 from h) (by first | omega | (intro h; exact _root_.trivial h))) (fun h => absurd (show (w.heap.size + 2 : Nat) = w.heap.size + 1 from h) (by first | omega | (intro h; exact _root_.trivial h))) h) rfl rfl rfl)))
        (Rg.steps_cons (Rg.plain rfl (step_mono (s_call1 Tryd.func42 (by kernel_rfl) rfl GS.step (Rg.argT 3 (by kernel_rfl)) (fun W v0 hG h0 => c_span ⟨(unhide HQ).2.1.1, (unhide HQ).2.1.2.1⟩ W _ h0))))
        (Rg.steps_cons (Rg.plain rfl (step_mono (s_callv2 Tryd.func73 (by kernel_rfl) rfl GS.step (Rg.argT 0 (by kernel_rfl)) (Rg.argT 2 (by kernel_rfl)) (Rg.argT 4 (by kernel_rfl)) (fun W v0 v1 hG h0 h1 => c_times (K := 1) (sm_okR (unhide HQ).1.1) (sm_okR (unhide HQ).1.2.1) (sm_okR (unhide HQ).2.1.1) (sm_okR (unhide HQ).2.1.2.1) (by omega) W ((unhide HT).below hG.bel) _ h0 _ h1))))
        (Rg.steps_cons (Rg.plain rfl (step_mono (s_move rfl (Rg.argF (by kernel_rfl) rfl))))
        (Rg.steps_cons (Rg.plain rfl (step_mono (s_call2 Tryd.func101 (by kernel_rfl) rfl GS.step (Rg.argT 5 (by kernel_rfl)) (Rg.argT 6 (by kernel_rfl)) (fun W v0 v1 hG h0 h1 => by cases h1; exact c_outward (unhide HSM).1 (unhide HSM).2 (unhide HQ).2.2.1 (unhide HQ).2.2.2 (by omega) W ((unhide HT).below hG.bel) _ h0))))
        (Rg.steps_cons (Rg.plain rfl (step_mono (s_call1 Tryd.func47 (by kernel_rfl) rfl GS.step (Rg.argT 7 (by kernel_rfl)) (fun W v0 hG h0 => c_told W _ h0))))
        (Rg.steps_cons (Rg.plain rfl (step_mono (s_extT (ts := [AggT [.v (.int .i64 (toldS (downQ (minL ((Wd.qR xa1 xb1) * (Wd.qR xa2 xb2)) [(Wd.qR xa1 xb1) * (Wd.qR xc2 xd2), (Wd.qR xc1 xd1) * (Wd.qR xa2 xb2), (Wd.qR xc1 xd1) * (Wd.qR xc2 xd2)]) g) (upQ (maxL ((Wd.qR xa1 xb1) * (Wd.qR xa2 xb2)) [(Wd.qR xa1 xb1) * (Wd.qR xc2 xd2), (Wd.qR xc1 xd1) * (Wd.qR xa2 xb2), (Wd.qR xc1 xd1) * (Wd.qR xc2 xd2)]) g)).a), .v (.int .i64 (toldS (downQ (minL ((Wd.qR xa1 xb1) * (Wd.qR xa2 xb2)) [(Wd.qR xa1 xb1) * (Wd.qR xc2 xd2), (Wd.qR xc1 xd1) * (Wd.qR xa2 xb2), (Wd.qR xc1 xd1) * (Wd.qR xc2 xd2)]) g) (upQ (maxL ((Wd.qR xa1 xb1) * (Wd.qR xa2 xb2)) [(Wd.qR xa1 xb1) * (Wd.qR xc2 xd2), (Wd.qR xc1 xd1) * (Wd.qR xa2 xb2), (Wd.qR xc1 xd1) * (Wd.qR xc2 xd2)]) g)).b), .v (.int .i64 (toldS (downQ (minL ((Wd.qR xa1 xb1) * (Wd.qR xa2 xb2)) [(Wd.qR xa1 xb1) * (Wd.qR xc2 xd2), (Wd.qR xc1 xd1) * (Wd.qR xa2 xb2), (Wd.qR xc1 xd1) * (Wd.qR xc2 xd2)]) g) (upQ (maxL ((Wd.qR xa1 xb1) * (Wd.qR xa2 xb2)) [(Wd.qR xa1 xb1) * (Wd.qR xc2 xd2), (Wd.qR xc1 xd1) * (Wd.qR xa2 xb2), (Wd.qR xc1 xd1) * (Wd.qR xc2 xd2)]) g)).c), .v (.int .i64 (toldS (downQ (minL ((Wd.qR xa1 xb1) * (Wd.qR xa2 xb2)) [(Wd.qR xa1 xb1) * (Wd.qR xc2 xd2), (Wd.qR xc1 xd1) * (Wd.qR xa2 xb2), (Wd.qR xc1 xd1) * (Wd.qR xc2 xd2)]) g) (upQ (maxL ((Wd.qR xa1 xb1) * (Wd.qR xa2 xb2)) [(Wd.qR xa1 xb1) * (Wd.qR xc2 xd2), (Wd.qR xc1 xd1) * (Wd.qR xa2 xb2), (Wd.qR xc1 xd1) * (Wd.qR xc2 xd2)]) g)).d)], Rg.EqT (.int .i64 (toldS (downQ (minL ((Wd.qR xa1 xb1) * (Wd.qR xa2 xb2)) [(Wd.qR xa1 xb1) * (Wd.qR xc2 xd2), (Wd.qR xc1 xd1) * (Wd.qR xa2 xb2), (Wd.qR xc1 xd1) * (Wd.qR xc2 xd2)]) g) (upQ (maxL ((Wd.qR xa1 xb1) * (Wd.qR xa2 xb2)) [(Wd.qR xa1 xb1) * (Wd.qR xc2 xd2), (Wd.qR xc1 xd1) * (Wd.qR xa2 xb2), (Wd.qR xc1 xd1) * (Wd.qR xc2 xd2)]) g)).e)]) rfl (Rg.argT 8 (by kernel_rfl)) (of_decide_eq_true rfl) rfl)))
        (Rg.steps_cons (Rg.plain rfl (step_mono (s_extT (ts := [AggT [.v (.int .i64 (toldS (downQ (minL ((Wd.qR xa1 xb1) * (Wd.qR xa2 xb2)) [(Wd.qR xa1 xb1) * (Wd.qR xc2 xd2), (Wd.qR xc1 xd1) * (Wd.qR xa2 xb2), (Wd.qR xc1 xd1) * (Wd.qR xc2 xd2)]) g) (upQ (maxL ((Wd.qR xa1 xb1) * (Wd.qR xa2 xb2)) [(Wd.qR xa1 xb1) * (Wd.qR xc2 xd2), (Wd.qR xc1 xd1) * (Wd.qR xa2 xb2), (Wd.qR xc1 xd1) * (Wd.qR xc2 xd2)]) g)).a), .v (.int .i64 (toldS (downQ (minL ((Wd.qR xa1 xb1) * (Wd.qR xa2 xb2)) [(Wd.qR xa1 xb1) * (Wd.qR xc2 xd2), (Wd.qR xc1 xd1) * (Wd.qR xa2 xb2), (Wd.qR xc1 xd1) * (Wd.qR xc2 xd2)]) g) (upQ (maxL ((Wd.qR xa1 xb1) * (Wd.qR xa2 xb2)) [(Wd.qR xa1 xb1) * (Wd.qR xc2 xd2), (Wd.qR xc1 xd1) * (Wd.qR xa2 xb2), (Wd.qR xc1 xd1) * (Wd.qR xc2 xd2)]) g)).b), .v (.int .i64 (toldS (downQ (minL ((Wd.qR xa1 xb1) * (Wd.qR xa2 xb2)) [(Wd.qR xa1 xb1) * (Wd.qR xc2 xd2), (Wd.qR xc1 xd1) * (Wd.qR xa2 xb2), (Wd.qR xc1 xd1) * (Wd.qR xc2 xd2)]) g) (upQ (maxL ((Wd.qR xa1 xb1) * (Wd.qR xa2 xb2)) [(Wd.qR xa1 xb1) * (Wd.qR xc2 xd2), (Wd.qR xc1 xd1) * (Wd.qR xa2 xb2), (Wd.qR xc1 xd1) * (Wd.qR xc2 xd2)]) g)).c), .v (.int .i64 (toldS (downQ (minL ((Wd.qR xa1 xb1) * (Wd.qR xa2 xb2)) [(Wd.qR xa1 xb1) * (Wd.qR xc2 xd2), (Wd.qR xc1 xd1) * (Wd.qR xa2 xb2), (Wd.qR xc1 xd1) * (Wd.qR xc2 xd2)]) g) (upQ (maxL ((Wd.qR xa1 xb1) * (Wd.qR xa2 xb2)) [(Wd.qR xa1 xb1) * (Wd.qR xc2 xd2), (Wd.qR xc1 xd1) * (Wd.qR xa2 xb2), (Wd.qR xc1 xd1) * (Wd.qR xc2 xd2)]) g)).d)], Rg.EqT (.int .i64 (toldS (downQ (minL ((Wd.qR xa1 xb1) * (Wd.qR xa2 xb2)) [(Wd.qR xa1 xb1) * (Wd.qR xc2 xd2), (Wd.qR xc1 xd1) * (Wd.qR xa2 xb2), (Wd.qR xc1 xd1) * (Wd.qR xc2 xd2)]) g) (upQ (maxL ((Wd.qR xa1 xb1) * (Wd.qR xa2 xb2)) [(Wd.qR xa1 xb1) * (Wd.qR xc2 xd2), (Wd.qR xc1 xd1) * (Wd.qR xa2 xb2), (Wd.qR xc1 xd1) * (Wd.qR xc2 xd2)]) g)).e)]) rfl (Rg.argT 8 (by kernel_rfl)) (of_decide_eq_true rfl) rfl)))
        (Rg.steps_cons (Rg.plain rfl (s_storeS (b := w.heap.size + 2) (old := [.v (.int .i64 0), .v (.int .i64 0), .v (.int .i64 0), .v (.int .i64 0)]) (new := [.v (.int .i64 (toldS (downQ (minL ((Wd.qR xa1 xb1) * (Wd.qR xa2 xb2)) [(Wd.qR xa1 xb1) * (Wd.qR xc2 xd2), (Wd.qR xc1 xd1) * (Wd.qR xa2 xb2), (Wd.qR xc1 xd1) * (Wd.qR xc2 xd2)]) g) (upQ (maxL ((Wd.qR xa1 xb1) * (Wd.qR xa2 xb2)) [(Wd.qR xa1 xb1) * (Wd.qR xc2 xd2), (Wd.qR xc1 xd1) * (Wd.qR xa2 xb2), (Wd.qR xc1 xd1) * (Wd.qR xc2 xd2)]) g)).a), .v (.int .i64 (toldS (downQ (minL ((Wd.qR xa1 xb1) * (Wd.qR xa2 xb2)) [(Wd.qR xa1 xb1) * (Wd.qR xc2 xd2), (Wd.qR xc1 xd1) * (Wd.qR xa2 xb2), (Wd.qR xc1 xd1) * (Wd.qR xc2 xd2)]) g) (upQ (maxL ((Wd.qR xa1 xb1) * (Wd.qR xa2 xb2)) [(Wd.qR xa1 xb1) * (Wd.qR xc2 xd2), (Wd.qR xc1 xd1) * (Wd.qR xa2 xb2), (Wd.qR xc1 xd1) * (Wd.qR xc2 xd2)]) g)).b), .v (.int .i64 (toldS (downQ (minL ((Wd.qR xa1 xb1) * (Wd.qR xa2 xb2)) [(Wd.qR xa1 xb1) * (Wd.qR xc2 xd2), (Wd.qR xc1 xd1) * (Wd.qR xa2 xb2), (Wd.qR xc1 xd1) * (Wd.qR xc2 xd2)]) g) (upQ (maxL ((Wd.qR xa1 xb1) * (Wd.qR xa2 xb2)) [(Wd.qR xa1 xb1) * (Wd.qR xc2 xd2), (Wd.qR xc1 xd1) * (Wd.qR xa2 xb2), (Wd.qR xc1 xd1) * (Wd.qR xc2 xd2)]) g)).c), .v (.int .i64 (toldS (downQ (minL ((Wd.qR xa1 xb1) * (Wd.qR xa2 xb2)) [(Wd.qR xa1 xb1) * (Wd.qR xc2 xd2), (Wd.qR xc1 xd1) * (Wd.qR xa2 xb2), (Wd.qR xc1 xd1) * (Wd.qR xc2 xd2)]) g) (upQ (maxL ((Wd.qR xa1 xb1) * (Wd.qR xa2 xb2)) [(Wd.qR xa1 xb1) * (Wd.qR xc2 xd2), (Wd.qR xc1 xd1) * (Wd.qR xa2 xb2), (Wd.qR xc1 xd1) * (Wd.qR xc2 xd2)]) g)).d)]) store_s rfl (Rg.argF (by kernel_rfl) rfl) (Rg.argT 9 (by kernel_rfl)) (List.Mem.head _) (unhide HO).nd (.inl rfl) (.inr rfl) rfl rfl rfl))
        (Rg.steps_cons (Rg.plain rfl (step_mono (s_assign rfl (Rg.argT 10 (by kernel_rfl)))))
        Rg.steps_nil))))))))))))) ?_
    intro v3 V3 hG3 hv3 hne3
    simp only [Rg.puts, List.take_succ_cons, List.take_zero, List.drop_succ_cons, List.drop_zero, Act.put, List.setIfInBounds_toArray, List.set_cons_zero, List.set_cons_succ]
    have e0 : v3 0 = .func (.func 73) #[] #[] := hv3 0 (by decide)
    have e6 : v3 6 = .int .i64 g := hv3 6 (by decide)
    have e10 : v3 10 = .int .i64 (toldS (downQ (minL ((Wd.qR xa1 xb1) * (Wd.qR xa2 xb2)) [(Wd.qR xa1 xb1) * (Wd.qR xc2 xd2), (Wd.qR xc1 xd1) * (Wd.qR xa2 xb2), (Wd.qR xc1 xd1) * (Wd.qR xc2 xd2)]) g) (upQ (maxL ((Wd.qR xa1 xb1) * (Wd.qR xa2 xb2)) [(Wd.qR xa1 xb1) * (Wd.qR xc2 xd2), (Wd.qR xc1 xd1) * (Wd.qR xa2 xb2), (Wd.qR xc1 xd1) * (Wd.qR xc2 xd2)]) g)).e := hv3 10 (by decide)
    have e12 : v3 12 = .int .i64 (toldS (downQ (minL ((Wd.qR xa1 xb1) * (Wd.qR xa2 xb2)) [(Wd.qR xa1 xb1) * (Wd.qR xc2 xd2), (Wd.qR xc1 xd1) * (Wd.qR xa2 xb2), (Wd.qR xc1 xd1) * (Wd.qR xc2 xd2)]) g) (upQ (maxL ((Wd.qR xa1 xb1) * (Wd.qR xa2 xb2)) [(Wd.qR xa1 xb1) * (Wd.qR xc2 xd2), (Wd.qR xc1 xd1) * (Wd.qR xa2 xb2), (Wd.qR xc1 xd1) * (Wd.qR xc2 xd2)]) g)).e := hv3 12 (by decide)
    simp only [e0, e6, e10, e12]
    have hO : Own w [(w.heap.size + 2, 35, [.v (.int .i64 (toldS (downQ (minL ((Wd.qR xa1 xb1) * (Wd.qR xa2 xb2)) [(Wd.qR xa1 xb1) * (Wd.qR xc2 xd2), (Wd.qR xc1 xd1) * (Wd.qR xa2 xb2), (Wd.qR xc1 xd1) * (Wd.qR xc2 xd2)]) g) (upQ (maxL ((Wd.qR xa1 xb1) * (Wd.qR xa2 xb2)) [(Wd.qR xa1 xb1) * (Wd.qR xc2 xd2), (Wd.qR xc1 xd1) * (Wd.qR xa2 xb2), (Wd.qR xc1 xd1) * (Wd.qR xc2 xd2)]) g)).a), .v (.int .i64 (toldS (downQ (minL ((Wd.qR xa1 xb1) * (Wd.qR xa2 xb2)) [(Wd.qR xa1 xb1) * (Wd.qR xc2 xd2), (Wd.qR xc1 xd1) * (Wd.qR xa2 xb2), (Wd.qR xc1 xd1) * (Wd.qR xc2 xd2)]) g) (upQ (maxL ((Wd.qR xa1 xb1) * (Wd.qR xa2 xb2)) [(Wd.qR xa1 xb1) * (Wd.qR xc2 xd2), (Wd.qR xc1 xd1) * (Wd.qR xa2 xb2), (Wd.qR xc1 xd1) * (Wd.qR xc2 xd2)]) g)).b), .v (.int .i64 (toldS (downQ (minL ((Wd.qR xa1 xb1) * (Wd.qR xa2 xb2)) [(Wd.qR xa1 xb1) * (Wd.qR xc2 xd2), (Wd.qR xc1 xd1) * (Wd.qR xa2 xb2), (Wd.qR xc1 xd1) * (Wd.qR xc2 xd2)]) g) (upQ (maxL ((Wd.qR xa1 xb1) * (Wd.qR xa2 xb2)) [(Wd.qR xa1 xb1) * (Wd.qR xc2 xd2), (Wd.qR xc1 xd1) * (Wd.qR xa2 xb2), (Wd.qR xc1 xd1) * (Wd.qR xc2 xd2)]) g)).c), .v (.int .i64 (toldS (downQ (minL ((Wd.qR xa1 xb1) * (Wd.qR xa2 xb2)) [(Wd.qR xa1 xb1) * (Wd.qR xc2 xd2), (Wd.qR xc1 xd1) * (Wd.qR xa2 xb2), (Wd.qR xc1 xd1) * (Wd.qR xc2 xd2)]) g) (upQ (maxL ((Wd.qR xa1 xb1) * (Wd.qR xa2 xb2)) [(Wd.qR xa1 xb1) * (Wd.qR xc2 xd2), (Wd.qR xc1 xd1) * (Wd.qR xa2 xb2), (Wd.qR xc1 xd1) * (Wd.qR xc2 xd2)]) g)).d)]), (w.heap.size + 1, 35, [.v (.int .i64 xa2), .v (.int .i64 xb2), .v (.int .i64 xc2), .v (.int .i64 xd2)]), (w.heap.size, 35, [.v (.int .i64 xa1), .v (.int .i64 xb1), .v (.int .i64 xc1), .v (.int .i64 xd1)])] V3 := by
      refine ⟨hG3.bel, (unhide HO).nd, fun b T ls hm => ?_⟩
      rcases List.mem_cons.1 hm with e | hm
      · cases e; exact ⟨(hG3.box _ _ _ (List.Mem.head _)).1, hv3 11 (by decide)⟩
      rcases List.mem_cons.1 hm with e | hm
      · cases e; exact ⟨(hG3.box _ _ _ (List.Mem.tail _ (List.Mem.head _))).1, GS.get (List.Mem.tail _ (List.Mem.head _)) (fun h => absurd (show (w.heap.size + 2 : Nat) = w.heap.size + 1 from h) (by first | omega | (intro h; exact _root_.trivial h))) (fun h => absurd (show (w.heap.size + 2 : Nat) = w.heap.size + 1 from h) (by first | omega | (intro h; exact _root_.trivial h))) hG3⟩
      rcases List.mem_cons.1 hm with e | hm
      · cases e; exact ⟨(hG3.box _ _ _ (List.Mem.tail _ (List.Mem.tail _ (List.Mem.head _)))).1, GS.get (List.Mem.tail _ (List.Mem.tail _ (List.Mem.head _))) (fun h => absurd (show (w.heap.size + 2 : Nat) = w.heap.size from h) (by first | omega | (intro h; exact _root_.trivial h))) (fun h => absurd (show (w.heap.size + 2 : Nat) = w.heap.size from h) (by first | omega | (intro h; exact _root_.trivial h))) hG3⟩
      cases hm
    clear HO
    have HO := hide hO
    clear hO hG3 hv3 hne3
    try clear e0 e6 e10 e12
    go_wp2_with fail
    exact end_ct Tryd.results72 loadv_s rfl rfl (unhide HO) (List.Mem.head _) rfl rfl
  · have k1 : (grdE (errS [⟨xa1, xb1, xc1, xd1⟩, ⟨xa2, xb2, xc2, xd2⟩]) g != 0) = true := by simp [bne, beq_eq_false_iff_ne.2 g0]
    have hr := (unhide HR).1 g0
    clear HR
    subst hr
    clear HOK
    go_upto_region 2 with fail
    refine Rg.regionS 2 32 (Rg.pick [Rg.EqT (.int .i64 (grdE (errS [⟨xa1, xb1, xc1, xd1⟩, ⟨xa2, xb2, xc2, xd2⟩]) g)), Rg.EqT (.bool true)]) (OwnG w [(w.heap.size + 2, 35, [.v (.int .i64 0), .v (.int .i64 0), .v (.int .i64 0), .v (.int .i64 0)]), (w.heap.size + 1, 35, [.v (.int .i64 xa2), .v (.int .i64 xb2), .v (.int .i64 xc2), .v (.int .i64 xd2)]), (w.heap.size, 35, [.v (.int .i64 xa1), .v (.int .i64 xb1), .v (.int .i64 xc1), .v (.int .i64 xd1)])] V1) Bel [] (by kernel_rfl) rfl (Rg.Stabs.pick ⟨Rg.stab_eq _, Rg.stab_eq _, trivial⟩) (OwnG.begin (unhide HO))
      (Rg.steps_cons (Rg.plain rfl (s_move rfl (Rg.argF (by kernel_rfl) rfl)))
        (Rg.steps_cons (Rg.plain rfl (s_neqE rfl (Rg.argT 0 (by kernel_rfl)) (Rg.argC _) rfl k1))
        Rg.steps_nil)) ?_
    intro v2 V2 hG2 hv2 hne2
    simp only [Rg.puts, List.take_succ_cons, List.take_zero, List.drop_succ_cons, List.drop_zero, Act.put, List.setIfInBounds_toArray, List.set_cons_zero, List.set_cons_succ]
    have e0 : v2 0 = .int .i64 (grdE (errS [⟨xa1, xb1, xc1, xd1⟩, ⟨xa2, xb2, xc2, xd2⟩]) g) := hv2 0 (by decide)
    have e1 : v2 1 = .bool true := hv2 1 (by decide)
    simp only [e0, e1]
    have hO := hG2.1
    clear HO
    have HO := hide hO
    clear hO hG2 hv2 hne2
    try clear e0 e1
    go_upto_region 3 with fail
    refine Rg.regionS 2 32 (Rg.pick [AggT [.v (.int .i64 0), .v (.int .i64 0), .v (.int .i64 0), .v (.int .i64 0)], Rg.EqT (.int .i64 (grdE (errS [⟨xa1, xb1, xc1, xd1⟩, ⟨xa2, xb2, xc2, xd2⟩]) g))]) (OwnG w [(w.heap.size + 2, 35, [.v (.int .i64 0), .v (.int .i64 0), .v (.int .i64 0), .v (.int .i64 0)]), (w.heap.size + 1, 35, [.v (.int .i64 xa2), .v (.int .i64 xb2), .v (.int .i64 xc2), .v (.int .i64 xd2)]), (w.heap.size, 35, [.v (.int .i64 xa1), .v (.int .i64 xb1), .v (.int .i64 xc1), .v (.int .i64 xd1)])] V2) Bel [] (by kernel_rfl) rfl (Rg.Stabs.pick ⟨stab_agg _, Rg.stab_eq _, trivial⟩) (OwnG.begin (unhide HO))
      (Rg.steps_cons (Rg.plain rfl (s_build0 build0_s rfl rfl rfl))
        (Rg.steps_cons (Rg.plain rfl (s_move rfl (Rg.argF (by kernel_rfl) rfl)))
        Rg.steps_nil)) ?_
    intro v3 V3 hG3 hv3 hne3
    simp only [Rg.puts, List.take_succ_cons, List.take_zero, List.drop_succ_cons, List.drop_zero, Act.put, List.setIfInBounds_toArray, List.set_cons_zero, List.set_cons_succ]
    have e1 : v3 1 = .int .i64 (grdE (errS [⟨xa1, xb1, xc1, xd1⟩, ⟨xa2, xb2, xc2, xd2⟩]) g) := hv3 1 (by decide)
    simp only [e1]
    have hO := hG3.1
    refine tl_store (xs := []) (ys := [(w.heap.size + 1, 35, [.v (.int .i64 xa2), .v (.int .i64 xb2), .v (.int .i64 xc2), .v (.int .i64 xd2)]), (w.heap.size, 35, [.v (.int .i64 xa1), .v (.int .i64 xb1), .v (.int .i64 xc1), .v (.int .i64 xd1)])]) (pre := []) (old := [.v (.int .i64 0), .v (.int .i64 0), .v (.int .i64 0), .v (.int .i64 0)]) (new := [.v (.int .i64 0), .v (.int .i64 0), .v (.int .i64 0), .v (.int .i64 0)]) (post := []) (b := w.heap.size + 2) (off := 0) store_s rfl (show AggT [.v (.int .i64 0), .v (.int .i64 0), .v (.int .i64 0), .v (.int .i64 0)] V3 (v3 0) from hv3 0 (by decide)) hO rfl rfl rfl ?_
    intro U3_0 hO0 hk0
    replace hO : Own w [(w.heap.size + 2, 35, [.v (.int .i64 0), .v (.int .i64 0), .v (.int .i64 0), .v (.int .i64 0)]), (w.heap.size + 1, 35, [.v (.int .i64 xa2), .v (.int .i64 xb2), .v (.int .i64 xc2), .v (.int .i64 xd2)]), (w.heap.size, 35, [.v (.int .i64 xa1), .v (.int .i64 xb1), .v (.int .i64 xc1), .v (.int .i64 xd1)])] U3_0 := hO0
    clear hO0
    clear HO
    have HO := hide hO
    clear hO hG3 hv3 hne3 hk0
    try clear e1
    go_wp2_with fail
    exact end_ct Tryd.results72 loadv_s rfl rfl (unhide HO) (List.Mem.head _) rfl rfl
set_option maxRecDepth 100000 in
set_option maxHeartbeats 16000000 in
theorem mul_walk {xa1 xb1 xc1 xd1 xa2 xb2 xc2 xd2 : Int} {g : Int} (t : ToldS) (w : World) (hT : Tab w) (u0 : Value) (h0 : AggT [.v (.int .i64 xa1), .v (.int .i64 xb1), .v (.int .i64 xc1), .v (.int .i64 xd1)] w u0) (u1 : Value) (h1 : AggT [.v (.int .i64 xa2), .v (.int .i64 xb2), .v (.int .i64 xc2), .v (.int .i64 xd2)] w u1)
    (hc : ∀ (W : World) (v0 v1 : Value), Tab W → AggT [.v (.int .i64 xa1), .v (.int .i64 xb1), .v (.int .i64 xc1), .v (.int .i64 xd1)] W v0 → AggT [.v (.int .i64 xa2), .v (.int .i64 xb2), .v (.int .i64 xc2), .v (.int .i64 xd2)] W v1 → Calls Tryd.prog 72 #[v0, v1, .int .i64 g, .func (.func 73) #[] #[]] W (RetT (SpT t) W)) :
    Calls Tryd.prog 44 #[u0, u1, .int .i64 g] w (RetT (SpT t) w) := by
  have HC := hide hc
  have HT := hide hT
  clear hc hT
  have hu0 := agg_v4 h0
  subst hu0
  have hu1 := agg_v4 h1
  subst hu1
  go_enter Tryd.func44, Tryd.ntmps44
  go_upto_region 1 with fail
  have hO := (Own.push (T := 35) (ls := [.v (.int .i64 0), .v (.int .i64 0), .v (.int .i64 0), .v (.int .i64 0)]) (cs := [.int .i64 0, .int .i64 0, .int .i64 0, .int .i64 0]) (Own.push (T := 35) (ls := [.v (.int .i64 xa2), .v (.int .i64 xb2), .v (.int .i64 xc2), .v (.int .i64 xd2)]) (cs := [.int .i64 xa2, .int .i64 xb2, .int .i64 xc2, .int .i64 xd2]) (Own.push (T := 35) (ls := [.v (.int .i64 xa1), .v (.int .i64 xb1), .v (.int .i64 xc1), .v (.int .i64 xd1)]) (cs := [.int .i64 xa1, .int .i64 xb1, .int .i64 xc1, .int .i64 xd1]) (Own.nil w) (LOk.v (notW_i _) (LOk.v (notW_i _) (LOk.v (notW_i _) (LOk.v (notW_i _) rfl)))) (w.heap.size) rfl) (((LOk.v (notW_i _) (LOk.v (notW_i _) (LOk.v (notW_i _) (LOk.v (notW_i _) rfl)))) : LOk w [.v (.int .i64 xa2), .v (.int .i64 xb2), .v (.int .i64 xc2), .v (.int .i64 xd2)] [.int .i64 xa2, .int .i64 xb2, .int .i64 xc2, .int .i64 xd2]).below (by repeat (first | exact Below.refl _ _ | refine below_alloc ?_ _))) (w.heap.size + 1) (by simp only [World.size_alloc])) (((LOk.vs w [.int .i64 0, .int .i64 0, .int .i64 0, .int .i64 0] rfl) : LOk w [.v (.int .i64 0), .v (.int .i64 0), .v (.int .i64 0), .v (.int .i64 0)] [.int .i64 0, .int .i64 0, .int .i64 0, .int .i64 0]).below (by repeat (first | exact Below.refl _ _ | refine below_alloc ?_ _))) (w.heap.size + 2) (by simp only [World.size_alloc]))
  generalize ((w.alloc (.cells #[.int .i64 xa1, .int .i64 xb1, .int .i64 xc1, .int .i64 xd1] 35)).alloc (.cells #[.int .i64 xa2, .int .i64 xb2, .int .i64 xc2, .int .i64 xd2] 35)).alloc (.cells #[.int .i64 0, .int .i64 0, .int .i64 0, .int .i64 0] 35) = W0 at *
  have HO := hide hO
  clear hO
  go_upto_region 1 with fail
  refine Rg.regionS 6 14 (Rg.pick [AggT [.v (.int .i64 xa1), .v (.int .i64 xb1), .v (.int .i64 xc1), .v (.int .i64 xd1)], AggT [.v (.int .i64 xa2), .v (.int .i64 xb2), .v (.int .i64 xc2), .v (.int .i64 xd2)], Rg.EqT (.int .i64 g), TupT [AggT [.v (.int .i64 t.a), .v (.int .i64 t.b), .v (.int .i64 t.c), .v (.int .i64 t.d)], Rg.EqT (.int .i64 t.e)], AggT [.v (.int .i64 t.a), .v (.int .i64 t.b), .v (.int .i64 t.c), .v (.int .i64 t.d)], Rg.EqT (.int .i64 t.e)]) (OwnG w [(w.heap.size + 2, 35, [.v (.int .i64 0), .v (.int .i64 0), .v (.int .i64 0), .v (.int .i64 0)]), (w.heap.size + 1, 35, [.v (.int .i64 xa2), .v (.int .i64 xb2), .v (.int .i64 xc2), .v (.int .i64 xd2)]), (w.heap.size, 35, [.v (.int .i64 xa1), .v (.int .i64 xb1), .v (.int .i64 xc1), .v (.int .i64 xd1)])] W0) Bel [] (by kernel_rfl) rfl (Rg.Stabs.pick ⟨stab_agg _, stab_agg _, Rg.stab_eq _, stab_tup ⟨(stab_agg _), (Rg.stab_eq _), trivial⟩, stab_agg _, Rg.stab_eq _, trivial⟩) (OwnG.begin (unhide HO))
    (Rg.steps_cons (Rg.plain rfl (s_load (b := w.heap.size) (off := 0) (TB := 35) (pre := []) (mid := [.v (.int .i64 xa1), .v (.int .i64 xb1), .v (.int .i64 xc1), .v (.int .i64 xd1)]) (post := []) load_s rfl (Rg.argF (by kernel_rfl) rfl) (fun W h => OwnG.box (List.Mem.tail _ (List.Mem.tail _ (List.Mem.head _))) h) rfl rfl rfl))
      (Rg.steps_cons (Rg.plain rfl (s_load (b := w.heap.size + 1) (off := 0) (TB := 35) (pre := []) (mid := [.v (.int .i64 xa2), .v (.int .i64 xb2), .v (.int .i64 xc2), .v (.int .i64 xd2)]) (post := []) load_s rfl (Rg.argF (by kernel_rfl) rfl) (fun W h => OwnG.box (List.Mem.tail _ (List.Mem.head _)) h) rfl rfl rfl))
      (Rg.steps_cons (Rg.plain rfl (s_move rfl (Rg.argF (by kernel_rfl) rfl)))
      (Rg.steps_cons (Rg.plain rfl (s_call4 Tryd.func72 (by kernel_rfl) rfl OwnG.step (Rg.argT 0 (by kernel_rfl)) (Rg.argT 1 (by kernel_rfl)) (Rg.argT 2 (by kernel_rfl)) (argFn _) (fun W v0 v1 v2 v3 hG h0 h1 h2 h3 => by cases h2; cases h3; exact unhide HC W v0 v1 ((unhide HT).below hG.bel) h0 h1)))
      (Rg.steps_cons (Rg.plain rfl (s_extT (ts := [AggT [.v (.int .i64 t.a), .v (.int .i64 t.b), .v (.int .i64 t.c), .v (.int .i64 t.d)], Rg.EqT (.int .i64 t.e)]) rfl (Rg.argT 3 (by kernel_rfl)) (of_decide_eq_true rfl) rfl))
      (Rg.steps_cons (Rg.plain rfl (s_extT (ts := [AggT [.v (.int .i64 t.a), .v (.int .i64 t.b), .v (.int .i64 t.c), .v (.int .i64 t.d)], Rg.EqT (.int .i64 t.e)]) rfl (Rg.argT 3 (by kernel_rfl)) (of_decide_eq_true rfl) rfl))
      Rg.steps_nil)))))) ?_
  intro v1 V1 hG1 hv1 hne1
  simp only [Rg.puts, List.take_succ_cons, List.take_zero, List.drop_succ_cons, List.drop_zero, Act.put, List.setIfInBounds_toArray, List.set_cons_zero, List.set_cons_succ]
  have e2 : v1 2 = .int .i64 g := hv1 2 (by decide)
  have e5 : v1 5 = .int .i64 t.e := hv1 5 (by decide)
  simp only [e2, e5]
  have hO := hG1.1
  refine tl_store (xs := []) (ys := [(w.heap.size + 1, 35, [.v (.int .i64 xa2), .v (.int .i64 xb2), .v (.int .i64 xc2), .v (.int .i64 xd2)]), (w.heap.size, 35, [.v (.int .i64 xa1), .v (.int .i64 xb1), .v (.int .i64 xc1), .v (.int .i64 xd1)])]) (pre := []) (old := [.v (.int .i64 0), .v (.int .i64 0), .v (.int .i64 0), .v (.int .i64 0)]) (new := [.v (.int .i64 t.a), .v (.int .i64 t.b), .v (.int .i64 t.c), .v (.int .i64 t.d)]) (post := []) (b := w.heap.size + 2) (off := 0) store_s rfl (show AggT [.v (.int .i64 t.a), .v (.int .i64 t.b), .v (.int .i64 t.c), .v (.int .i64 t.d)] V1 (v1 4) from hv1 4 (by decide)) hO rfl rfl rfl ?_
  intro U1_0 hO0 hk0
  replace hO : Own w [(w.heap.size + 2, 35, [.v (.int .i64 t.a), .v (.int .i64 t.b), .v (.int .i64 t.c), .v (.int .i64 t.d)]), (w.heap.size + 1, 35, [.v (.int .i64 xa2), .v (.int .i64 xb2), .v (.int .i64 xc2), .v (.int .i64 xd2)]), (w.heap.size, 35, [.v (.int .i64 xa1), .v (.int .i64 xb1), .v (.int .i64 xc1), .v (.int .i64 xd1)])] U1_0 := hO0
  clear hO0
  clear HO
  have HO := hide hO
  clear hO hG1 hv1 hne1 hk0
  try clear e2 e5
  go_wp2_with fail
  exact end_ct Tryd.results44 loadv_s rfl rfl (unhide HO) (List.Mem.head _) rfl rfl
end Sb

end Go.Proofs.YtfbcdfoohpkfeaaDoor
