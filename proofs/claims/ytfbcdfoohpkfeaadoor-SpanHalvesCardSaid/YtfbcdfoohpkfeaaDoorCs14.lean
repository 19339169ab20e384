/- Part 14 of the texts beneath a law of layer 1: SpG, SpH. -/
import Derived.Test.YtfbcdfoohpkfeaaDoorCs13
/- Meet: its walk. -/
namespace Go.Proofs.YtfbcdfoohpkfeaaDoor
open Go.RowKit

namespace Sb
set_option maxRecDepth 100000 in
set_option maxHeartbeats 16000000 in
theorem meet_walk {xa1 xb1 xc1 xd1 xa2 xb2 xc2 xd2 : Int} (t : ToldS) (b : Bool) (w : World) (hT : Tab w) (u0 : Value) (h0 : AggT [.v (.int .i64 xa1), .v (.int .i64 xb1), .v (.int .i64 xc1), .v (.int .i64 xd1)] w u0) (u1 : Value) (h1 : AggT [.v (.int .i64 xa2), .v (.int .i64 xb2), .v (.int .i64 xc2), .v (.int .i64 xd2)] w u1)
    (hr : (errS [⟨xa1, xb1, xc1, xd1⟩, ⟨xa2, xb2, xc2, xd2⟩] ≠ 0 → t = ⟨0, 0, 0, 0, errS [⟨xa1, xb1, xc1, xd1⟩, ⟨xa2, xb2, xc2, xd2⟩]⟩ ∧ b = false) ∧ (errS [⟨xa1, xb1, xc1, xd1⟩, ⟨xa2, xb2, xc2, xd2⟩] = 0 → (¬ sgn ((maxL (Wd.qR xa1 xb1) [(Wd.qR xa2 xb2)]).num * (minL (Wd.qR xc1 xd1) [(Wd.qR xc2 xd2)]).den - (minL (Wd.qR xc1 xd1) [(Wd.qR xc2 xd2)]).num * (maxL (Wd.qR xa1 xb1) [(Wd.qR xa2 xb2)]).den) ≤ 0 → t = ⟨0, 0, 0, 0, 0⟩ ∧ b = false) ∧ (sgn ((maxL (Wd.qR xa1 xb1) [(Wd.qR xa2 xb2)]).num * (minL (Wd.qR xc1 xd1) [(Wd.qR xc2 xd2)]).den - (minL (Wd.qR xc1 xd1) [(Wd.qR xc2 xd2)]).num * (maxL (Wd.qR xa1 xb1) [(Wd.qR xa2 xb2)]).den) ≤ 0 → t = (toldS (maxL (Wd.qR xa1 xb1) [(Wd.qR xa2 xb2)]) (minL (Wd.qR xc1 xd1) [(Wd.qR xc2 xd2)])) ∧ b = ((toldS (maxL (Wd.qR xa1 xb1) [(Wd.qR xa2 xb2)]) (minL (Wd.qR xc1 xd1) [(Wd.qR xc2 xd2)])).e == 0)))) :
    Calls Tryd.prog 20 #[u0, u1] w (RetT (TupT [AggT [.v (.int .i64 t.a), .v (.int .i64 t.b), .v (.int .i64 t.c), .v (.int .i64 t.d)], Rg.EqT (.bool b), Rg.EqT (.int .i64 t.e)]) w) := by
  have HR := hide hr
  have HT := hide hT
  clear hr hT
  have hu0 := agg_v4 h0
  subst hu0
  have hu1 := agg_v4 h1
  subst hu1
  go_enter Tryd.func20, Tryd.ntmps20
  go_upto_region 1 with fail
  have hO := (Own.push (T := 35) (ls := [.v (.int .i64 0), .v (.int .i64 0), .v (.int .i64 0), .v (.int .i64 0)]) (cs := [.int .i64 0, .int .i64 0, .int .i64 0, .int .i64 0]) (Own.push (T := 35) (ls := [.v (.int .i64 xa2), .v (.int .i64 xb2), .v (.int .i64 xc2), .v (.int .i64 xd2)]) (cs := [.int .i64 xa2, .int .i64 xb2, .int .i64 xc2, .int .i64 xd2]) (Own.push (T := 35) (ls := [.v (.int .i64 xa1), .v (.int .i64 xb1), .v (.int .i64 xc1), .v (.int .i64 xd1)]) (cs := [.int .i64 xa1, .int .i64 xb1, .int .i64 xc1, .int .i64 xd1]) (Own.nil w) (LOk.v (notW_i _) (LOk.v (notW_i _) (LOk.v (notW_i _) (LOk.v (notW_i _) rfl)))) (w.heap.size) rfl) (((LOk.v (notW_i _) (LOk.v (notW_i _) (LOk.v (notW_i _) (LOk.v (notW_i _) rfl)))) : LOk w [.v (.int .i64 xa2), .v (.int .i64 xb2), .v (.int .i64 xc2), .v (.int .i64 xd2)] [.int .i64 xa2, .int .i64 xb2, .int .i64 xc2, .int .i64 xd2]).below (by repeat (first | exact Below.refl _ _ | refine below_alloc ?_ _))) (w.heap.size + 1) (by simp only [World.size_alloc])) (((LOk.vs w [.int .i64 0, .int .i64 0, .int .i64 0, .int .i64 0] rfl) : LOk w [.v (.int .i64 0), .v (.int .i64 0), .v (.int .i64 0), .v (.int .i64 0)] [.int .i64 0, .int .i64 0, .int .i64 0, .int .i64 0]).below (by repeat (first | exact Below.refl _ _ | refine below_alloc ?_ _))) (w.heap.size + 2) (by simp only [World.size_alloc]))
  generalize ((w.alloc (.cells #[.int .i64 xa1, .int .i64 xb1, .int .i64 xc1, .int .i64 xd1] 35)).alloc (.cells #[.int .i64 xa2, .int .i64 xb2, .int .i64 xc2, .int .i64 xd2] 35)).alloc (.cells #[.int .i64 0, .int .i64 0, .int .i64 0, .int .i64 0] 35) = W0 at *
  have HO := hide hO
  clear hO
  go_upto_region 1 with fail
  refine Rg.regionS 5 40 (Rg.pick [AggT [.v (.int .i64 xa1), .v (.int .i64 xb1), .v (.int .i64 xc1), .v (.int .i64 xd1)], AggT [.v (.int .i64 xa2), .v (.int .i64 xb2), .v (.int .i64 xc2), .v (.int .i64 xd2)], SlT 35 2 [.v (.int .i64 xa1), .v (.int .i64 xb1), .v (.int .i64 xc1), .v (.int .i64 xd1), .v (.int .i64 xa2), .v (.int .i64 xb2), .v (.int .i64 xc2), .v (.int .i64 xd2)], Rg.EqT (.int .i64 (errS [⟨xa1, xb1, xc1, xd1⟩, ⟨xa2, xb2, xc2, xd2⟩])), Rg.EqT (.int .i64 (errS [⟨xa1, xb1, xc1, xd1⟩, ⟨xa2, xb2, xc2, xd2⟩]))]) (OwnG w [(w.heap.size + 2, 35, [.v (.int .i64 0), .v (.int .i64 0), .v (.int .i64 0), .v (.int .i64 0)]), (w.heap.size + 1, 35, [.v (.int .i64 xa2), .v (.int .i64 xb2), .v (.int .i64 xc2), .v (.int .i64 xd2)]), (w.heap.size, 35, [.v (.int .i64 xa1), .v (.int .i64 xb1), .v (.int .i64 xc1), .v (.int .i64 xd1)])] W0) Bel [] (by kernel_rfl) rfl (Rg.Stabs.pick ⟨stab_agg _, stab_agg _, stab_sl _ _ _, Rg.stab_eq _, Rg.stab_eq _, trivial⟩) (OwnG.begin (unhide HO))
    (Rg.steps_cons (Rg.plain rfl (s_load (b := w.heap.size) (off := 0) (TB := 35) (pre := []) (mid := [.v (.int .i64 xa1), .v (.int .i64 xb1), .v (.int .i64 xc1), .v (.int .i64 xd1)]) (post := []) load_s rfl (Rg.argF (by kernel_rfl) rfl) (fun W h => OwnG.box (List.Mem.tail _ (List.Mem.tail _ (List.Mem.head _))) h) rfl rfl rfl))
      (Rg.steps_cons (Rg.plain rfl (s_load (b := w.heap.size + 1) (off := 0) (TB := 35) (pre := []) (mid := [.v (.int .i64 xa2), .v (.int .i64 xb2), .v (.int .i64 xc2), .v (.int .i64 xd2)]) (post := []) load_s rfl (Rg.argF (by kernel_rfl) rfl) (fun W h => OwnG.box (List.Mem.tail _ (List.Mem.head _)) h) rfl rfl rfl))
      (Rg.steps_cons (Rg.plain rfl (s_buildsl (ps := [(0, .tmp 12), (1, .tmp 13)]) (gs := [[.v (.int .i64 xa1), .v (.int .i64 xb1), .v (.int .i64 xc1), .v (.int .i64 xd1)], [.v (.int .i64 xa2), .v (.int .i64 xb2), .v (.int .i64 xc2), .v (.int .i64 xd2)]]) buildsl_s2 rfl OwnG.step rfl (ArgsOk.cons (Rg.argT 0 (by kernel_rfl)) rfl (ArgsOk.cons (Rg.argT 1 (by kernel_rfl)) rfl ArgsOk.nil)) rfl))
      (Rg.steps_cons (Rg.plain rfl (s_call1 Tryd.func45 (by kernel_rfl) rfl OwnG.step (Rg.argT 2 (by kernel_rfl)) (fun W v0 hG h0 => c_list (ss := [⟨xa1, xb1, xc1, xd1⟩, ⟨xa2, xb2, xc2, xd2⟩]) (by simp) W ((unhide HT).below hG.bel) _ h0)))
      (Rg.steps_cons (Rg.plain rfl (s_assign rfl (Rg.argT 3 (by kernel_rfl))))
      Rg.steps_nil))))) ?_
  intro v1 V1 hG1 hv1 hne1
  simp only [Rg.puts, List.take_succ_cons, List.take_zero, List.drop_succ_cons, List.drop_zero, Act.put, List.setIfInBounds_toArray, List.set_cons_zero, List.set_cons_succ]
  have e3 : v1 3 = .int .i64 (errS [⟨xa1, xb1, xc1, xd1⟩, ⟨xa2, xb2, xc2, xd2⟩]) := hv1 3 (by decide)
  have e4 : v1 4 = .int .i64 (errS [⟨xa1, xb1, xc1, xd1⟩, ⟨xa2, xb2, xc2, xd2⟩]) := hv1 4 (by decide)
  simp only [e3, e4]
  have hO := hG1.1
  clear HO
  have HO := hide hO
  clear hO hG1 hv1 hne1
  try clear e3 e4
  by_cases g0 : errS [⟨xa1, xb1, xc1, xd1⟩, ⟨xa2, xb2, xc2, xd2⟩] = 0
  · have k1 : (errS [⟨xa1, xb1, xc1, xd1⟩, ⟨xa2, xb2, xc2, xd2⟩] != 0) = false := by simp [bne, beq_iff_eq.2 g0]
    have HR2 := hide ((unhide HR).2 g0)
    have HQ := hide (errS_ok g0)
    clear HR
    go_upto_region 2 with fail
    refine Rg.regionS 2 40 (Rg.pick [Rg.EqT (.int .i64 (errS [⟨xa1, xb1, xc1, xd1⟩, ⟨xa2, xb2, xc2, xd2⟩])), Rg.EqT (.bool false)]) (OwnG w [(w.heap.size + 2, 35, [.v (.int .i64 0), .v (.int .i64 0), .v (.int .i64 0), .v (.int .i64 0)]), (w.heap.size + 1, 35, [.v (.int .i64 xa2), .v (.int .i64 xb2), .v (.int .i64 xc2), .v (.int .i64 xd2)]), (w.heap.size, 35, [.v (.int .i64 xa1), .v (.int .i64 xb1), .v (.int .i64 xc1), .v (.int .i64 xd1)])] V1) Bel [] (by kernel_rfl) rfl (Rg.Stabs.pick ⟨Rg.stab_eq _, Rg.stab_eq _, trivial⟩) (OwnG.begin (unhide HO))
      (Rg.steps_cons (Rg.plain rfl (s_move rfl (Rg.argF (by kernel_rfl) rfl)))
        (Rg.steps_cons (Rg.plain rfl (s_neqE rfl (Rg.argT 0 (by kernel_rfl)) (Rg.argC _) rfl k1))
        Rg.steps_nil)) ?_
    intro v2 V2 hG2 hv2 hne2
    simp only [Rg.puts, List.take_succ_cons, List.take_zero, List.drop_succ_cons, List.drop_zero, Act.put, List.setIfInBounds_toArray, List.set_cons_zero, List.set_cons_succ]
    have e0 : v2 0 = .int .i64 (errS [⟨xa1, xb1, xc1, xd1⟩, ⟨xa2, xb2, xc2, xd2⟩]) := hv2 0 (by decide)
    have e1 : v2 1 = .bool false := hv2 1 (by decide)
    simp only [e0, e1]
    have hO := hG2.1
    clear HO
    have HO := hide hO
    clear hO hG2 hv2 hne2
    try clear e0 e1
    clear k1 g0
    go_upto_region 4 with fail
    go_upto_region 4 with fail
    refine Rg.region3 11 40 (fun _ => 8) (Rg.pick [AggT [.v (.int .i64 xa1), .v (.int .i64 xb1), .v (.int .i64 xc1), .v (.int .i64 xd1)], AggT [.q (Wd.qR xa1 xb1), .q (Wd.qR xc1 xd1)], AggT [.v (.int .i64 xa2), .v (.int .i64 xb2), .v (.int .i64 xc2), .v (.int .i64 xd2)], AggT [.q (Wd.qR xa2 xb2), .q (Wd.qR xc2 xd2)], TupT [AggT [.q (maxL (Wd.qR xa1 xb1) [(Wd.qR xa2 xb2)]), .q (minL (Wd.qR xc1 xd1) [(Wd.qR xc2 xd2)])], Rg.EqT (.bool (decide (sgn ((maxL (Wd.qR xa1 xb1) [(Wd.qR xa2 xb2)]).num * (minL (Wd.qR xc1 xd1) [(Wd.qR xc2 xd2)]).den - (minL (Wd.qR xc1 xd1) [(Wd.qR xc2 xd2)]).num * (maxL (Wd.qR xa1 xb1) [(Wd.qR xa2 xb2)]).den) ≤ 0)))], TupT [AggT [.q (maxL (Wd.qR xa1 xb1) [(Wd.qR xa2 xb2)]), .q (minL (Wd.qR xc1 xd1) [(Wd.qR xc2 xd2)])], Rg.EqT (.bool (decide (sgn ((maxL (Wd.qR xa1 xb1) [(Wd.qR xa2 xb2)]).num * (minL (Wd.qR xc1 xd1) [(Wd.qR xc2 xd2)]).den - (minL (Wd.qR xc1 xd1) [(Wd.qR xc2 xd2)]).num * (maxL (Wd.qR xa1 xb1) [(Wd.qR xa2 xb2)]).den) ≤ 0)))], AggT [.q (maxL (Wd.qR xa1 xb1) [(Wd.qR xa2 xb2)]), .q (minL (Wd.qR xc1 xd1) [(Wd.qR xc2 xd2)])], Rg.EqT (.bool (decide (sgn ((maxL (Wd.qR xa1 xb1) [(Wd.qR xa2 xb2)]).num * (minL (Wd.qR xc1 xd1) [(Wd.qR xc2 xd2)]).den - (minL (Wd.qR xc1 xd1) [(Wd.qR xc2 xd2)]).num * (maxL (Wd.qR xa1 xb1) [(Wd.qR xa2 xb2)]).den) ≤ 0))), NewX 74 12 V2.heap.size, FilT 74 [.q (maxL (Wd.qR xa1 xb1) [(Wd.qR xa2 xb2)]), .q (minL (Wd.qR xc1 xd1) [(Wd.qR xc2 xd2)])] V2.heap.size, Rg.EqT (.bool (decide (sgn ((maxL (Wd.qR xa1 xb1) [(Wd.qR xa2 xb2)]).num * (minL (Wd.qR xc1 xd1) [(Wd.qR xc2 xd2)]).den - (minL (Wd.qR xc1 xd1) [(Wd.qR xc2 xd2)]).num * (maxL (Wd.qR xa1 xb1) [(Wd.qR xa2 xb2)]).den) ≤ 0)))]) (OwnG w [(w.heap.size + 2, 35, [.v (.int .i64 0), .v (.int .i64 0), .v (.int .i64 0), .v (.int .i64 0)]), (w.heap.size + 1, 35, [.v (.int .i64 xa2), .v (.int .i64 xb2), .v (.int .i64 xc2), .v (.int .i64 xd2)]), (w.heap.size, 35, [.v (.int .i64 xa1), .v (.int .i64 xb1), .v (.int .i64 xc1), .v (.int .i64 xd1)])] V2) (EN V2.heap.size 74 [.q (maxL (Wd.qR xa1 xb1) [(Wd.qR xa2 xb2)]), .q (minL (Wd.qR xc1 xd1) [(Wd.qR xc2 xd2)])]) (by kernel_rfl) (by kernel_rfl) (by kernel_rfl) rfl (Rg.Stabs.pick ⟨(stabN_agg _), (stabN_agg _), (stabN_agg _), (stabN_agg _), (stabN_tup ⟨(stabN_agg _), (stabN_eq _), trivial⟩), (stabN_tup ⟨(stabN_agg _), (stabN_eq _), trivial⟩), (stabN_agg _), (stabN_eq _), (stabN_newx), (stabN_fil), (stabN_eq _), trivial⟩) (OwnG.start (unhide HO))
      (Rg.steps3_cons (Rg.step3_of rfl rfl (step_monoN (s_load (b := w.heap.size) (off := 0) (TB := 35) (pre := []) (mid := [.v (.int .i64 xa1), .v (.int .i64 xb1), .v (.int .i64 xc1), .v (.int .i64 xd1)]) (post := []) load_s rfl (Rg.argF (by kernel_rfl) rfl) (fun W h => OwnG.box (List.Mem.tail _ (List.Mem.tail _ (List.Mem.head _))) h) rfl rfl rfl)))
        (Rg.steps3_cons (Rg.step3_of rfl rfl (step_monoN (s_call1 Tryd.func42 (by kernel_rfl) rfl OwnG.step (Rg.argT 0 (by kernel_rfl)) (fun W v0 hG h0 => c_span ⟨(unhide HQ).1.1, (unhide HQ).1.2.1⟩ W _ h0))))
        (Rg.steps3_cons (Rg.step3_of rfl rfl (step_monoN (s_load (b := w.heap.size + 1) (off := 0) (TB := 35) (pre := []) (mid := [.v (.int .i64 xa2), .v (.int .i64 xb2), .v (.int .i64 xc2), .v (.int .i64 xd2)]) (post := []) load_s rfl (Rg.argF (by kernel_rfl) rfl) (fun W h => OwnG.box (List.Mem.tail _ (List.Mem.head _)) h) rfl rfl rfl)))
        (Rg.steps3_cons (Rg.step3_of rfl rfl (step_monoN (s_call1 Tryd.func42 (by kernel_rfl) rfl OwnG.step (Rg.argT 2 (by kernel_rfl)) (fun W v0 hG h0 => c_span ⟨(unhide HQ).2.1, (unhide HQ).2.2.1⟩ W _ h0))))
        (Rg.steps3_cons (Rg.step3_of rfl rfl (step_monoN (s_call2 Tryd.func48 (by kernel_rfl) rfl OwnG.step (Rg.argT 1 (by kernel_rfl)) (Rg.argT 3 (by kernel_rfl)) (fun W v0 v1 hG h0 h1 => c_meet (sm_okR (unhide HQ).1.1) (sm_okR (unhide HQ).1.2.1) (sm_okR (unhide HQ).2.1) (sm_okR (unhide HQ).2.2.1) W _ h0 _ h1))))
        (Rg.steps3_cons (Rg.step3_of rfl rfl (step_monoN (s_move rfl (Rg.argT 4 (by kernel_rfl)))))
        (Rg.steps3_cons (Rg.step3_of rfl rfl (step_monoN (s_extT (ts := [AggT [.q (maxL (Wd.qR xa1 xb1) [(Wd.qR xa2 xb2)]), .q (minL (Wd.qR xc1 xd1) [(Wd.qR xc2 xd2)])], Rg.EqT (.bool (decide (sgn ((maxL (Wd.qR xa1 xb1) [(Wd.qR xa2 xb2)]).num * (minL (Wd.qR xc1 xd1) [(Wd.qR xc2 xd2)]).den - (minL (Wd.qR xc1 xd1) [(Wd.qR xc2 xd2)]).num * (maxL (Wd.qR xa1 xb1) [(Wd.qR xa2 xb2)]).den) ≤ 0)))]) rfl (Rg.argT 5 (by kernel_rfl)) (of_decide_eq_true rfl) rfl)))
        (Rg.steps3_cons (Rg.step3_of rfl rfl (step_monoN (s_extT (ts := [AggT [.q (maxL (Wd.qR xa1 xb1) [(Wd.qR xa2 xb2)]), .q (minL (Wd.qR xc1 xd1) [(Wd.qR xc2 xd2)])], Rg.EqT (.bool (decide (sgn ((maxL (Wd.qR xa1 xb1) [(Wd.qR xa2 xb2)]).num * (minL (Wd.qR xc1 xd1) [(Wd.qR xc2 xd2)]).den - (minL (Wd.qR xc1 xd1) [(Wd.qR xc2 xd2)]).num * (maxL (Wd.qR xa1 xb1) [(Wd.qR xa2 xb2)]).den) ≤ 0)))]) rfl (Rg.argT 5 (by kernel_rfl)) (of_decide_eq_true rfl) rfl)))
        (Rg.steps3_cons (Rg.step3_of rfl rfl (step_monoN (s_allocX new_e rfl rfl OwnG.step OwnG.size rfl)))
        (Rg.steps3_cons (s_storeN (unhide HO) store_e (Rg.argT 8 (by kernel_rfl)) (Rg.argT 6 (by kernel_rfl)) rfl rfl rfl)
        (Rg.steps3_cons (Rg.step3_of rfl rfl (step_monoN (s_assign rfl (Rg.argT 7 (by kernel_rfl)))))
        Rg.steps3_nil))))))))))) ?_
    intro v3 V3 hG3 hv3 hne3
    simp only [Rg.puts, List.take_succ_cons, List.take_zero, List.drop_succ_cons, List.drop_zero, Act.put, List.setIfInBounds_toArray, List.set_cons_zero, List.set_cons_succ]
    have e7 : v3 7 = .bool (decide (sgn ((maxL (Wd.qR xa1 xb1) [(Wd.qR xa2 xb2)]).num * (minL (Wd.qR xc1 xd1) [(Wd.qR xc2 xd2)]).den - (minL (Wd.qR xc1 xd1) [(Wd.qR xc2 xd2)]).num * (maxL (Wd.qR xa1 xb1) [(Wd.qR xa2 xb2)]).den) ≤ 0)) := hv3 7 (by decide)
    have e10 : v3 10 = .bool (decide (sgn ((maxL (Wd.qR xa1 xb1) [(Wd.qR xa2 xb2)]).num * (minL (Wd.qR xc1 xd1) [(Wd.qR xc2 xd2)]).den - (minL (Wd.qR xc1 xd1) [(Wd.qR xc2 xd2)]).num * (maxL (Wd.qR xa1 xb1) [(Wd.qR xa2 xb2)]).den) ≤ 0)) := hv3 10 (by decide)
    have e98 : v3 9 = v3 8 := hne3 9 8 (by decide) (by decide) rfl rfl
    obtain ⟨b3_8, e8, hge8, hz8⟩ := (show FilT 74 [.q (maxL (Wd.qR xa1 xb1) [(Wd.qR xa2 xb2)]), .q (minL (Wd.qR xc1 xd1) [(Wd.qR xc2 xd2)])] V2.heap.size V3 (v3 9) from hv3 9 (by decide))
    rw [e98] at e8
    clear e98
    simp only [e7, e10, e8]
    have hO := Own.add (unhide HO) hG3.2 hge8 hz8
    clear hge8 hz8
    clear HO
    have HO := hide hO
    clear hO hG3 hv3 hne3
    try clear e7 e10 e8
    by_cases g1 : sgn ((maxL (Wd.qR xa1 xb1) [(Wd.qR xa2 xb2)]).num * (minL (Wd.qR xc1 xd1) [(Wd.qR xc2 xd2)]).den - (minL (Wd.qR xc1 xd1) [(Wd.qR xc2 xd2)]).num * (maxL (Wd.qR xa1 xb1) [(Wd.qR xa2 xb2)]).den) ≤ 0
    · have k2 : (decide (sgn ((maxL (Wd.qR xa1 xb1) [(Wd.qR xa2 xb2)]).num * (minL (Wd.qR xc1 xd1) [(Wd.qR xc2 xd2)]).den - (minL (Wd.qR xc1 xd1) [(Wd.qR xc2 xd2)]).num * (maxL (Wd.qR xa1 xb1) [(Wd.qR xa2 xb2)]).den) ≤ 0)) = true := decide_eq_true g1
      have k2' : (!(decide (sgn ((maxL (Wd.qR xa1 xb1) [(Wd.qR xa2 xb2)]).num * (minL (Wd.qR xc1 xd1) [(Wd.qR xc2 xd2)]).den - (minL (Wd.qR xc1 xd1) [(Wd.qR xc2 xd2)]).num * (maxL (Wd.qR xa1 xb1) [(Wd.qR xa2 xb2)]).den) ≤ 0))) = false := by rw [k2]; rfl
      obtain ⟨rfl, rfl⟩ := (unhide HR2).2 g1
      clear HR2
      go_upto_region 5 with fail
      refine Rg.regionS 2 40 (Rg.pick [Rg.EqT (.bool (decide (sgn ((maxL (Wd.qR xa1 xb1) [(Wd.qR xa2 xb2)]).num * (minL (Wd.qR xc1 xd1) [(Wd.qR xc2 xd2)]).den - (minL (Wd.qR xc1 xd1) [(Wd.qR xc2 xd2)]).num * (maxL (Wd.qR xa1 xb1) [(Wd.qR xa2 xb2)]).den) ≤ 0))), Rg.EqT (.bool false)]) (OwnG w [(b3_8, 74, [.q (maxL (Wd.qR xa1 xb1) [(Wd.qR xa2 xb2)]), .q (minL (Wd.qR xc1 xd1) [(Wd.qR xc2 xd2)])]), (w.heap.size + 2, 35, [.v (.int .i64 0), .v (.int .i64 0), .v (.int .i64 0), .v (.int .i64 0)]), (w.heap.size + 1, 35, [.v (.int .i64 xa2), .v (.int .i64 xb2), .v (.int .i64 xc2), .v (.int .i64 xd2)]), (w.heap.size, 35, [.v (.int .i64 xa1), .v (.int .i64 xb1), .v (.int .i64 xc1), .v (.int .i64 xd1)])] V3) Bel [] (by kernel_rfl) rfl (Rg.Stabs.pick ⟨Rg.stab_eq _, Rg.stab_eq _, trivial⟩) (OwnG.begin (unhide HO))
        (Rg.steps_cons (Rg.plain rfl (s_move rfl (Rg.argF (by kernel_rfl) rfl)))
          (Rg.steps_cons (Rg.plain rfl (s_not rfl (Rg.argT 0 (by kernel_rfl)) rfl k2'))
          Rg.steps_nil)) ?_
      intro v4 V4 hG4 hv4 hne4
      simp only [Rg.puts, List.take_succ_cons, List.take_zero, List.drop_succ_cons, List.drop_zero, Act.put, List.setIfInBounds_toArray, List.set_cons_zero, List.set_cons_succ]
      have e0 : v4 0 = .bool (decide (sgn ((maxL (Wd.qR xa1 xb1) [(Wd.qR xa2 xb2)]).num * (minL (Wd.qR xc1 xd1) [(Wd.qR xc2 xd2)]).den - (minL (Wd.qR xc1 xd1) [(Wd.qR xc2 xd2)]).num * (maxL (Wd.qR xa1 xb1) [(Wd.qR xa2 xb2)]).den) ≤ 0)) := hv4 0 (by decide)
      have e1 : v4 1 = .bool false := hv4 1 (by decide)
      simp only [e0, e1]
      have hO := hG4.1
      clear HO
      have HO := hide hO
      clear hO hG4 hv4 hne4
      try clear e0 e1
      clear k2 k2' g1
      go_upto_region 7 with fail
      refine Rg.regionS 6 40 (Rg.pick [AggT [.q (maxL (Wd.qR xa1 xb1) [(Wd.qR xa2 xb2)]), .q (minL (Wd.qR xc1 xd1) [(Wd.qR xc2 xd2)])], TupT [AggT [.v (.int .i64 (toldS (maxL (Wd.qR xa1 xb1) [(Wd.qR xa2 xb2)]) (minL (Wd.qR xc1 xd1) [(Wd.qR xc2 xd2)])).a), .v (.int .i64 (toldS (maxL (Wd.qR xa1 xb1) [(Wd.qR xa2 xb2)]) (minL (Wd.qR xc1 xd1) [(Wd.qR xc2 xd2)])).b), .v (.int .i64 (toldS (maxL (Wd.qR xa1 xb1) [(Wd.qR xa2 xb2)]) (minL (Wd.qR xc1 xd1) [(Wd.qR xc2 xd2)])).c), .v (.int .i64 (toldS (maxL (Wd.qR xa1 xb1) [(Wd.qR xa2 xb2)]) (minL (Wd.qR xc1 xd1) [(Wd.qR xc2 xd2)])).d)], Rg.EqT (.int .i64 (toldS (maxL (Wd.qR xa1 xb1) [(Wd.qR xa2 xb2)]) (minL (Wd.qR xc1 xd1) [(Wd.qR xc2 xd2)])).e)], TupT [AggT [.v (.int .i64 (toldS (maxL (Wd.qR xa1 xb1) [(Wd.qR xa2 xb2)]) (minL (Wd.qR xc1 xd1) [(Wd.qR xc2 xd2)])).a), .v (.int .i64 (toldS (maxL (Wd.qR xa1 xb1) [(Wd.qR xa2 xb2)]) (minL (Wd.qR xc1 xd1) [(Wd.qR xc2 xd2)])).b), .v (.int .i64 (toldS (maxL (Wd.qR xa1 xb1) [(Wd.qR xa2 xb2)]) (minL (Wd.qR xc1 xd1) [(Wd.qR xc2 xd2)])).c), .v (.int .i64 (toldS (maxL (Wd.qR xa1 xb1) [(Wd.qR xa2 xb2)]) (minL (Wd.qR xc1 xd1) [(Wd.qR xc2 xd2)])).d)], Rg.EqT (.int .i64 (toldS (maxL (Wd.qR xa1 xb1) [(Wd.qR xa2 xb2)]) (minL (Wd.qR xc1 xd1) [(Wd.qR xc2 xd2)])).e)], AggT [.v (.int .i64 (toldS (maxL (Wd.qR xa1 xb1) [(Wd.qR xa2 xb2)]) (minL (Wd.qR xc1 xd1) [(Wd.qR xc2 xd2)])).a), .v (.int .i64 (toldS (maxL (Wd.qR xa1 xb1) [(Wd.qR xa2 xb2)]) (minL (Wd.qR xc1 xd1) [(Wd.qR xc2 xd2)])).b), .v (.int .i64 (toldS (maxL (Wd.qR xa1 xb1) [(Wd.qR xa2 xb2)]) (minL (Wd.qR xc1 xd1) [(Wd.qR xc2 xd2)])).c), .v (.int .i64 (toldS (maxL (Wd.qR xa1 xb1) [(Wd.qR xa2 xb2)]) (minL (Wd.qR xc1 xd1) [(Wd.qR xc2 xd2)])).d)], Rg.EqT (.int .i64 (toldS (maxL (Wd.qR xa1 xb1) [(Wd.qR xa2 xb2)]) (minL (Wd.qR xc1 xd1) [(Wd.qR xc2 xd2)])).e), NewB 35 [.v (.int .i64 0), .v (.int .i64 0), .v (.int .i64 0), .v (.int .i64 0)] V4.heap.size]) (OwnG w [(b3_8, 74, [.q (maxL (Wd.qR xa1 xb1) [(Wd.qR xa2 xb2)]), .q (minL (Wd.qR xc1 xd1) [(Wd.qR xc2 xd2)])]), (w.heap.size + 2, 35, [.v (.int .i64 0), .v (.int .i64 0), .v (.int .i64 0), .v (.int .i64 0)]), (w.heap.size + 1, 35, [.v (.int .i64 xa2), .v (.int .i64 xb2), .v (.int .i64 xc2), .v (.int .i64 xd2)]), (w.heap.size, 35, [.v (.int .i64 xa1), .v (.int .i64 xb1), .v (.int .i64 xc1), .v (.int .i64 xd1)])] V4) Bel [5] (by kernel_rfl) rfl (Rg.Stabs.pick ⟨stab_agg _, stab_tup ⟨(stab_agg _), (Rg.stab_eq _), trivial⟩, stab_tup ⟨(stab_agg _), (Rg.stab_eq _), trivial⟩, stab_agg _, Rg.stab_eq _, stab_new _ _ _, trivial⟩) (OwnG.begin (unhide HO))
        (Rg.steps_cons (Rg.plain rfl (s_load (b := b3_8) (off := 0) (TB := 74) (pre := []) (mid := [.q (maxL (Wd.qR xa1 xb1) [(Wd.qR xa2 xb2)]), .q (minL (Wd.qR xc1 xd1) [(Wd.qR xc2 xd2)])]) (post := []) load_e rfl (Rg.argF (by kernel_rfl) rfl) (fun W h => OwnG.box (List.Mem.head _) h) rfl rfl rfl))
          (Rg.steps_cons (Rg.plain rfl (s_call1 Tryd.func47 (by kernel_rfl) rfl OwnG.step (Rg.argT 0 (by kernel_rfl)) (fun W v0 hG h0 => c_told W _ h0)))
          (Rg.steps_cons (Rg.plain rfl (s_move rfl (Rg.argT 1 (by kernel_rfl))))
          (Rg.steps_cons (Rg.plain rfl (s_extT (ts := [AggT [.v (.int .i64 (toldS (maxL (Wd.qR xa1 xb1) [(Wd.qR xa2 xb2)]) (minL (Wd.qR xc1 xd1) [(Wd.qR xc2 xd2)])).a), .v (.int .i64 (toldS (maxL (Wd.qR xa1 xb1) [(Wd.qR xa2 xb2)]) (minL (Wd.qR xc1 xd1) [(Wd.qR xc2 xd2)])).b), .v (.int .i64 (toldS (maxL (Wd.qR xa1 xb1) [(Wd.qR xa2 xb2)]) (minL (Wd.qR xc1 xd1) [(Wd.qR xc2 xd2)])).c), .v (.int .i64 (toldS (maxL (Wd.qR xa1 xb1) [(Wd.qR xa2 xb2)]) (minL (Wd.qR xc1 xd1) [(Wd.qR xc2 xd2)])).d)], Rg.EqT (.int .i64 (toldS (maxL (Wd.qR xa1 xb1) [(Wd.qR xa2 xb2)]) (minL (Wd.qR xc1 xd1) [(Wd.qR xc2 xd2)])).e)]) rfl (Rg.argT 2 (by kernel_rfl)) (of_decide_eq_true rfl) rfl))
          (Rg.steps_cons (Rg.plain rfl (s_extT (ts := [AggT [.v (.int .i64 (toldS (maxL (Wd.qR xa1 xb1) [(Wd.qR xa2 xb2)]) (minL (Wd.qR xc1 xd1) [(Wd.qR xc2 xd2)])).a), .v (.int .i64 (toldS (maxL (Wd.qR xa1 xb1) [(Wd.qR xa2 xb2)]) (minL (Wd.qR xc1 xd1) [(Wd.qR xc2 xd2)])).b), .v (.int .i64 (toldS (maxL (Wd.qR xa1 xb1) [(Wd.qR xa2 xb2)]) (minL (Wd.qR xc1 xd1) [(Wd.qR xc2 xd2)])).c), .v (.int .i64 (toldS (maxL (Wd.qR xa1 xb1) [(Wd.qR xa2 xb2)]) (minL (Wd.qR xc1 xd1) [(Wd.qR xc2 xd2)])).d)], Rg.EqT (.int .i64 (toldS (maxL (Wd.qR xa1 xb1) [(Wd.qR xa2 xb2)]) (minL (Wd.qR xc1 xd1) [(Wd.qR xc2 xd2)])).e)]) rfl (Rg.argT 2 (by kernel_rfl)) (of_decide_eq_true rfl) rfl))
          (Rg.steps_cons (Rg.plain rfl (s_alloc new_s rfl OwnG.step OwnG.size rfl (new_lt (by intro j hj; simp at hj; (repeat' (first | (rcases hj with rfl | hj))) <;> first | (subst hj; exact ⟨_, _, _, rfl⟩) | exact ⟨_, _, _, rfl⟩))))
          Rg.steps_nil)))))) ?_
      intro v5 V5 hG5 hv5 hne5
      simp only [Rg.puts, List.take_succ_cons, List.take_zero, List.drop_succ_cons, List.drop_zero, Act.put, List.setIfInBounds_toArray, List.set_cons_zero, List.set_cons_succ]
      have e4 : v5 4 = .int .i64 (toldS (maxL (Wd.qR xa1 xb1) [(Wd.qR xa2 xb2)]) (minL (Wd.qR xc1 xd1) [(Wd.qR xc2 xd2)])).e := hv5 4 (by decide)
      obtain ⟨b5_5, e5, hge5, hz5⟩ := (show NewB 35 [.v (.int .i64 0), .v (.int .i64 0), .v (.int .i64 0), .v (.int .i64 0)] V4.heap.size V5 (v5 5) from hv5 5 (by decide))
      simp only [e4, e5]
      have hO := hG5.1
      replace hO := Own.add (unhide HO) hG5.2 hge5 hz5
      clear hge5 hz5
      refine tl_store (xs := []) (ys := [(b3_8, 74, [.q (maxL (Wd.qR xa1 xb1) [(Wd.qR xa2 xb2)]), .q (minL (Wd.qR xc1 xd1) [(Wd.qR xc2 xd2)])]), (w.heap.size + 2, 35, [.v (.int .i64 0), .v (.int .i64 0), .v (.int .i64 0), .v (.int .i64 0)]), (w.heap.size + 1, 35, [.v (.int .i64 xa2), .v (.int .i64 xb2), .v (.int .i64 xc2), .v (.int .i64 xd2)]), (w.heap.size, 35, [.v (.int .i64 xa1), .v (.int .i64 xb1), .v (.int .i64 xc1), .v (.int .i64 xd1)])]) (pre := []) (old := [.v (.int .i64 0), .v (.int .i64 0), .v (.int .i64 0), .v (.int .i64 0)]) (new := [.v (.int .i64 (toldS (maxL (Wd.qR xa1 xb1) [(Wd.qR xa2 xb2)]) (minL (Wd.qR xc1 xd1) [(Wd.qR xc2 xd2)])).a), .v (.int .i64 (toldS (maxL (Wd.qR xa1 xb1) [(Wd.qR xa2 xb2)]) (minL (Wd.qR xc1 xd1) [(Wd.qR xc2 xd2)])).b), .v (.int .i64 (toldS (maxL (Wd.qR xa1 xb1) [(Wd.qR xa2 xb2)]) (minL (Wd.qR xc1 xd1) [(Wd.qR xc2 xd2)])).c), .v (.int .i64 (toldS (maxL (Wd.qR xa1 xb1) [(Wd.qR xa2 xb2)]) (minL (Wd.qR xc1 xd1) [(Wd.qR xc2 xd2)])).d)]) (post := []) (b := b5_5) (off := 0) store_s rfl (show AggT [.v (.int .i64 (toldS (maxL (Wd.qR xa1 xb1) [(Wd.qR xa2 xb2)]) (minL (Wd.qR xc1 xd1) [(Wd.qR xc2 xd2)])).a), .v (.int .i64 (toldS (maxL (Wd.qR xa1 xb1) [(Wd.qR xa2 xb2)]) (minL (Wd.qR xc1 xd1) [(Wd.qR xc2 xd2)])).b), .v (.int .i64 (toldS (maxL (Wd.qR xa1 xb1) [(Wd.qR xa2 xb2)]) (minL (Wd.qR xc1 xd1) [(Wd.qR xc2 xd2)])).c), .v (.int .i64 (toldS (maxL (Wd.qR xa1 xb1) [(Wd.qR xa2 xb2)]) (minL (Wd.qR xc1 xd1) [(Wd.qR xc2 xd2)])).d)] V5 (v5 3) from hv5 3 (by decide)) hO rfl rfl rfl ?_
      intro U5_0 hO0 hk0
      replace hO : Own w [(b5_5, 35, [.v (.int .i64 (toldS (maxL (Wd.qR xa1 xb1) [(Wd.qR xa2 xb2)]) (minL (Wd.qR xc1 xd1) [(Wd.qR xc2 xd2)])).a), .v (.int .i64 (toldS (maxL (Wd.qR xa1 xb1) [(Wd.qR xa2 xb2)]) (minL (Wd.qR xc1 xd1) [(Wd.qR xc2 xd2)])).b), .v (.int .i64 (toldS (maxL (Wd.qR xa1 xb1) [(Wd.qR xa2 xb2)]) (minL (Wd.qR xc1 xd1) [(Wd.qR xc2 xd2)])).c), .v (.int .i64 (toldS (maxL (Wd.qR xa1 xb1) [(Wd.qR xa2 xb2)]) (minL (Wd.qR xc1 xd1) [(Wd.qR xc2 xd2)])).d)]), (b3_8, 74, [.q (maxL (Wd.qR xa1 xb1) [(Wd.qR xa2 xb2)]), .q (minL (Wd.qR xc1 xd1) [(Wd.qR xc2 xd2)])]), (w.heap.size + 2, 35, [.v (.int .i64 0), .v (.int .i64 0), .v (.int .i64 0), .v (.int .i64 0)]), (w.heap.size + 1, 35, [.v (.int .i64 xa2), .v (.int .i64 xb2), .v (.int .i64 xc2), .v (.int .i64 xd2)]), (w.heap.size, 35, [.v (.int .i64 xa1), .v (.int .i64 xb1), .v (.int .i64 xc1), .v (.int .i64 xd1)])] U5_0 := hO0
      clear hO0
      clear HO
      have HO := hide hO
      clear hO hG5 hv5 hne5 hk0
      try clear e4 e5
      go_upto_region 8 with fail
      refine Rg.regionS 4 40 (Rg.pick [AggT [.v (.int .i64 (toldS (maxL (Wd.qR xa1 xb1) [(Wd.qR xa2 xb2)]) (minL (Wd.qR xc1 xd1) [(Wd.qR xc2 xd2)])).a), .v (.int .i64 (toldS (maxL (Wd.qR xa1 xb1) [(Wd.qR xa2 xb2)]) (minL (Wd.qR xc1 xd1) [(Wd.qR xc2 xd2)])).b), .v (.int .i64 (toldS (maxL (Wd.qR xa1 xb1) [(Wd.qR xa2 xb2)]) (minL (Wd.qR xc1 xd1) [(Wd.qR xc2 xd2)])).c), .v (.int .i64 (toldS (maxL (Wd.qR xa1 xb1) [(Wd.qR xa2 xb2)]) (minL (Wd.qR xc1 xd1) [(Wd.qR xc2 xd2)])).d)], Rg.EqT (.int .i64 (toldS (maxL (Wd.qR xa1 xb1) [(Wd.qR xa2 xb2)]) (minL (Wd.qR xc1 xd1) [(Wd.qR xc2 xd2)])).e), Rg.EqT (.bool ((toldS (maxL (Wd.qR xa1 xb1) [(Wd.qR xa2 xb2)]) (minL (Wd.qR xc1 xd1) [(Wd.qR xc2 xd2)])).e == 0)), Rg.EqT (.int .i64 (toldS (maxL (Wd.qR xa1 xb1) [(Wd.qR xa2 xb2)]) (minL (Wd.qR xc1 xd1) [(Wd.qR xc2 xd2)])).e)]) (OwnG w [(b5_5, 35, [.v (.int .i64 (toldS (maxL (Wd.qR xa1 xb1) [(Wd.qR xa2 xb2)]) (minL (Wd.qR xc1 xd1) [(Wd.qR xc2 xd2)])).a), .v (.int .i64 (toldS (maxL (Wd.qR xa1 xb1) [(Wd.qR xa2 xb2)]) (minL (Wd.qR xc1 xd1) [(Wd.qR xc2 xd2)])).b), .v (.int .i64 (toldS (maxL (Wd.qR xa1 xb1) [(Wd.qR xa2 xb2)]) (minL (Wd.qR xc1 xd1) [(Wd.qR xc2 xd2)])).c), .v (.int .i64 (toldS (maxL (Wd.qR xa1 xb1) [(Wd.qR xa2 xb2)]) (minL (Wd.qR xc1 xd1) [(Wd.qR xc2 xd2)])).d)]), (b3_8, 74, [.q (maxL (Wd.qR xa1 xb1) [(Wd.qR xa2 xb2)]), .q (minL (Wd.qR xc1 xd1) [(Wd.qR xc2 xd2)])]), (w.heap.size + 2, 35, [.v (.int .i64 0), .v (.int .i64 0), .v (.int .i64 0), .v (.int .i64 0)]), (w.heap.size + 1, 35, [.v (.int .i64 xa2), .v (.int .i64 xb2), .v (.int .i64 xc2), .v (.int .i64 xd2)]), (w.heap.size, 35, [.v (.int .i64 xa1), .v (.int .i64 xb1), .v (.int .i64 xc1), .v (.int .i64 xd1)])] U5_0) Bel [] (by kernel_rfl) rfl (Rg.Stabs.pick ⟨stab_agg _, Rg.stab_eq _, Rg.stab_eq _, Rg.stab_eq _, trivial⟩) (OwnG.begin (unhide HO))
        (Rg.steps_cons (Rg.plain rfl (s_load (b := b5_5) (off := 0) (TB := 35) (pre := []) (mid := [.v (.int .i64 (toldS (maxL (Wd.qR xa1 xb1) [(Wd.qR xa2 xb2)]) (minL (Wd.qR xc1 xd1) [(Wd.qR xc2 xd2)])).a), .v (.int .i64 (toldS (maxL (Wd.qR xa1 xb1) [(Wd.qR xa2 xb2)]) (minL (Wd.qR xc1 xd1) [(Wd.qR xc2 xd2)])).b), .v (.int .i64 (toldS (maxL (Wd.qR xa1 xb1) [(Wd.qR xa2 xb2)]) (minL (Wd.qR xc1 xd1) [(Wd.qR xc2 xd2)])).c), .v (.int .i64 (toldS (maxL (Wd.qR xa1 xb1) [(Wd.qR xa2 xb2)]) (minL (Wd.qR xc1 xd1) [(Wd.qR xc2 xd2)])).d)]) (post := []) load_s rfl (Rg.argF (by kernel_rfl) rfl) (fun W h => OwnG.box (List.Mem.head _) h) rfl rfl rfl))
          (Rg.steps_cons (Rg.plain rfl (s_move rfl (Rg.argF (by kernel_rfl) rfl)))
          (Rg.steps_cons (Rg.plain rfl (s_eqlE rfl (Rg.argT 1 (by kernel_rfl)) (Rg.argC _) rfl rfl))
          (Rg.steps_cons (Rg.plain rfl (s_move rfl (Rg.argF (by kernel_rfl) rfl)))
          Rg.steps_nil)))) ?_
      intro v6 V6 hG6 hv6 hne6
      simp only [Rg.puts, List.take_succ_cons, List.take_zero, List.drop_succ_cons, List.drop_zero, Act.put, List.setIfInBounds_toArray, List.set_cons_zero, List.set_cons_succ]
      have e1 : v6 1 = .int .i64 (toldS (maxL (Wd.qR xa1 xb1) [(Wd.qR xa2 xb2)]) (minL (Wd.qR xc1 xd1) [(Wd.qR xc2 xd2)])).e := hv6 1 (by decide)
      have e2 : v6 2 = .bool ((toldS (maxL (Wd.qR xa1 xb1) [(Wd.qR xa2 xb2)]) (minL (Wd.qR xc1 xd1) [(Wd.qR xc2 xd2)])).e == 0) := hv6 2 (by decide)
      have e3 : v6 3 = .int .i64 (toldS (maxL (Wd.qR xa1 xb1) [(Wd.qR xa2 xb2)]) (minL (Wd.qR xc1 xd1) [(Wd.qR xc2 xd2)])).e := hv6 3 (by decide)
      simp only [e1, e2, e3]
      have hO := hG6.1
      refine tl_store (xs := [(b5_5, 35, [.v (.int .i64 (toldS (maxL (Wd.qR xa1 xb1) [(Wd.qR xa2 xb2)]) (minL (Wd.qR xc1 xd1) [(Wd.qR xc2 xd2)])).a), .v (.int .i64 (toldS (maxL (Wd.qR xa1 xb1) [(Wd.qR xa2 xb2)]) (minL (Wd.qR xc1 xd1) [(Wd.qR xc2 xd2)])).b), .v (.int .i64 (toldS (maxL (Wd.qR xa1 xb1) [(Wd.qR xa2 xb2)]) (minL (Wd.qR xc1 xd1) [(Wd.qR xc2 xd2)])).c), .v (.int .i64 (toldS (maxL (Wd.qR xa1 xb1) [(Wd.qR xa2 xb2)]) (minL (Wd.qR xc1 xd1) [(Wd.qR xc2 xd2)])).d)]), (b3_8, 74, [.q (maxL (Wd.qR xa1 xb1) [(Wd.qR xa2 xb2)]), .q (minL (Wd.qR xc1 xd1) [(Wd.qR xc2 xd2)])])]) (ys := [(w.heap.size + 1, 35, [.v (.int .i64 xa2), .v (.int .i64 xb2), .v (.int .i64 xc2), .v (.int .i64 xd2)]), (w.heap.size, 35, [.v (.int .i64 xa1), .v (.int .i64 xb1), .v (.int .i64 xc1), .v (.int .i64 xd1)])]) (pre := []) (old := [.v (.int .i64 0), .v (.int .i64 0), .v (.int .i64 0), .v (.int .i64 0)]) (new := [.v (.int .i64 (toldS (maxL (Wd.qR xa1 xb1) [(Wd.qR xa2 xb2)]) (minL (Wd.qR xc1 xd1) [(Wd.qR xc2 xd2)])).a), .v (.int .i64 (toldS (maxL (Wd.qR xa1 xb1) [(Wd.qR xa2 xb2)]) (minL (Wd.qR xc1 xd1) [(Wd.qR xc2 xd2)])).b), .v (.int .i64 (toldS (maxL (Wd.qR xa1 xb1) [(Wd.qR xa2 xb2)]) (minL (Wd.qR xc1 xd1) [(Wd.qR xc2 xd2)])).c), .v (.int .i64 (toldS (maxL (Wd.qR xa1 xb1) [(Wd.qR xa2 xb2)]) (minL (Wd.qR xc1 xd1) [(Wd.qR xc2 xd2)])).d)]) (post := []) (b := w.heap.size + 2) (off := 0) store_s rfl (show AggT [.v (.int .i64 (toldS (maxL (Wd.qR xa1 xb1) [(Wd.qR xa2 xb2)]) (minL (Wd.qR xc1 xd1) [(Wd.qR xc2 xd2)])).a), .v (.int .i64 (toldS (maxL (Wd.qR xa1 xb1) [(Wd.qR xa2 xb2)]) (minL (Wd.qR xc1 xd1) [(Wd.qR xc2 xd2)])).b), .v (.int .i64 (toldS (maxL (Wd.qR xa1 xb1) [(Wd.qR xa2 xb2)]) (minL (Wd.qR xc1 xd1) [(Wd.qR xc2 xd2)])).c), .v (.int .i64 (toldS (maxL (Wd.qR xa1 xb1) [(Wd.qR xa2 xb2)]) (minL (Wd.qR xc1 xd1) [(Wd.qR xc2 xd2)])).d)] V6 (v6 0) from hv6 0 (by decide)) hO rfl rfl rfl ?_
      intro U6_0 hO0 hk0
      replace hO : Own w [(b5_5, 35, [.v (.int .i64 (toldS (maxL (Wd.qR xa1 xb1) [(Wd.qR xa2 xb2)]) (minL (Wd.qR xc1 xd1) [(Wd.qR xc2 xd2)])).a), .v (.int .i64 (toldS (maxL (Wd.qR xa1 xb1) [(Wd.qR xa2 xb2)]) (minL (Wd.qR xc1 xd1) [(Wd.qR xc2 xd2)])).b), .v (.int .i64 (toldS (maxL (Wd.qR xa1 xb1) [(Wd.qR xa2 xb2)]) (minL (Wd.qR xc1 xd1) [(Wd.qR xc2 xd2)])).c), .v (.int .i64 (toldS (maxL (Wd.qR xa1 xb1) [(Wd.qR xa2 xb2)]) (minL (Wd.qR xc1 xd1) [(Wd.qR xc2 xd2)])).d)]), (b3_8, 74, [.q (maxL (Wd.qR xa1 xb1) [(Wd.qR xa2 xb2)]), .q (minL (Wd.qR xc1 xd1) [(Wd.qR xc2 xd2)])]), (w.heap.size + 2, 35, [.v (.int .i64 (toldS (maxL (Wd.qR xa1 xb1) [(Wd.qR xa2 xb2)]) (minL (Wd.qR xc1 xd1) [(Wd.qR xc2 xd2)])).a), .v (.int .i64 (toldS (maxL (Wd.qR xa1 xb1) [(Wd.qR xa2 xb2)]) (minL (Wd.qR xc1 xd1) [(Wd.qR xc2 xd2)])).b), .v (.int .i64 (toldS (maxL (Wd.qR xa1 xb1) [(Wd.qR xa2 xb2)]) (minL (Wd.qR xc1 xd1) [(Wd.qR xc2 xd2)])).c), .v (.int .i64 (toldS (maxL (Wd.qR xa1 xb1) [(Wd.qR xa2 xb2)]) (minL (Wd.qR xc1 xd1) [(Wd.qR xc2 xd2)])).d)]), (w.heap.size + 1, 35, [.v (.int .i64 xa2), .v (.int .i64 xb2), .v (.int .i64 xc2), .v (.int .i64 xd2)]), (w.heap.size, 35, [.v (.int .i64 xa1), .v (.int .i64 xb1), .v (.int .i64 xc1), .v (.int .i64 xd1)])] U6_0 := hO0
      clear hO0
      clear HO
      have HO := hide hO
      clear hO hG6 hv6 hne6 hk0
      try clear e1 e2 e3
      go_wp2_with fail
      exact end_ctt Tryd.results20 loadv_s rfl rfl rfl (unhide HO) (List.Mem.tail _ (List.Mem.tail _ (List.Mem.head _))) rfl rfl
    · have k2 : (decide (sgn ((maxL (Wd.qR xa1 xb1) [(Wd.qR xa2 xb2)]).num * (minL (Wd.qR xc1 xd1) [(Wd.qR xc2 xd2)]).den - (minL (Wd.qR xc1 xd1) [(Wd.qR xc2 xd2)]).num * (maxL (Wd.qR xa1 xb1) [(Wd.qR xa2 xb2)]).den) ≤ 0)) = false := decide_eq_false g1
      have k2' : (!(decide (sgn ((maxL (Wd.qR xa1 xb1) [(Wd.qR xa2 xb2)]).num * (minL (Wd.qR xc1 xd1) [(Wd.qR xc2 xd2)]).den - (minL (Wd.qR xc1 xd1) [(Wd.qR xc2 xd2)]).num * (maxL (Wd.qR xa1 xb1) [(Wd.qR xa2 xb2)]).den) ≤ 0))) = true := by rw [k2]; rfl
      obtain ⟨rfl, rfl⟩ := (unhide HR2).1 g1
      clear HR2
      go_upto_region 5 with fail
      refine Rg.regionS 2 40 (Rg.pick [Rg.EqT (.bool (decide (sgn ((maxL (Wd.qR xa1 xb1) [(Wd.qR xa2 xb2)]).num * (minL (Wd.qR xc1 xd1) [(Wd.qR xc2 xd2)]).den - (minL (Wd.qR xc1 xd1) [(Wd.qR xc2 xd2)]).num * (maxL (Wd.qR xa1 xb1) [(Wd.qR xa2 xb2)]).den) ≤ 0))), Rg.EqT (.bool true)]) (OwnG w [(b3_8, 74, [.q (maxL (Wd.qR xa1 xb1) [(Wd.qR xa2 xb2)]), .q (minL (Wd.qR xc1 xd1) [(Wd.qR xc2 xd2)])]), (w.heap.size + 2, 35, [.v (.int .i64 0), .v (.int .i64 0), .v (.int .i64 0), .v (.int .i64 0)]), (w.heap.size + 1, 35, [.v (.int .i64 xa2), .v (.int .i64 xb2), .v (.int .i64 xc2), .v (.int .i64 xd2)]), (w.heap.size, 35, [.v (.int .i64 xa1), .v (.int .i64 xb1), .v (.int .i64 xc1), .v (.int .i64 xd1)])] V3) Bel [] (by kernel_rfl) rfl (Rg.Stabs.pick ⟨Rg.stab_eq _, Rg.stab_eq _, trivial⟩) (OwnG.begin (unhide HO))
        (Rg.steps_cons (Rg.plain rfl (s_move rfl (Rg.argF (by kernel_rfl) rfl)))
          (Rg.steps_cons (Rg.plain rfl (s_not rfl (Rg.argT 0 (by kernel_rfl)) rfl k2'))
          Rg.steps_nil)) ?_
      intro v4 V4 hG4 hv4 hne4
      simp only [Rg.puts, List.take_succ_cons, List.take_zero, List.drop_succ_cons, List.drop_zero, Act.put, List.setIfInBounds_toArray, List.set_cons_zero, List.set_cons_succ]
      have e0 : v4 0 = .bool (decide (sgn ((maxL (Wd.qR xa1 xb1) [(Wd.qR xa2 xb2)]).num * (minL (Wd.qR xc1 xd1) [(Wd.qR xc2 xd2)]).den - (minL (Wd.qR xc1 xd1) [(Wd.qR xc2 xd2)]).num * (maxL (Wd.qR xa1 xb1) [(Wd.qR xa2 xb2)]).den) ≤ 0)) := hv4 0 (by decide)
      have e1 : v4 1 = .bool true := hv4 1 (by decide)
      simp only [e0, e1]
      have hO := hG4.1
      clear HO
      have HO := hide hO
      clear hO hG4 hv4 hne4
      try clear e0 e1
      go_upto_region 6 with fail
      refine Rg.regionS 1 40 (Rg.pick [AggT [.v (.int .i64 0), .v (.int .i64 0), .v (.int .i64 0), .v (.int .i64 0)]]) (OwnG w [(b3_8, 74, [.q (maxL (Wd.qR xa1 xb1) [(Wd.qR xa2 xb2)]), .q (minL (Wd.qR xc1 xd1) [(Wd.qR xc2 xd2)])]), (w.heap.size + 2, 35, [.v (.int .i64 0), .v (.int .i64 0), .v (.int .i64 0), .v (.int .i64 0)]), (w.heap.size + 1, 35, [.v (.int .i64 xa2), .v (.int .i64 xb2), .v (.int .i64 xc2), .v (.int .i64 xd2)]), (w.heap.size, 35, [.v (.int .i64 xa1), .v (.int .i64 xb1), .v (.int .i64 xc1), .v (.int .i64 xd1)])] V4) Bel [] (by kernel_rfl) rfl (Rg.Stabs.pick ⟨stab_agg _, trivial⟩) (OwnG.begin (unhide HO))
        (Rg.steps_cons (Rg.plain rfl (s_build0 build0_s rfl rfl rfl))
          Rg.steps_nil) ?_
      intro v5 V5 hG5 hv5 hne5
      simp only [Rg.puts, List.take_succ_cons, List.take_zero, List.drop_succ_cons, List.drop_zero, Act.put, List.setIfInBounds_toArray, List.set_cons_zero, List.set_cons_succ]
      have hO := hG5.1
      refine tl_store (xs := [(b3_8, 74, [.q (maxL (Wd.qR xa1 xb1) [(Wd.qR xa2 xb2)]), .q (minL (Wd.qR xc1 xd1) [(Wd.qR xc2 xd2)])])]) (ys := [(w.heap.size + 1, 35, [.v (.int .i64 xa2), .v (.int .i64 xb2), .v (.int .i64 xc2), .v (.int .i64 xd2)]), (w.heap.size, 35, [.v (.int .i64 xa1), .v (.int .i64 xb1), .v (.int .i64 xc1), .v (.int .i64 xd1)])]) (pre := []) (old := [.v (.int .i64 0), .v (.int .i64 0), .v (.int .i64 0), .v (.int .i64 0)]) (new := [.v (.int .i64 0), .v (.int .i64 0), .v (.int .i64 0), .v (.int .i64 0)]) (post := []) (b := w.heap.size + 2) (off := 0) store_s rfl (show AggT [.v (.int .i64 0), .v (.int .i64 0), .v (.int .i64 0), .v (.int .i64 0)] V5 (v5 0) from hv5 0 (by decide)) hO rfl rfl rfl ?_
      intro U5_0 hO0 hk0
      replace hO : Own w [(b3_8, 74, [.q (maxL (Wd.qR xa1 xb1) [(Wd.qR xa2 xb2)]), .q (minL (Wd.qR xc1 xd1) [(Wd.qR xc2 xd2)])]), (w.heap.size + 2, 35, [.v (.int .i64 0), .v (.int .i64 0), .v (.int .i64 0), .v (.int .i64 0)]), (w.heap.size + 1, 35, [.v (.int .i64 xa2), .v (.int .i64 xb2), .v (.int .i64 xc2), .v (.int .i64 xd2)]), (w.heap.size, 35, [.v (.int .i64 xa1), .v (.int .i64 xb1), .v (.int .i64 xc1), .v (.int .i64 xd1)])] U5_0 := hO0
      clear hO0
      clear HO
      have HO := hide hO
      clear hO hG5 hv5 hne5 hk0
      go_wp2_with fail
      exact end_ctt Tryd.results20 loadv_s rfl rfl rfl (unhide HO) (List.Mem.tail _ (List.Mem.head _)) rfl rfl
  · have k1 : (errS [⟨xa1, xb1, xc1, xd1⟩, ⟨xa2, xb2, xc2, xd2⟩] != 0) = true := by simp [bne, beq_eq_false_iff_ne.2 g0]
    have hr := (unhide HR).1 g0
    clear HR
    obtain ⟨rfl, rfl⟩ := hr
    go_upto_region 2 with fail
    refine Rg.regionS 2 40 (Rg.pick [Rg.EqT (.int .i64 (errS [⟨xa1, xb1, xc1, xd1⟩, ⟨xa2, xb2, xc2, xd2⟩])), Rg.EqT (.bool true)]) (OwnG w [(w.heap.size + 2, 35, [.v (.int .i64 0), .v (.int .i64 0), .v (.int .i64 0), .v (.int .i64 0)]), (w.heap.size + 1, 35, [.v (.int .i64 xa2), .v (.int .i64 xb2), .v (.int .i64 xc2), .v (.int .i64 xd2)]), (w.heap.size, 35, [.v (.int .i64 xa1), .v (.int .i64 xb1), .v (.int .i64 xc1), .v (.int .i64 xd1)])] V1) Bel [] (by kernel_rfl) rfl (Rg.Stabs.pick ⟨Rg.stab_eq _, Rg.stab_eq _, trivial⟩) (OwnG.begin (unhide HO))
      (Rg.steps_cons (Rg.plain rfl (s_move rfl (Rg.argF (by kernel_rfl) rfl)))
        (Rg.steps_cons (Rg.plain rfl (s_neqE rfl (Rg.argT 0 (by kernel_rfl)) (Rg.argC _) rfl k1))
        Rg.steps_nil)) ?_
    intro v2 V2 hG2 hv2 hne2
    simp only [Rg.puts, List.take_succ_cons, List.take_zero, List.drop_succ_cons, List.drop_zero, Act.put, List.setIfInBounds_toArray, List.set_cons_zero, List.set_cons_succ]
    have e0 : v2 0 = .int .i64 (errS [⟨xa1, xb1, xc1, xd1⟩, ⟨xa2, xb2, xc2, xd2⟩]) := hv2 0 (by decide)
    have e1 : v2 1 = .bool true := hv2 1 (by decide)
    simp only [e0, e1]
    have hO := hG2.1
    clear HO
    have HO := hide hO
    clear hO hG2 hv2 hne2
    try clear e0 e1
    go_upto_region 3 with fail
    refine Rg.regionS 2 40 (Rg.pick [AggT [.v (.int .i64 0), .v (.int .i64 0), .v (.int .i64 0), .v (.int .i64 0)], Rg.EqT (.int .i64 (errS [⟨xa1, xb1, xc1, xd1⟩, ⟨xa2, xb2, xc2, xd2⟩]))]) (OwnG w [(w.heap.size + 2, 35, [.v (.int .i64 0), .v (.int .i64 0), .v (.int .i64 0), .v (.int .i64 0)]), (w.heap.size + 1, 35, [.v (.int .i64 xa2), .v (.int .i64 xb2), .v (.int .i64 xc2), .v (.int .i64 xd2)]), (w.heap.size, 35, [.v (.int .i64 xa1), .v (.int .i64 xb1), .v (.int .i64 xc1), .v (.int .i64 xd1)])] V2) Bel [] (by kernel_rfl) rfl (Rg.Stabs.pick ⟨stab_agg _, Rg.stab_eq _, trivial⟩) (OwnG.begin (unhide HO))
      (Rg.steps_cons (Rg.plain rfl (s_build0 build0_s rfl rfl rfl))
        (Rg.steps_cons (Rg.plain rfl (s_move rfl (Rg.argF (by kernel_rfl) rfl)))
        Rg.steps_nil)) ?_
    intro v3 V3 hG3 hv3 hne3
    simp only [Rg.puts, List.take_succ_cons, List.take_zero, List.drop_succ_cons, List.drop_zero, Act.put, List.setIfInBounds_toArray, List.set_cons_zero, List.set_cons_succ]
    have e1 : v3 1 = .int .i64 (errS [⟨xa1, xb1, xc1, xd1⟩, ⟨xa2, xb2, xc2, xd2⟩]) := hv3 1 (by decide)
    simp only [e1]
    have hO := hG3.1
    refine tl_store (xs := []) (ys := [(w.heap.size + 1, 35, [.v (.int .i64 xa2), .v (.int .i64 xb2), .v (.int .i64 xc2), .v (.int .i64 xd2)]), (w.heap.size, 35, [.v (.int .i64 xa1), .v (.int .i64 xb1), .v (.int .i64 xc1), .v (.int .i64 xd1)])]) (pre := []) (old := [.v (.int .i64 0), .v (.int .i64 0), .v (.int .i64 0), .v (.int .i64 0)]) (new := [.v (.int .i64 0), .v (.int .i64 0), .v (.int .i64 0), .v (.int .i64 0)]) (post := []) (b := w.heap.size + 2) (off := 0) store_s rfl (show AggT [.v (.int .i64 0), .v (.int .i64 0), .v (.int .i64 0), .v (.int .i64 0)] V3 (v3 0) from hv3 0 (by decide)) hO rfl rfl rfl ?_
    intro U3_0 hO0 hk0
    replace hO : Own w [(w.heap.size + 2, 35, [.v (.int .i64 0), .v (.int .i64 0), .v (.int .i64 0), .v (.int .i64 0)]), (w.heap.size + 1, 35, [.v (.int .i64 xa2), .v (.int .i64 xb2), .v (.int .i64 xc2), .v (.int .i64 xd2)]), (w.heap.size, 35, [.v (.int .i64 xa1), .v (.int .i64 xb1), .v (.int .i64 xc1), .v (.int .i64 xd1)])] U3_0 := hO0
    clear hO0
    clear HO
    have HO := hide hO
    clear hO hG3 hv3 hne3 hk0
    try clear e1
    go_wp2_with fail
    exact end_ctt Tryd.results20 loadv_s rfl rfl rfl (unhide HO) (List.Mem.head _) rfl rfl
end Sb

end Go.Proofs.YtfbcdfoohpkfeaaDoor
/- What the calls of spans return; the document's example. -/
namespace Go.Proofs.YtfbcdfoohpkfeaaDoor
open Go.RowKit

namespace Sb
instance : DecidableEq ToldS := fun s t => decidable_of_iff (s.a = t.a ∧ s.b = t.b ∧ s.c = t.c ∧ s.d = t.d ∧ s.e = t.e) ⟨fun h => by cases s; cases t; obtain ⟨rfl, rfl, rfl, rfl, rfl⟩ := h; rfl, fun h => by subst h; exact ⟨rfl, rfl, rfl, rfl, rfl⟩⟩
set_option maxRecDepth 100000 in
theorem run_buildr {ρ : Operand → Value} {w : World} {d : Option Tmp} {x y : Operand} {p q : Int} {ty : TypeId} {pos : String} {af : Array Edge} {gd : Option (Nat × Bool)} (h1 : ρ x = .int .i64 p) (h2 : ρ y = .int .i64 q) :
    (execOp ρ { dst := d, op := .build 23 #[(0, x), (1, y)], type := ty, pos := pos, after := af, guard := gd }).run Tryd.prog w = .ok (.value (.agg #[.int .i64 p, .int .i64 q])) w := by
  simp only [execOp]
  simp [go_sem, h1, h2]
  try rfl
set_option maxRecDepth 100000 in
theorem s_buildr {Q : Exit → Act → World → Prop} {l : List Oper} {n : Nat} {T : Nat → World → Value → Prop} {G : World → Prop} {al : List Nat} {a0 : Act} {k d : Nat} {ty : TypeId} {pos : String} {af : Array Edge} {gd : Option (Nat × Bool)} {x y : Operand} {p q : Int} (hal : al.contains k = false) (hx : Rg.ArgOk l n T a0 k x (Rg.EqT (.int .i64 p))) (hy : Rg.ArgOk l n T a0 k y (Rg.EqT (.int .i64 q))) (hT : T k = AggT [.v (.int .i64 p), .v (.int .i64 q)]) :
    Rg.Step Tryd.prog Q l n T G Bel al a0 k { dst := some d, op := .build 23 #[(0, x), (1, y)], type := ty, pos := pos, after := af, guard := gd } := by
  intro a w hG hO hN
  exact wp_value (P := Tryd.prog) (run_buildr (hx a w hO hN) (hy a w hO hN)) ⟨_, rfl, hG, Below.refl _ _, by rw [hT]; exact agg_ofi2 _ _ _, fun h => by rw [hal] at h; cases h⟩
set_option maxRecDepth 100000 in
theorem run_eqlr {ρ : Operand → Value} {w : World} {d : Option Tmp} {x y : Operand} {p0 p1 q0 q1 : Int} {b : Bool} {ty : TypeId} {pos : String} {af : Array Edge} {gd : Option (Nat × Bool)} (h : ρ x = .agg #[.int .i64 p0, .int .i64 p1]) (h' : ρ y = .agg #[.int .i64 q0, .int .i64 q1]) (hb : decide (p0 = q0 ∧ p1 = q1) = b) :
    (execOp ρ { dst := d, op := .binOp .eql 23 x y 23, type := ty, pos := pos, after := af, guard := gd }).run Tryd.prog w = .ok (.value (.bool b)) w := by
  subst hb
  simp only [execOp, h, h']
  by_cases k0 : p0 = q0 <;> by_cases k1 : p1 = q1 <;> simp [go_sem, k0, k1]
theorem s_eqlr {Q : Exit → Act → World → Prop} {l : List Oper} {n : Nat} {T : Nat → World → Value → Prop} {G : World → Prop} {al : List Nat} {a0 : Act} {k d : Nat} {ty : TypeId} {pos : String} {af : Array Edge} {gd : Option (Nat × Bool)} {x y : Operand} {p0 p1 q0 q1 : Int} {b : Bool}
    (hal : al.contains k = false) (hx : Rg.ArgOk l n T a0 k x (AggT [.v (.int .i64 p0), .v (.int .i64 p1)])) (hy : Rg.ArgOk l n T a0 k y (AggT [.v (.int .i64 q0), .v (.int .i64 q1)])) (hb : decide (p0 = q0 ∧ p1 = q1) = b) (hT : T k = Rg.EqT (.bool b)) :
    Rg.Step Tryd.prog Q l n T G Bel al a0 k { dst := some d, op := .binOp .eql 23 x y 23, type := ty, pos := pos, after := af, guard := gd } := by
  intro a w hG hO hN
  exact wp_value (P := Tryd.prog) (run_eqlr (agg_v2 (hx a w hO hN)) (agg_v2 (hy a w hO hN)) hb) ⟨_, rfl, hG, Below.refl _ _, by rw [hT]; rfl, fun h => by rw [hal] at h; cases h⟩
set_option maxRecDepth 100000 in
theorem run_eqls {ρ : Operand → Value} {w : World} {d : Option Tmp} {x y : Operand} {p0 p1 p2 p3 q0 q1 q2 q3 : Int} {b : Bool} {ty : TypeId} {pos : String} {af : Array Edge} {gd : Option (Nat × Bool)} (h : ρ x = .agg #[.int .i64 p0, .int .i64 p1, .int .i64 p2, .int .i64 p3]) (h' : ρ y = .agg #[.int .i64 q0, .int .i64 q1, .int .i64 q2, .int .i64 q3]) (hb : decide (p0 = q0 ∧ p1 = q1 ∧ p2 = q2 ∧ p3 = q3) = b) :
    (execOp ρ { dst := d, op := .binOp .eql 35 x y 35, type := ty, pos := pos, after := af, guard := gd }).run Tryd.prog w = .ok (.value (.bool b)) w := by
  subst hb
  simp only [execOp, h, h']
  by_cases k0 : p0 = q0 <;> by_cases k1 : p1 = q1 <;> by_cases k2 : p2 = q2 <;> by_cases k3 : p3 = q3 <;> simp [go_sem, k0, k1, k2, k3]
theorem s_eqls {Q : Exit → Act → World → Prop} {l : List Oper} {n : Nat} {T : Nat → World → Value → Prop} {G : World → Prop} {al : List Nat} {a0 : Act} {k d : Nat} {ty : TypeId} {pos : String} {af : Array Edge} {gd : Option (Nat × Bool)} {x y : Operand} {p0 p1 p2 p3 q0 q1 q2 q3 : Int} {b : Bool}
    (hal : al.contains k = false) (hx : Rg.ArgOk l n T a0 k x (AggT [.v (.int .i64 p0), .v (.int .i64 p1), .v (.int .i64 p2), .v (.int .i64 p3)])) (hy : Rg.ArgOk l n T a0 k y (AggT [.v (.int .i64 q0), .v (.int .i64 q1), .v (.int .i64 q2), .v (.int .i64 q3)])) (hb : decide (p0 = q0 ∧ p1 = q1 ∧ p2 = q2 ∧ p3 = q3) = b) (hT : T k = Rg.EqT (.bool b)) :
    Rg.Step Tryd.prog Q l n T G Bel al a0 k { dst := some d, op := .binOp .eql 35 x y 35, type := ty, pos := pos, after := af, guard := gd } := by
  intro a w hG hO hN
  exact wp_value (P := Tryd.prog) (run_eqls (agg_v4 (hx a w hO hN)) (agg_v4 (hy a w hO hN)) hb) ⟨_, rfl, hG, Below.refl _ _, by rw [hT]; rfl, fun h => by rw [hal] at h; cases h⟩
set_option maxRecDepth 100000 in
set_option maxHeartbeats 16000000 in
theorem known_walk (w : World) (hT : Tab w)
    (hc : ∀ (W : World) (v0 v1 : Value), Tab W → AggT [.v (.int .i64 (-1)), .v (.int .i64 1), .v (.int .i64 2), .v (.int .i64 1)] W v0 → AggT [.v (.int .i64 3), .v (.int .i64 1), .v (.int .i64 4), .v (.int .i64 1)] W v1 → Calls Tryd.prog 44 #[v0, v1, .int .i64 1] W (RetT (TupT [AggT [.v (.int .i64 (-4)), .v (.int .i64 1), .v (.int .i64 8), .v (.int .i64 1)], Rg.EqT (.int .i64 0)]) W)) :
    Calls Tryd.prog 18 #[] w (RetT (Rg.EqT (.bool true)) w) := by
  have HC := hide hc
  have HT := hide hT
  clear hc hT
  go_enter Tryd.func18, Tryd.ntmps18
  go_upto_region 1 with fail
  have hO := (Own.nil w)
  have HO := hide hO
  clear hO
  go_upto_region 1 with fail
  refine Rg.regionS 4 24 (Rg.pick [AggT [.v (.int .i64 (-1)), .v (.int .i64 1)], AggT [.v (.int .i64 2), .v (.int .i64 1)], AggT [.v (.int .i64 (-1)), .v (.int .i64 1), .v (.int .i64 2), .v (.int .i64 1)], NewB 35 [.v (.int .i64 0), .v (.int .i64 0), .v (.int .i64 0), .v (.int .i64 0)] w.heap.size]) (OwnG w [] w) Bel [3] (by kernel_rfl) rfl (Rg.Stabs.pick ⟨stab_agg _, stab_agg _, stab_agg _, stab_new _ _ _, trivial⟩) (OwnG.begin (unhide HO))
    (Rg.steps_cons (Rg.plain rfl (s_buildr rfl (Rg.argC _) (Rg.argC _) rfl))
      (Rg.steps_cons (Rg.plain rfl (s_buildr rfl (Rg.argC _) (Rg.argC _) rfl))
      (Rg.steps_cons (Rg.plain rfl (s_build2 build_s rfl (Rg.argT 0 (by kernel_rfl)) (Rg.argT 1 (by kernel_rfl)) rfl rfl rfl))
      (Rg.steps_cons (Rg.plain rfl (s_alloc new_s rfl OwnG.step OwnG.size rfl (new_lt (by intro j hj; simp at hj; (repeat' (first | (rcases hj with rfl | hj))) <;> first | (subst hj; exact ⟨_, _, _, rfl⟩) | exact ⟨_, _, _, rfl⟩))))
      Rg.steps_nil)))) ?_
  intro v1 V1 hG1 hv1 hne1
  simp only [Rg.puts, List.take_succ_cons, List.take_zero, List.drop_succ_cons, List.drop_zero, Act.put, List.setIfInBounds_toArray, List.set_cons_zero, List.set_cons_succ]
  obtain ⟨b1_3, e3, hge3, hz3⟩ := (show NewB 35 [.v (.int .i64 0), .v (.int .i64 0), .v (.int .i64 0), .v (.int .i64 0)] w.heap.size V1 (v1 3) from hv1 3 (by decide))
  simp only [e3]
  have hO := hG1.1
  replace hO := Own.add (unhide HO) hG1.2 hge3 hz3
  clear hge3 hz3
  refine tl_store (xs := []) (ys := []) (pre := []) (old := [.v (.int .i64 0), .v (.int .i64 0), .v (.int .i64 0), .v (.int .i64 0)]) (new := [.v (.int .i64 (-1)), .v (.int .i64 1), .v (.int .i64 2), .v (.int .i64 1)]) (post := []) (b := b1_3) (off := 0) store_s rfl (show AggT [.v (.int .i64 (-1)), .v (.int .i64 1), .v (.int .i64 2), .v (.int .i64 1)] V1 (v1 2) from hv1 2 (by decide)) hO rfl rfl rfl ?_
  intro U1_0 hO0 hk0
  replace hO : Own w [(b1_3, 35, [.v (.int .i64 (-1)), .v (.int .i64 1), .v (.int .i64 2), .v (.int .i64 1)])] U1_0 := hO0
  clear hO0
  clear HO
  have HO := hide hO
  clear hO hG1 hv1 hne1 hk0
  try clear e3
  go_upto_region 2 with fail
  refine Rg.regionS 9 24 (Rg.pick [AggT [.v (.int .i64 (-1)), .v (.int .i64 1), .v (.int .i64 2), .v (.int .i64 1)], AggT [.v (.int .i64 3), .v (.int .i64 1)], AggT [.v (.int .i64 4), .v (.int .i64 1)], AggT [.v (.int .i64 3), .v (.int .i64 1), .v (.int .i64 4), .v (.int .i64 1)], TupT [AggT [.v (.int .i64 (-4)), .v (.int .i64 1), .v (.int .i64 8), .v (.int .i64 1)], Rg.EqT (.int .i64 0)], TupT [AggT [.v (.int .i64 (-4)), .v (.int .i64 1), .v (.int .i64 8), .v (.int .i64 1)], Rg.EqT (.int .i64 0)], AggT [.v (.int .i64 (-4)), .v (.int .i64 1), .v (.int .i64 8), .v (.int .i64 1)], Rg.EqT (.int .i64 0), NewB 35 [.v (.int .i64 0), .v (.int .i64 0), .v (.int .i64 0), .v (.int .i64 0)] U1_0.heap.size]) (OwnG w [(b1_3, 35, [.v (.int .i64 (-1)), .v (.int .i64 1), .v (.int .i64 2), .v (.int .i64 1)])] U1_0) Bel [8] (by kernel_rfl) rfl (Rg.Stabs.pick ⟨stab_agg _, stab_agg _, stab_agg _, stab_agg _, stab_tup ⟨(stab_agg _), (Rg.stab_eq _), trivial⟩, stab_tup ⟨(stab_agg _), (Rg.stab_eq _), trivial⟩, stab_agg _, Rg.stab_eq _, stab_new _ _ _, trivial⟩) (OwnG.begin (unhide HO))
    (Rg.steps_cons (Rg.plain rfl (s_load (b := b1_3) (off := 0) (TB := 35) (pre := []) (mid := [.v (.int .i64 (-1)), .v (.int .i64 1), .v (.int .i64 2), .v (.int .i64 1)]) (post := []) load_s rfl (Rg.argF (by kernel_rfl) rfl) (fun W h => OwnG.box (List.Mem.head _) h) rfl rfl rfl))
      (Rg.steps_cons (Rg.plain rfl (s_buildr rfl (Rg.argC _) (Rg.argC _) rfl))
      (Rg.steps_cons (Rg.plain rfl (s_buildr rfl (Rg.argC _) (Rg.argC _) rfl))
      (Rg.steps_cons (Rg.plain rfl (s_build2 build_s rfl (Rg.argT 1 (by kernel_rfl)) (Rg.argT 2 (by kernel_rfl)) rfl rfl rfl))
      (Rg.steps_cons (Rg.plain rfl (s_call3 Tryd.func44 (by kernel_rfl) rfl OwnG.step (Rg.argT 0 (by kernel_rfl)) (Rg.argT 3 (by kernel_rfl)) (Rg.argC _) (fun W v0 v1 v2 hG h0 h1 h2 => by cases h2; exact unhide HC W v0 v1 ((unhide HT).below hG.bel) h0 h1)))
      (Rg.steps_cons (Rg.plain rfl (s_move rfl (Rg.argT 4 (by kernel_rfl))))
      (Rg.steps_cons (Rg.plain rfl (s_extT (ts := [AggT [.v (.int .i64 (-4)), .v (.int .i64 1), .v (.int .i64 8), .v (.int .i64 1)], Rg.EqT (.int .i64 0)]) rfl (Rg.argT 5 (by kernel_rfl)) (of_decide_eq_true rfl) rfl))
      (Rg.steps_cons (Rg.plain rfl (s_extT (ts := [AggT [.v (.int .i64 (-4)), .v (.int .i64 1), .v (.int .i64 8), .v (.int .i64 1)], Rg.EqT (.int .i64 0)]) rfl (Rg.argT 5 (by kernel_rfl)) (of_decide_eq_true rfl) rfl))
      (Rg.steps_cons (Rg.plain rfl (s_alloc new_s rfl OwnG.step OwnG.size rfl (new_lt (by intro j hj; simp at hj; (repeat' (first | (rcases hj with rfl | hj))) <;> first | (subst hj; exact ⟨_, _, _, rfl⟩) | exact ⟨_, _, _, rfl⟩))))
      Rg.steps_nil))))))))) ?_
  intro v2 V2 hG2 hv2 hne2
  simp only [Rg.puts, List.take_succ_cons, List.take_zero, List.drop_succ_cons, List.drop_zero, Act.put, List.setIfInBounds_toArray, List.set_cons_zero, List.set_cons_succ]
  have e7 : v2 7 = .int .i64 0 := hv2 7 (by decide)
  obtain ⟨b2_8, e8, hge8, hz8⟩ := (show NewB 35 [.v (.int .i64 0), .v (.int .i64 0), .v (.int .i64 0), .v (.int .i64 0)] U1_0.heap.size V2 (v2 8) from hv2 8 (by decide))
  simp only [e7, e8]
  have hO := hG2.1
  replace hO := Own.add (unhide HO) hG2.2 hge8 hz8
  clear hge8 hz8
  refine tl_store (xs := []) (ys := [(b1_3, 35, [.v (.int .i64 (-1)), .v (.int .i64 1), .v (.int .i64 2), .v (.int .i64 1)])]) (pre := []) (old := [.v (.int .i64 0), .v (.int .i64 0), .v (.int .i64 0), .v (.int .i64 0)]) (new := [.v (.int .i64 (-4)), .v (.int .i64 1), .v (.int .i64 8), .v (.int .i64 1)]) (post := []) (b := b2_8) (off := 0) store_s rfl (show AggT [.v (.int .i64 (-4)), .v (.int .i64 1), .v (.int .i64 8), .v (.int .i64 1)] V2 (v2 6) from hv2 6 (by decide)) hO rfl rfl rfl ?_
  intro U2_0 hO0 hk0
  replace hO : Own w [(b2_8, 35, [.v (.int .i64 (-4)), .v (.int .i64 1), .v (.int .i64 8), .v (.int .i64 1)]), (b1_3, 35, [.v (.int .i64 (-1)), .v (.int .i64 1), .v (.int .i64 2), .v (.int .i64 1)])] U2_0 := hO0
  clear hO0
  clear HO
  have HO := hide hO
  clear hO hG2 hv2 hne2 hk0
  try clear e7 e8
  go_upto_region 3 with fail
  refine Rg.regionS 10 24 (Rg.pick [AggT [.v (.int .i64 (-4)), .v (.int .i64 1), .v (.int .i64 8), .v (.int .i64 1)], AggT [.v (.int .i64 (-4)), .v (.int .i64 1)], AggT [.v (.int .i64 8), .v (.int .i64 1)], AggT [.v (.int .i64 (-4)), .v (.int .i64 1), .v (.int .i64 8), .v (.int .i64 1)], Rg.EqT (.bool true), Rg.EqT (.bool true), Rg.EqT (.int .i64 0), Rg.EqT (.bool true), Rg.EqT (.bool true), Rg.EqT (.bool true)]) (OwnG w [(b2_8, 35, [.v (.int .i64 (-4)), .v (.int .i64 1), .v (.int .i64 8), .v (.int .i64 1)]), (b1_3, 35, [.v (.int .i64 (-1)), .v (.int .i64 1), .v (.int .i64 2), .v (.int .i64 1)])] U2_0) Bel [] (by kernel_rfl) rfl (Rg.Stabs.pick ⟨stab_agg _, stab_agg _, stab_agg _, stab_agg _, Rg.stab_eq _, Rg.stab_eq _, Rg.stab_eq _, Rg.stab_eq _, Rg.stab_eq _, Rg.stab_eq _, trivial⟩) (OwnG.begin (unhide HO))
    (Rg.steps_cons (Rg.plain rfl (s_load (b := b2_8) (off := 0) (TB := 35) (pre := []) (mid := [.v (.int .i64 (-4)), .v (.int .i64 1), .v (.int .i64 8), .v (.int .i64 1)]) (post := []) load_s rfl (Rg.argF (by kernel_rfl) rfl) (fun W h => OwnG.box (List.Mem.head _) h) rfl rfl rfl))
      (Rg.steps_cons (Rg.plain rfl (s_buildr rfl (Rg.argC _) (Rg.argC _) rfl))
      (Rg.steps_cons (Rg.plain rfl (s_buildr rfl (Rg.argC _) (Rg.argC _) rfl))
      (Rg.steps_cons (Rg.plain rfl (s_build2 build_s rfl (Rg.argT 1 (by kernel_rfl)) (Rg.argT 2 (by kernel_rfl)) rfl rfl rfl))
      (Rg.steps_cons (Rg.plain rfl (s_eqls rfl (Rg.argT 0 (by kernel_rfl)) (Rg.argT 3 (by kernel_rfl)) rfl rfl))
      (Rg.steps_cons (Rg.plain rfl (s_move rfl (Rg.argT 4 (by kernel_rfl))))
      (Rg.steps_cons (Rg.guard_yes (d := 20) rfl (by kernel_rfl) rfl (s_move rfl (Rg.argF (by kernel_rfl) rfl)))
      (Rg.steps_cons (Rg.guard_yes (d := 20) rfl (by kernel_rfl) rfl (s_eqlE rfl (Rg.argT 6 (by kernel_rfl)) (Rg.argC _) rfl rfl))
      (Rg.steps_cons (Rg.plain rfl (s_pick_t rfl (Rg.argT 5 (by kernel_rfl)) (Rg.argT 7 (by kernel_rfl))))
      (Rg.steps_cons (Rg.plain rfl (s_assign rfl (Rg.argT 8 (by kernel_rfl))))
      Rg.steps_nil)))))))))) ?_
  intro v3 V3 hG3 hv3 hne3
  simp only [Rg.puts, List.take_succ_cons, List.take_zero, List.drop_succ_cons, List.drop_zero, Act.put, List.setIfInBounds_toArray, List.set_cons_zero, List.set_cons_succ]
  have e4 : v3 4 = .bool true := hv3 4 (by decide)
  have e5 : v3 5 = .bool true := hv3 5 (by decide)
  have e6 : v3 6 = .int .i64 0 := hv3 6 (by decide)
  have e7 : v3 7 = .bool true := hv3 7 (by decide)
  have e8 : v3 8 = .bool true := hv3 8 (by decide)
  have e9 : v3 9 = .bool true := hv3 9 (by decide)
  simp only [e4, e5, e6, e7, e8, e9]
  have hO := hG3.1
  clear HO
  have HO := hide hO
  clear hO hG3 hv3 hne3
  try clear e4 e5 e6 e7 e8 e9
  go_wp2_with fail
  exact end_t Tryd.results18 rfl (unhide HO).bel rfl
/-- What the product of two spans is. -/
def mulS (s t : Sp) (g : Int) : ToldS :=
  if grdE (errS [s, t]) g = 0 then
    toldS (downQ (minL (Wd.qR s.a s.b * Wd.qR t.a t.b) [Wd.qR s.a s.b * Wd.qR t.c t.d, Wd.qR s.c s.d * Wd.qR t.a t.b, Wd.qR s.c s.d * Wd.qR t.c t.d]) g)
      (upQ (maxL (Wd.qR s.a s.b * Wd.qR t.a t.b) [Wd.qR s.a s.b * Wd.qR t.c t.d, Wd.qR s.c s.d * Wd.qR t.a t.b, Wd.qR s.c s.d * Wd.qR t.c t.d]) g)
  else ⟨0, 0, 0, 0, grdE (errS [s, t]) g⟩
theorem grd_ok {ss : List Sp} {g : Int} (h : grdE (errS ss) g = 0) : (∀ s ∈ ss, okSp s) ∧ 1 ≤ g ∧ g ≤ 1000000 := by
  unfold grdE at h
  by_cases hs : ∀ s ∈ ss, okSp s
  · have e : errS ss = 0 := if_pos hs
    rw [e] at h
    by_cases hg : g < 1 ∨ 1000000 < g
    · rw [if_pos ⟨rfl, hg⟩] at h; omega
    · exact ⟨hs, by omega, by omega⟩
  · have e : errS ss = 1 := if_neg hs
    rw [e, if_neg (fun k => absurd k.1 (by decide))] at h
    omega
theorem c_smul {xa1 xb1 xc1 xd1 xa2 xb2 xc2 xd2 : Int} {g : Int} (w : World) (hT : Tab w) (u0 : Value) (h0 : AggT [.v (.int .i64 xa1), .v (.int .i64 xb1), .v (.int .i64 xc1), .v (.int .i64 xd1)] w u0) (u1 : Value) (h1 : AggT [.v (.int .i64 xa2), .v (.int .i64 xb2), .v (.int .i64 xc2), .v (.int .i64 xd2)] w u1) : Calls Tryd.prog 44 #[u0, u1, .int .i64 g] w (RetT (SpT (mulS ⟨xa1, xb1, xc1, xd1⟩ ⟨xa2, xb2, xc2, xd2⟩ g)) w) :=
  mul_walk _ w hT u0 h0 u1 h1 (fun W v0 v1 hT h0 h1 => comb_times _ W hT v0 h0 v1 h1 (fun h => by
    obtain ⟨h1, h2, h3⟩ := grd_ok h
    exact ⟨h1 ⟨xa1, xb1, xc1, xd1⟩ (by simp), h1 ⟨xa2, xb2, xc2, xd2⟩ (by simp), h2, h3⟩) (by
    unfold mulS
    exact ⟨fun h => if_neg h, fun h => if_pos h⟩))
def hullS (s t : Sp) : ToldS :=
  if errS [s, t] = 0 then toldS (minL (Wd.qR s.a s.b) [Wd.qR s.c s.d, Wd.qR t.a t.b, Wd.qR t.c t.d]) (maxL (Wd.qR s.a s.b) [Wd.qR s.c s.d, Wd.qR t.a t.b, Wd.qR t.c t.d])
  else ⟨0, 0, 0, 0, errS [s, t]⟩
theorem c_hull {xa1 xb1 xc1 xd1 xa2 xb2 xc2 xd2 : Int} (w : World) (hT : Tab w) (u0 : Value) (h0 : AggT [.v (.int .i64 xa1), .v (.int .i64 xb1), .v (.int .i64 xc1), .v (.int .i64 xd1)] w u0) (u1 : Value) (h1 : AggT [.v (.int .i64 xa2), .v (.int .i64 xb2), .v (.int .i64 xc2), .v (.int .i64 xd2)] w u1) : Calls Tryd.prog 19 #[u0, u1] w (RetT (SpT (hullS ⟨xa1, xb1, xc1, xd1⟩ ⟨xa2, xb2, xc2, xd2⟩)) w) :=
  hull_walk _ w hT u0 h0 u1 h1 (by unfold hullS; exact ⟨fun h => if_neg h, fun h => if_pos h⟩)
/-- What two spans share. -/
def meetQ (x y a b : Rat) : Prop := sgn ((maxL x [a]).num * (minL y [b]).den - (minL y [b]).num * (maxL x [a]).den) ≤ 0
instance (x y a b : Rat) : Decidable (meetQ x y a b) := by unfold meetQ; infer_instance
def meetS (s t : Sp) : ToldS :=
  if errS [s, t] = 0 then (if meetQ (Wd.qR s.a s.b) (Wd.qR s.c s.d) (Wd.qR t.a t.b) (Wd.qR t.c t.d) then toldS (maxL (Wd.qR s.a s.b) [Wd.qR t.a t.b]) (minL (Wd.qR s.c s.d) [Wd.qR t.c t.d]) else ⟨0, 0, 0, 0, 0⟩)
  else ⟨0, 0, 0, 0, errS [s, t]⟩
def meetB (s t : Sp) : Bool := decide (errS [s, t] = 0 ∧ meetQ (Wd.qR s.a s.b) (Wd.qR s.c s.d) (Wd.qR t.a t.b) (Wd.qR t.c t.d) ∧ (meetS s t).e = 0)
abbrev MeT (t : ToldS) (b : Bool) : World → Value → Prop := TupT [AggT [.v (.int .i64 t.a), .v (.int .i64 t.b), .v (.int .i64 t.c), .v (.int .i64 t.d)], Rg.EqT (.bool b), Rg.EqT (.int .i64 t.e)]
theorem c_meetS {xa1 xb1 xc1 xd1 xa2 xb2 xc2 xd2 : Int} (w : World) (hT : Tab w) (u0 : Value) (h0 : AggT [.v (.int .i64 xa1), .v (.int .i64 xb1), .v (.int .i64 xc1), .v (.int .i64 xd1)] w u0) (u1 : Value) (h1 : AggT [.v (.int .i64 xa2), .v (.int .i64 xb2), .v (.int .i64 xc2), .v (.int .i64 xd2)] w u1) : Calls Tryd.prog 20 #[u0, u1] w (RetT (MeT (meetS ⟨xa1, xb1, xc1, xd1⟩ ⟨xa2, xb2, xc2, xd2⟩) (meetB ⟨xa1, xb1, xc1, xd1⟩ ⟨xa2, xb2, xc2, xd2⟩)) w) := by
  refine meet_walk _ _ w hT u0 h0 u1 h1 ⟨fun h => ?_, fun h => ⟨fun h2 => ?_, fun h2 => ?_⟩⟩
  · exact ⟨if_neg h, decide_eq_false (fun hh => h hh.1)⟩
  · exact ⟨by unfold meetS; rw [if_pos h]; exact if_neg h2, decide_eq_false (fun hh => h2 hh.2.1)⟩
  · have e : meetS ⟨xa1, xb1, xc1, xd1⟩ ⟨xa2, xb2, xc2, xd2⟩ = toldS (maxL (Wd.qR xa1 xb1) [(Wd.qR xa2 xb2)]) (minL (Wd.qR xc1 xd1) [(Wd.qR xc2 xd2)]) := by unfold meetS; rw [if_pos h]; exact if_pos h2
    refine ⟨e, ?_⟩
    unfold meetB
    rw [e]
    by_cases k : (toldS (maxL (Wd.qR xa1 xb1) [(Wd.qR xa2 xb2)]) (minL (Wd.qR xc1 xd1) [(Wd.qR xc2 xd2)])).e = 0
    · rw [decide_eq_true ⟨h, h2, k⟩, k]; rfl
    · rw [decide_eq_false (fun hh => k hh.2.2), beq_eq_false_iff_ne.2 k]
/-- What halves there are. -/
structure ToldH where
  p : Sp
  q : Sp
  e : Int
def midS (s : Sp) : Wd.Told := Wd.told ((Wd.qR s.a s.b + Wd.qR s.c s.d) / Rat.divInt 2 1)
def halfS (s : Sp) : ToldH :=
  if valS s.a s.b s.c s.d = 0 then (if (midS s).e = 0 then ⟨⟨s.a, s.b, (midS s).n, (midS s).d⟩, ⟨(midS s).n, (midS s).d, s.c, s.d⟩, 0⟩ else ⟨⟨0, 0, 0, 0⟩, ⟨0, 0, 0, 0⟩, (midS s).e⟩)
  else ⟨⟨0, 0, 0, 0⟩, ⟨0, 0, 0, 0⟩, valS s.a s.b s.c s.d⟩
abbrev HfT (t : ToldH) : World → Value → Prop := TupT [AggT (lv4 t.p), AggT (lv4 t.q), Rg.EqT (.int .i64 t.e)]
theorem c_halves {xa1 xb1 xc1 xd1 : Int} (w : World) (hT : Tab w) (u0 : Value) (h0 : AggT [.v (.int .i64 xa1), .v (.int .i64 xb1), .v (.int .i64 xc1), .v (.int .i64 xd1)] w u0) : Calls Tryd.prog 17 #[u0] w (RetT (HfT (halfS ⟨xa1, xb1, xc1, xd1⟩)) w) := by
  refine halves_walk _ _ _ _ _ _ _ _ _ w hT u0 h0 ⟨fun h => ?_, fun h => ⟨fun h2 => ?_, fun h2 => ?_⟩⟩
  · have e : halfS ⟨xa1, xb1, xc1, xd1⟩ = ⟨⟨0, 0, 0, 0⟩, ⟨0, 0, 0, 0⟩, valS xa1 xb1 xc1 xd1⟩ := if_neg h
    rw [e]; exact ⟨rfl, rfl, rfl, rfl, rfl, rfl, rfl, rfl, rfl⟩
  · have e : halfS ⟨xa1, xb1, xc1, xd1⟩ = ⟨⟨0, 0, 0, 0⟩, ⟨0, 0, 0, 0⟩, (midS ⟨xa1, xb1, xc1, xd1⟩).e⟩ := by unfold halfS; rw [if_pos h]; exact if_neg h2
    rw [e]; exact ⟨rfl, rfl, rfl, rfl, rfl, rfl, rfl, rfl, rfl⟩
  · have e : halfS ⟨xa1, xb1, xc1, xd1⟩ = ⟨⟨xa1, xb1, (midS ⟨xa1, xb1, xc1, xd1⟩).n, (midS ⟨xa1, xb1, xc1, xd1⟩).d⟩, ⟨(midS ⟨xa1, xb1, xc1, xd1⟩).n, (midS ⟨xa1, xb1, xc1, xd1⟩).d, xc1, xd1⟩, 0⟩ := by unfold halfS; rw [if_pos h]; exact if_pos h2
    rw [e]; exact ⟨rfl, rfl, rfl, rfl, rfl, rfl, rfl, rfl, rfl⟩
theorem known_span (w : World) (hT : Tab w) : Calls Tryd.prog 18 #[] w (RetT (Rg.EqT (.bool true)) w) :=
  known_walk w hT (fun W v0 v1 hT h0 h1 => by
    have h := c_smul (g := 1) W hT v0 h0 v1 h1
    rwa [show mulS ⟨-1, 1, 2, 1⟩ ⟨3, 1, 4, 1⟩ 1 = ⟨-4, 1, 8, 1, 0⟩ by decide +kernel] at h)
end Sb

end Go.Proofs.YtfbcdfoohpkfeaaDoor
