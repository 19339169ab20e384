/- Part 13 of the texts beneath a law of layer 1: SpF, RgS, SbN. -/
import Derived.Test.YtfbcdfoohpkfeaaDoorCs12
/- Hull and Halves: their walks. -/
namespace Go.Proofs.YtfbcdfoohpkfeaaDoor
open Go.RowKit

namespace Sb
theorem errS_ok {xa1 xb1 xc1 xd1 xa2 xb2 xc2 xd2 : Int} (h : errS [⟨xa1, xb1, xc1, xd1⟩, ⟨xa2, xb2, xc2, xd2⟩] = 0) : okS xa1 xb1 xc1 xd1 ∧ okS xa2 xb2 xc2 xd2 := by
  unfold errS at h
  split at h
  · rename_i h2; exact ⟨h2 ⟨xa1, xb1, xc1, xd1⟩ (by simp), h2 ⟨xa2, xb2, xc2, xd2⟩ (by simp)⟩
  · omega
theorem sm_three {K : Nat} {a b c : Rat} (ha : Sm K a) (hb : Sm K b) (hc : Sm K c) : ∀ z ∈ [a, b, c], Sm K z := fun z hz => by
  simp only [List.mem_cons, List.not_mem_nil, or_false] at hz
  rcases hz with rfl | rfl | rfl
  · exact ha
  · exact hb
  · exact hc
set_option maxRecDepth 100000 in
set_option maxHeartbeats 16000000 in
theorem hull_walk {xa1 xb1 xc1 xd1 xa2 xb2 xc2 xd2 : Int} (t : ToldS) (w : World) (hT : Tab w) (u0 : Value) (h0 : AggT [.v (.int .i64 xa1), .v (.int .i64 xb1), .v (.int .i64 xc1), .v (.int .i64 xd1)] w u0) (u1 : Value) (h1 : AggT [.v (.int .i64 xa2), .v (.int .i64 xb2), .v (.int .i64 xc2), .v (.int .i64 xd2)] w u1)
    (hr : (errS [⟨xa1, xb1, xc1, xd1⟩, ⟨xa2, xb2, xc2, xd2⟩] ≠ 0 → t = ⟨0, 0, 0, 0, errS [⟨xa1, xb1, xc1, xd1⟩, ⟨xa2, xb2, xc2, xd2⟩]⟩) ∧ (errS [⟨xa1, xb1, xc1, xd1⟩, ⟨xa2, xb2, xc2, xd2⟩] = 0 → t = toldS (minL (Wd.qR xa1 xb1) [(Wd.qR xc1 xd1), (Wd.qR xa2 xb2), (Wd.qR xc2 xd2)]) (maxL (Wd.qR xa1 xb1) [(Wd.qR xc1 xd1), (Wd.qR xa2 xb2), (Wd.qR xc2 xd2)]))) :
    Calls Tryd.prog 19 #[u0, u1] w (RetT (SpT t) w) := by
  have HR := hide hr
  have HT := hide hT
  clear hr hT
  have hu0 := agg_v4 h0
  subst hu0
  have hu1 := agg_v4 h1
  subst hu1
  go_enter Tryd.func19, Tryd.ntmps19
  go_upto_region 1 with fail
  have hO := (Own.push (T := 35) (ls := [.v (.int .i64 0), .v (.int .i64 0), .v (.int .i64 0), .v (.int .i64 0)]) (cs := [.int .i64 0, .int .i64 0, .int .i64 0, .int .i64 0]) (Own.push (T := 35) (ls := [.v (.int .i64 xa2), .v (.int .i64 xb2), .v (.int .i64 xc2), .v (.int .i64 xd2)]) (cs := [.int .i64 xa2, .int .i64 xb2, .int .i64 xc2, .int .i64 xd2]) (Own.push (T := 35) (ls := [.v (.int .i64 xa1), .v (.int .i64 xb1), .v (.int .i64 xc1), .v (.int .i64 xd1)]) (cs := [.int .i64 xa1, .int .i64 xb1, .int .i64 xc1, .int .i64 xd1]) (Own.nil w) (LOk.v (notW_i _) (LOk.v (notW_i _) (LOk.v (notW_i _) (LOk.v (notW_i _) rfl)))) (w.heap.size) rfl) (((LOk.v (notW_i _) (LOk.v (notW_i _) (LOk.v (notW_i _) (LOk.v (notW_i _) rfl)))) : LOk w [.v (.int .i64 xa2), .v (.int .i64 xb2), .v (.int .i64 xc2), .v (.int .i64 xd2)] [.int .i64 xa2, .int .i64 xb2, .int .i64 xc2, .int .i64 xd2]).below (by repeat (first | exact Below.refl _ _ | refine below_alloc ?_ _))) (w.heap.size + 1) (by simp only [World.size_alloc])) (((LOk.vs w [.int .i64 0, .int .i64 0, .int .i64 0, .int .i64 0] rfl) : LOk w [.v (.int .i64 0), .v (.int .i64 0), .v (.int .i64 0), .v (.int .i64 0)] [.int .i64 0, .int .i64 0, .int .i64 0, .int .i64 0]).below (by repeat (first | exact Below.refl _ _ | refine below_alloc ?_ _))) (w.heap.size + 2) (by simp only [World.size_alloc]))
  generalize ((w.alloc (.cells #[.int .i64 xa1, .int .i64 xb1, .int .i64 xc1, .int .i64 xd1] 35)).alloc (.cells #[.int .i64 xa2, .int .i64 xb2, .int .i64 xc2, .int .i64 xd2] 35)).alloc (.cells #[.int .i64 0, .int .i64 0, .int .i64 0, .int .i64 0] 35) = W0 at *
  have HO := hide hO
  clear hO
  go_upto_region 1 with fail
  refine Rg.regionS 5 34 (Rg.pick [AggT [.v (.int .i64 xa1), .v (.int .i64 xb1), .v (.int .i64 xc1), .v (.int .i64 xd1)], AggT [.v (.int .i64 xa2), .v (.int .i64 xb2), .v (.int .i64 xc2), .v (.int .i64 xd2)], SlT 35 2 [.v (.int .i64 xa1), .v (.int .i64 xb1), .v (.int .i64 xc1), .v (.int .i64 xd1), .v (.int .i64 xa2), .v (.int .i64 xb2), .v (.int .i64 xc2), .v (.int .i64 xd2)], Rg.EqT (.int .i64 (errS [⟨xa1, xb1, xc1, xd1⟩, ⟨xa2, xb2, xc2, xd2⟩])), Rg.EqT (.int .i64 (errS [⟨xa1, xb1, xc1, xd1⟩, ⟨xa2, xb2, xc2, xd2⟩]))]) (OwnG w [(w.heap.size + 2, 35, [.v (.int .i64 0), .v (.int .i64 0), .v (.int .i64 0), .v (.int .i64 0)]), (w.heap.size + 1, 35, [.v (.int .i64 xa2), .v (.int .i64 xb2), .v (.int .i64 xc2), .v (.int .i64 xd2)]), (w.heap.size, 35, [.v (.int .i64 xa1), .v (.int .i64 xb1), .v (.int .i64 xc1), .v (.int .i64 xd1)])] W0) Bel [] (by kernel_rfl) rfl (Rg.Stabs.pick ⟨stab_agg _, stab_agg _, stab_sl _ _ _, Rg.stab_eq _, Rg.stab_eq _, trivial⟩) (OwnG.begin (unhide HO))
    (Rg.steps_cons (Rg.plain rfl (s_load (b := w.heap.size) (off := 0) (TB := 35) (pre := []) (mid := [.v (.int .i64 xa1), .v (.int .i64 xb1), .v (.int .i64 xc1), .v (.int .i64 xd1)]) (post := []) load_s rfl (Rg.argF (by kernel_rfl) rfl) (fun W h => OwnG.box (List.Mem.tail _ (List.Mem.tail _ (List.Mem.head _))) h) rfl rfl rfl))
      (Rg.steps_cons (Rg.plain rfl (s_load (b := w.heap.size + 1) (off := 0) (TB := 35) (pre := []) (mid := [.v (.int .i64 xa2), .v (.int .i64 xb2), .v (.int .i64 xc2), .v (.int .i64 xd2)]) (post := []) load_s rfl (Rg.argF (by kernel_rfl) rfl) (fun W h => OwnG.box (List.Mem.tail _ (List.Mem.head _)) h) rfl rfl rfl))
      (Rg.steps_cons (Rg.plain rfl (s_buildsl (ps := [(0, .tmp 9), (1, .tmp 10)]) (gs := [[.v (.int .i64 xa1), .v (.int .i64 xb1), .v (.int .i64 xc1), .v (.int .i64 xd1)], [.v (.int .i64 xa2), .v (.int .i64 xb2), .v (.int .i64 xc2), .v (.int .i64 xd2)]]) buildsl_s2 rfl OwnG.step rfl (ArgsOk.cons (Rg.argT 0 (by kernel_rfl)) rfl (ArgsOk.cons (Rg.argT 1 (by kernel_rfl)) rfl ArgsOk.nil)) rfl))
      (Rg.steps_cons (Rg.plain rfl (s_call1 Tryd.func45 (by kernel_rfl) rfl OwnG.step (Rg.argT 2 (by kernel_rfl)) (fun W v0 hG h0 => c_list (ss := [⟨xa1, xb1, xc1, xd1⟩, ⟨xa2, xb2, xc2, xd2⟩]) (by simp) W ((unhide HT).below hG.bel) _ h0)))
      (Rg.steps_cons (Rg.plain rfl (s_assign rfl (Rg.argT 3 (by kernel_rfl))))
      Rg.steps_nil))))) ?_
  intro v1 V1 hG1 hv1 hne1
  simp only [Rg.puts, List.take_succ_cons, List.take_zero, List.drop_succ_cons, List.drop_zero, Act.put, List.setIfInBounds_toArray, List.set_cons_zero, List.set_cons_succ]
  have e3 : v1 3 = .int .i64 (errS [⟨xa1, xb1, xc1, xd1⟩, ⟨xa2, xb2, xc2, xd2⟩]) := hv1 3 (by decide)
  have e4 : v1 4 = .int .i64 (errS [⟨xa1, xb1, xc1, xd1⟩, ⟨xa2, xb2, xc2, xd2⟩]) := hv1 4 (by decide)
  simp only [e3, e4]
  have hO := hG1.1
  clear HO
  have HO := hide hO
  clear hO hG1 hv1 hne1
  try clear e3 e4
  by_cases g0 : errS [⟨xa1, xb1, xc1, xd1⟩, ⟨xa2, xb2, xc2, xd2⟩] = 0
  · have k1 : (errS [⟨xa1, xb1, xc1, xd1⟩, ⟨xa2, xb2, xc2, xd2⟩] != 0) = false := by simp [bne, beq_iff_eq.2 g0]
    have hr := (unhide HR).2 g0
    have HQ := hide (errS_ok g0)
    clear HR
    subst hr
    go_upto_region 2 with fail
    refine Rg.regionS 2 34 (Rg.pick [Rg.EqT (.int .i64 (errS [⟨xa1, xb1, xc1, xd1⟩, ⟨xa2, xb2, xc2, xd2⟩])), Rg.EqT (.bool false)]) (OwnG w [(w.heap.size + 2, 35, [.v (.int .i64 0), .v (.int .i64 0), .v (.int .i64 0), .v (.int .i64 0)]), (w.heap.size + 1, 35, [.v (.int .i64 xa2), .v (.int .i64 xb2), .v (.int .i64 xc2), .v (.int .i64 xd2)]), (w.heap.size, 35, [.v (.int .i64 xa1), .v (.int .i64 xb1), .v (.int .i64 xc1), .v (.int .i64 xd1)])] V1) Bel [] (by kernel_rfl) rfl (Rg.Stabs.pick ⟨Rg.stab_eq _, Rg.stab_eq _, trivial⟩) (OwnG.begin (unhide HO))
      (Rg.steps_cons (Rg.plain rfl (s_move rfl (Rg.argF (by kernel_rfl) rfl)))
        (Rg.steps_cons (Rg.plain rfl (s_neqE rfl (Rg.argT 0 (by kernel_rfl)) (Rg.argC _) rfl k1))
        Rg.steps_nil)) ?_
    intro v2 V2 hG2 hv2 hne2
    simp only [Rg.puts, List.take_succ_cons, List.take_zero, List.drop_succ_cons, List.drop_zero, Act.put, List.setIfInBounds_toArray, List.set_cons_zero, List.set_cons_succ]
    have e0 : v2 0 = .int .i64 (errS [⟨xa1, xb1, xc1, xd1⟩, ⟨xa2, xb2, xc2, xd2⟩]) := hv2 0 (by decide)
    have e1 : v2 1 = .bool false := hv2 1 (by decide)
    simp only [e0, e1]
    have hO := hG2.1
    clear HO
    have HO := hide hO
    clear hO hG2 hv2 hne2
    try clear e0 e1
    clear k1 g0
    go_upto_region 4 with fail
    refine Rg.region 6 34 (Rg.pick [AggT [.v (.int .i64 xa1), .v (.int .i64 xb1), .v (.int .i64 xc1), .v (.int .i64 xd1)], AggT [.q (Wd.qR xa1 xb1), .q (Wd.qR xc1 xd1)], AggT [.v (.int .i64 xa2), .v (.int .i64 xb2), .v (.int .i64 xc2), .v (.int .i64 xd2)], AggT [.q (Wd.qR xa2 xb2), .q (Wd.qR xc2 xd2)], NewB 74 [.v (.int .i64 0), .v (.bool false), .v (.slice none 0 0), .v (.int .i64 0), .v (.bool false), .v (.slice none 0 0), .v (.int .i64 0), .v (.bool false), .v (.slice none 0 0), .v (.int .i64 0), .v (.bool false), .v (.slice none 0 0)] V2.heap.size, NewB 74 [.v (.int .i64 0), .v (.bool false), .v (.slice none 0 0), .v (.int .i64 0), .v (.bool false), .v (.slice none 0 0), .v (.int .i64 0), .v (.bool false), .v (.slice none 0 0), .v (.int .i64 0), .v (.bool false), .v (.slice none 0 0)] V2.heap.size]) (OwnG w [(w.heap.size + 2, 35, [.v (.int .i64 0), .v (.int .i64 0), .v (.int .i64 0), .v (.int .i64 0)]), (w.heap.size + 1, 35, [.v (.int .i64 xa2), .v (.int .i64 xb2), .v (.int .i64 xc2), .v (.int .i64 xd2)]), (w.heap.size, 35, [.v (.int .i64 xa1), .v (.int .i64 xb1), .v (.int .i64 xc1), .v (.int .i64 xd1)])] V2) Bel [4, 5] (by kernel_rfl) (by kernel_rfl) rfl (Rg.Stabs.pick ⟨stab_agg _, stab_agg _, stab_agg _, stab_agg _, stab_new _ _ _, stab_new _ _ _, trivial⟩) (OwnG.start (unhide HO))
      (Rg.steps_cons (Rg.plain rfl (s_load (b := w.heap.size) (off := 0) (TB := 35) (pre := []) (mid := [.v (.int .i64 xa1), .v (.int .i64 xb1), .v (.int .i64 xc1), .v (.int .i64 xd1)]) (post := []) load_s rfl (Rg.argF (by kernel_rfl) rfl) (fun W h => OwnG.box (List.Mem.tail _ (List.Mem.tail _ (List.Mem.head _))) h) rfl rfl rfl))
        (Rg.steps_cons (Rg.plain rfl (s_call1 Tryd.func42 (by kernel_rfl) rfl OwnG.step (Rg.argT 0 (by kernel_rfl)) (fun W v0 hG h0 => c_span ⟨(unhide HQ).1.1, (unhide HQ).1.2.1⟩ W _ h0)))
        (Rg.steps_cons (Rg.plain rfl (s_load (b := w.heap.size + 1) (off := 0) (TB := 35) (pre := []) (mid := [.v (.int .i64 xa2), .v (.int .i64 xb2), .v (.int .i64 xc2), .v (.int .i64 xd2)]) (post := []) load_s rfl (Rg.argF (by kernel_rfl) rfl) (fun W h => OwnG.box (List.Mem.tail _ (List.Mem.head _)) h) rfl rfl rfl))
        (Rg.steps_cons (Rg.plain rfl (s_call1 Tryd.func42 (by kernel_rfl) rfl OwnG.step (Rg.argT 2 (by kernel_rfl)) (fun W v0 hG h0 => c_span ⟨(unhide HQ).2.1, (unhide HQ).2.2.1⟩ W _ h0)))
        (Rg.steps_cons (Rg.plain rfl (s_alloc new_e rfl OwnG.step OwnG.size rfl (new_lt (by intro j hj; simp at hj; (repeat' (first | (rcases hj with rfl | hj))) <;> first | (subst hj; exact ⟨_, _, _, rfl⟩) | exact ⟨_, _, _, rfl⟩))))
        (Rg.steps_cons (Rg.plain rfl (s_alloc new_e rfl OwnG.step OwnG.size rfl (new_lt (by intro j hj; simp at hj; (repeat' (first | (rcases hj with rfl | hj))) <;> first | (subst hj; exact ⟨_, _, _, rfl⟩) | exact ⟨_, _, _, rfl⟩))))
        Rg.steps_nil)))))) ?_
    intro v3 V3 hG3 hv3 hne3
    simp only [Rg.puts, List.take_succ_cons, List.take_zero, List.drop_succ_cons, List.drop_zero, Act.put, List.setIfInBounds_toArray, List.set_cons_zero, List.set_cons_succ]
    obtain ⟨b3_4, e4, hge4, hz4⟩ := (show NewB 74 [.v (.int .i64 0), .v (.bool false), .v (.slice none 0 0), .v (.int .i64 0), .v (.bool false), .v (.slice none 0 0), .v (.int .i64 0), .v (.bool false), .v (.slice none 0 0), .v (.int .i64 0), .v (.bool false), .v (.slice none 0 0)] V2.heap.size V3 (v3 4) from hv3 4 (by decide))
    obtain ⟨b3_5, e5, hge5, hz5⟩ := (show NewB 74 [.v (.int .i64 0), .v (.bool false), .v (.slice none 0 0), .v (.int .i64 0), .v (.bool false), .v (.slice none 0 0), .v (.int .i64 0), .v (.bool false), .v (.slice none 0 0), .v (.int .i64 0), .v (.bool false), .v (.slice none 0 0)] V2.heap.size V3 (v3 5) from hv3 5 (by decide))
    simp only [e4, e5]
    have hO := hG3.1
    have hnn : b3_5 ≠ b3_4 := fun h => hne3 5 4 rfl rfl (by decide) (by decide) (by decide) rfl rfl (by rw [e4, e5, h])
    replace hO := Own.add2 (unhide HO) hG3.2 hge4 hz4 hge5 hz5 hnn
    clear hnn hge4 hz4 hge5 hz5
    refine tl_store (xs := [(b3_5, 74, [.v (.int .i64 0), .v (.bool false), .v (.slice none 0 0), .v (.int .i64 0), .v (.bool false), .v (.slice none 0 0), .v (.int .i64 0), .v (.bool false), .v (.slice none 0 0), .v (.int .i64 0), .v (.bool false), .v (.slice none 0 0)])]) (ys := [(w.heap.size + 2, 35, [.v (.int .i64 0), .v (.int .i64 0), .v (.int .i64 0), .v (.int .i64 0)]), (w.heap.size + 1, 35, [.v (.int .i64 xa2), .v (.int .i64 xb2), .v (.int .i64 xc2), .v (.int .i64 xd2)]), (w.heap.size, 35, [.v (.int .i64 xa1), .v (.int .i64 xb1), .v (.int .i64 xc1), .v (.int .i64 xd1)])]) (pre := []) (old := [.v (.int .i64 0), .v (.bool false), .v (.slice none 0 0), .v (.int .i64 0), .v (.bool false), .v (.slice none 0 0), .v (.int .i64 0), .v (.bool false), .v (.slice none 0 0), .v (.int .i64 0), .v (.bool false), .v (.slice none 0 0)]) (new := [.q (Wd.qR xa1 xb1), .q (Wd.qR xc1 xd1)]) (post := []) (b := b3_4) (off := 0) store_e rfl (show AggT [.q (Wd.qR xa1 xb1), .q (Wd.qR xc1 xd1)] V3 (v3 1) from hv3 1 (by decide)) hO rfl rfl rfl ?_
    intro U3_0 hO0 hk0
    replace hO : Own w [(b3_5, 74, [.v (.int .i64 0), .v (.bool false), .v (.slice none 0 0), .v (.int .i64 0), .v (.bool false), .v (.slice none 0 0), .v (.int .i64 0), .v (.bool false), .v (.slice none 0 0), .v (.int .i64 0), .v (.bool false), .v (.slice none 0 0)]), (b3_4, 74, [.q (Wd.qR xa1 xb1), .q (Wd.qR xc1 xd1)]), (w.heap.size + 2, 35, [.v (.int .i64 0), .v (.int .i64 0), .v (.int .i64 0), .v (.int .i64 0)]), (w.heap.size + 1, 35, [.v (.int .i64 xa2), .v (.int .i64 xb2), .v (.int .i64 xc2), .v (.int .i64 xd2)]), (w.heap.size, 35, [.v (.int .i64 xa1), .v (.int .i64 xb1), .v (.int .i64 xc1), .v (.int .i64 xd1)])] U3_0 := hO0
    clear hO0
    refine tl_store (xs := []) (ys := [(b3_4, 74, [.q (Wd.qR xa1 xb1), .q (Wd.qR xc1 xd1)]), (w.heap.size + 2, 35, [.v (.int .i64 0), .v (.int .i64 0), .v (.int .i64 0), .v (.int .i64 0)]), (w.heap.size + 1, 35, [.v (.int .i64 xa2), .v (.int .i64 xb2), .v (.int .i64 xc2), .v (.int .i64 xd2)]), (w.heap.size, 35, [.v (.int .i64 xa1), .v (.int .i64 xb1), .v (.int .i64 xc1), .v (.int .i64 xd1)])]) (pre := []) (old := [.v (.int .i64 0), .v (.bool false), .v (.slice none 0 0), .v (.int .i64 0), .v (.bool false), .v (.slice none 0 0), .v (.int .i64 0), .v (.bool false), .v (.slice none 0 0), .v (.int .i64 0), .v (.bool false), .v (.slice none 0 0)]) (new := [.q (Wd.qR xa2 xb2), .q (Wd.qR xc2 xd2)]) (post := []) (b := b3_5) (off := 0) store_e rfl (hk0 _ _ (show AggT [.q (Wd.qR xa2 xb2), .q (Wd.qR xc2 xd2)] V3 (v3 3) from hv3 3 (by decide))) hO rfl rfl rfl ?_
    intro U3_1 hO1 hk1
    replace hO : Own w [(b3_5, 74, [.q (Wd.qR xa2 xb2), .q (Wd.qR xc2 xd2)]), (b3_4, 74, [.q (Wd.qR xa1 xb1), .q (Wd.qR xc1 xd1)]), (w.heap.size + 2, 35, [.v (.int .i64 0), .v (.int .i64 0), .v (.int .i64 0), .v (.int .i64 0)]), (w.heap.size + 1, 35, [.v (.int .i64 xa2), .v (.int .i64 xb2), .v (.int .i64 xc2), .v (.int .i64 xd2)]), (w.heap.size, 35, [.v (.int .i64 xa1), .v (.int .i64 xb1), .v (.int .i64 xc1), .v (.int .i64 xd1)])] U3_1 := hO1
    clear hO1
    clear HO
    have HO := hide hO
    clear hO hG3 hv3 hne3 hk0 hk1
    try clear e4 e5
    go_upto_region 5 with fail
    refine Rg.regionS 13 34 (Rg.pick [Rg.EqT (.pointer (some ⟨b3_4, 0, none⟩)), AggT [.q (Wd.qR xa1 xb1)], Rg.EqT (.pointer (some ⟨b3_4, 6, none⟩)), AggT [.q (Wd.qR xc1 xd1)], Rg.EqT (.pointer (some ⟨b3_5, 0, none⟩)), AggT [.q (Wd.qR xa2 xb2)], Rg.EqT (.pointer (some ⟨b3_5, 6, none⟩)), AggT [.q (Wd.qR xc2 xd2)], SlT 48 3 [.q (Wd.qR xc1 xd1), .q (Wd.qR xa2 xb2), .q (Wd.qR xc2 xd2)], AggT [.q (minL (Wd.qR xa1 xb1) [(Wd.qR xc1 xd1), (Wd.qR xa2 xb2), (Wd.qR xc2 xd2)]), .q (maxL (Wd.qR xa1 xb1) [(Wd.qR xc1 xd1), (Wd.qR xa2 xb2), (Wd.qR xc2 xd2)])], TupT [AggT [.v (.int .i64 (toldS (minL (Wd.qR xa1 xb1) [(Wd.qR xc1 xd1), (Wd.qR xa2 xb2), (Wd.qR xc2 xd2)]) (maxL (Wd.qR xa1 xb1) [(Wd.qR xc1 xd1), (Wd.qR xa2 xb2), (Wd.qR xc2 xd2)])).a), .v (.int .i64 (toldS (minL (Wd.qR xa1 xb1) [(Wd.qR xc1 xd1), (Wd.qR xa2 xb2), (Wd.qR xc2 xd2)]) (maxL (Wd.qR xa1 xb1) [(Wd.qR xc1 xd1), (Wd.qR xa2 xb2), (Wd.qR xc2 xd2)])).b), .v (.int .i64 (toldS (minL (Wd.qR xa1 xb1) [(Wd.qR xc1 xd1), (Wd.qR xa2 xb2), (Wd.qR xc2 xd2)]) (maxL (Wd.qR xa1 xb1) [(Wd.qR xc1 xd1), (Wd.qR xa2 xb2), (Wd.qR xc2 xd2)])).c), .v (.int .i64 (toldS (minL (Wd.qR xa1 xb1) [(Wd.qR xc1 xd1), (Wd.qR xa2 xb2), (Wd.qR xc2 xd2)]) (maxL (Wd.qR xa1 xb1) [(Wd.qR xc1 xd1), (Wd.qR xa2 xb2), (Wd.qR xc2 xd2)])).d)], Rg.EqT (.int .i64 (toldS (minL (Wd.qR xa1 xb1) [(Wd.qR xc1 xd1), (Wd.qR xa2 xb2), (Wd.qR xc2 xd2)]) (maxL (Wd.qR xa1 xb1) [(Wd.qR xc1 xd1), (Wd.qR xa2 xb2), (Wd.qR xc2 xd2)])).e)], AggT [.v (.int .i64 (toldS (minL (Wd.qR xa1 xb1) [(Wd.qR xc1 xd1), (Wd.qR xa2 xb2), (Wd.qR xc2 xd2)]) (maxL (Wd.qR xa1 xb1) [(Wd.qR xc1 xd1), (Wd.qR xa2 xb2), (Wd.qR xc2 xd2)])).a), .v (.int .i64 (toldS (minL (Wd.qR xa1 xb1) [(Wd.qR xc1 xd1), (Wd.qR xa2 xb2), (Wd.qR xc2 xd2)]) (maxL (Wd.qR xa1 xb1) [(Wd.qR xc1 xd1), (Wd.qR xa2 xb2), (Wd.qR xc2 xd2)])).b), .v (.int .i64 (toldS (minL (Wd.qR xa1 xb1) [(Wd.qR xc1 xd1), (Wd.qR xa2 xb2), (Wd.qR xc2 xd2)]) (maxL (Wd.qR xa1 xb1) [(Wd.qR xc1 xd1), (Wd.qR xa2 xb2), (Wd.qR xc2 xd2)])).c), .v (.int .i64 (toldS (minL (Wd.qR xa1 xb1) [(Wd.qR xc1 xd1), (Wd.qR xa2 xb2), (Wd.qR xc2 xd2)]) (maxL (Wd.qR xa1 xb1) [(Wd.qR xc1 xd1), (Wd.qR xa2 xb2), (Wd.qR xc2 xd2)])).d)], Rg.EqT (.int .i64 (toldS (minL (Wd.qR xa1 xb1) [(Wd.qR xc1 xd1), (Wd.qR xa2 xb2), (Wd.qR xc2 xd2)]) (maxL (Wd.qR xa1 xb1) [(Wd.qR xc1 xd1), (Wd.qR xa2 xb2), (Wd.qR xc2 xd2)])).e)]) (OwnG w [(b3_5, 74, [.q (Wd.qR xa2 xb2), .q (Wd.qR xc2 xd2)]), (b3_4, 74, [.q (Wd.qR xa1 xb1), .q (Wd.qR xc1 xd1)]), (w.heap.size + 2, 35, [.v (.int .i64 0), .v (.int .i64 0), .v (.int .i64 0), .v (.int .i64 0)]), (w.heap.size + 1, 35, [.v (.int .i64 xa2), .v (.int .i64 xb2), .v (.int .i64 xc2), .v (.int .i64 xd2)]), (w.heap.size, 35, [.v (.int .i64 xa1), .v (.int .i64 xb1), .v (.int .i64 xc1), .v (.int .i64 xd1)])] U3_1) Bel [] (by kernel_rfl) rfl (Rg.Stabs.pick ⟨Rg.stab_eq _, stab_agg _, Rg.stab_eq _, stab_agg _, Rg.stab_eq _, stab_agg _, Rg.stab_eq _, stab_agg _, stab_sl _ _ _, stab_agg _, stab_tup ⟨(stab_agg _), (Rg.stab_eq _), trivial⟩, stab_agg _, Rg.stab_eq _, trivial⟩) (OwnG.begin (unhide HO))
      (Rg.steps_cons (Rg.plain rfl (s_addr_e0 (b := b3_4) (off := 0) rfl (Rg.argF (by kernel_rfl) rfl) rfl rfl))
        (Rg.steps_cons (Rg.plain rfl (s_load (b := b3_4) (off := 0) (TB := 74) (pre := []) (mid := [.q (Wd.qR xa1 xb1)]) (post := [.q (Wd.qR xc1 xd1)]) load_q rfl (Rg.argT 0 (by kernel_rfl)) (fun W h => OwnG.box (List.Mem.tail _ (List.Mem.head _)) h) rfl rfl rfl))
        (Rg.steps_cons (Rg.plain rfl (s_addr_e1 (b := b3_4) (off := 0) rfl (Rg.argF (by kernel_rfl) rfl) rfl rfl))
        (Rg.steps_cons (Rg.plain rfl (s_load (b := b3_4) (off := 6) (TB := 74) (pre := [.q (Wd.qR xa1 xb1)]) (mid := [.q (Wd.qR xc1 xd1)]) (post := []) load_q rfl (Rg.argT 2 (by kernel_rfl)) (fun W h => OwnG.box (List.Mem.tail _ (List.Mem.head _)) h) rfl rfl rfl))
        (Rg.steps_cons (Rg.plain rfl (s_addr_e0 (b := b3_5) (off := 0) rfl (Rg.argF (by kernel_rfl) rfl) rfl rfl))
        (Rg.steps_cons (Rg.plain rfl (s_load (b := b3_5) (off := 0) (TB := 74) (pre := []) (mid := [.q (Wd.qR xa2 xb2)]) (post := [.q (Wd.qR xc2 xd2)]) load_q rfl (Rg.argT 4 (by kernel_rfl)) (fun W h => OwnG.box (List.Mem.head _) h) rfl rfl rfl))
        (Rg.steps_cons (Rg.plain rfl (s_addr_e1 (b := b3_5) (off := 0) rfl (Rg.argF (by kernel_rfl) rfl) rfl rfl))
        (Rg.steps_cons (Rg.plain rfl (s_load (b := b3_5) (off := 6) (TB := 74) (pre := [.q (Wd.qR xa2 xb2)]) (mid := [.q (Wd.qR xc2 xd2)]) (post := []) load_q rfl (Rg.argT 6 (by kernel_rfl)) (fun W h => OwnG.box (List.Mem.head _) h) rfl rfl rfl))
        (Rg.steps_cons (Rg.plain rfl (s_buildsl (ps := [(0, .tmp 24), (1, .tmp 26), (2, .tmp 28)]) (gs := [[.q (Wd.qR xc1 xd1)], [.q (Wd.qR xa2 xb2)], [.q (Wd.qR xc2 xd2)]]) buildsl_q3 rfl OwnG.step rfl (ArgsOk.cons (Rg.argT 3 (by kernel_rfl)) rfl (ArgsOk.cons (Rg.argT 5 (by kernel_rfl)) rfl (ArgsOk.cons (Rg.argT 7 (by kernel_rfl)) rfl ArgsOk.nil))) rfl))
        (Rg.steps_cons (Rg.plain rfl (s_call2 Tryd.func46 (by kernel_rfl) rfl OwnG.step (Rg.argT 1 (by kernel_rfl)) (Rg.argT 8 (by kernel_rfl)) (fun W v0 v1 hG h0 h1 => c_around (qs := [(Wd.qR xc1 xd1), (Wd.qR xa2 xb2), (Wd.qR xc2 xd2)]) (sm_okR (unhide HQ).1.1) (sm_three (sm_okR (unhide HQ).1.2.1) (sm_okR (unhide HQ).2.1) (sm_okR (unhide HQ).2.2.1)) (by simp) W _ _ h0 h1)))
        (Rg.steps_cons (Rg.plain rfl (s_call1 Tryd.func47 (by kernel_rfl) rfl OwnG.step (Rg.argT 9 (by kernel_rfl)) (fun W v0 hG h0 => c_told W _ h0)))
        (Rg.steps_cons (Rg.plain rfl (s_extT (ts := [AggT [.v (.int .i64 (toldS (minL (Wd.qR xa1 xb1) [(Wd.qR xc1 xd1), (Wd.qR xa2 xb2), (Wd.qR xc2 xd2)]) (maxL (Wd.qR xa1 xb1) [(Wd.qR xc1 xd1), (Wd.qR xa2 xb2), (Wd.qR xc2 xd2)])).a), .v (.int .i64 (toldS (minL (Wd.qR xa1 xb1) [(Wd.qR xc1 xd1), (Wd.qR xa2 xb2), (Wd.qR xc2 xd2)]) (maxL (Wd.qR xa1 xb1) [(Wd.qR xc1 xd1), (Wd.qR xa2 xb2), (Wd.qR xc2 xd2)])).b), .v (.int .i64 (toldS (minL (Wd.qR xa1 xb1) [(Wd.qR xc1 xd1), (Wd.qR xa2 xb2), (Wd.qR xc2 xd2)]) (maxL (Wd.qR xa1 xb1) [(Wd.qR xc1 xd1), (Wd.qR xa2 xb2), (Wd.qR xc2 xd2)])).c), .v (.int .i64 (toldS (minL (Wd.qR xa1 xb1) [(Wd.qR xc1 xd1), (Wd.qR xa2 xb2), (Wd.qR xc2 xd2)]) (maxL (Wd.qR xa1 xb1) [(Wd.qR xc1 xd1), (Wd.qR xa2 xb2), (Wd.qR xc2 xd2)])).d)], Rg.EqT (.int .i64 (toldS (minL (Wd.qR xa1 xb1) [(Wd.qR xc1 xd1), (Wd.qR xa2 xb2), (Wd.qR xc2 xd2)]) (maxL (Wd.qR xa1 xb1) [(Wd.qR xc1 xd1), (Wd.qR xa2 xb2), (Wd.qR xc2 xd2)])).e)]) rfl (Rg.argT 10 (by kernel_rfl)) (of_decide_eq_true rfl) rfl))
        (Rg.steps_cons (Rg.plain rfl (s_extT (ts := [AggT [.v (.int .i64 (toldS (minL (Wd.qR xa1 xb1) [(Wd.qR xc1 xd1), (Wd.qR xa2 xb2), (Wd.qR xc2 xd2)]) (maxL (Wd.qR xa1 xb1) [(Wd.qR xc1 xd1), (Wd.qR xa2 xb2), (Wd.qR xc2 xd2)])).a), .v (.int .i64 (toldS (minL (Wd.qR xa1 xb1) [(Wd.qR xc1 xd1), (Wd.qR xa2 xb2), (Wd.qR xc2 xd2)]) (maxL (Wd.qR xa1 xb1) [(Wd.qR xc1 xd1), (Wd.qR xa2 xb2), (Wd.qR xc2 xd2)])).b), .v (.int .i64 (toldS (minL (Wd.qR xa1 xb1) [(Wd.qR xc1 xd1), (Wd.qR xa2 xb2), (Wd.qR xc2 xd2)]) (maxL (Wd.qR xa1 xb1) [(Wd.qR xc1 xd1), (Wd.qR xa2 xb2), (Wd.qR xc2 xd2)])).c), .v (.int .i64 (toldS (minL (Wd.qR xa1 xb1) [(Wd.qR xc1 xd1), (Wd.qR xa2 xb2), (Wd.qR xc2 xd2)]) (maxL (Wd.qR xa1 xb1) [(Wd.qR xc1 xd1), (Wd.qR xa2 xb2), (Wd.qR xc2 xd2)])).d)], Rg.EqT (.int .i64 (toldS (minL (Wd.qR xa1 xb1) [(Wd.qR xc1 xd1), (Wd.qR xa2 xb2), (Wd.qR xc2 xd2)]) (maxL (Wd.qR xa1 xb1) [(Wd.qR xc1 xd1), (Wd.qR xa2 xb2), (Wd.qR xc2 xd2)])).e)]) rfl (Rg.argT 10 (by kernel_rfl)) (of_decide_eq_true rfl) rfl))
        Rg.steps_nil))))))))))))) ?_
    intro v4 V4 hG4 hv4 hne4
    simp only [Rg.puts, List.take_succ_cons, List.take_zero, List.drop_succ_cons, List.drop_zero, Act.put, List.setIfInBounds_toArray, List.set_cons_zero, List.set_cons_succ]
    have e0 : v4 0 = .pointer (some ⟨b3_4, 0, none⟩) := hv4 0 (by decide)
    have e2 : v4 2 = .pointer (some ⟨b3_4, 6, none⟩) := hv4 2 (by decide)
    have e4 : v4 4 = .pointer (some ⟨b3_5, 0, none⟩) := hv4 4 (by decide)
    have e6 : v4 6 = .pointer (some ⟨b3_5, 6, none⟩) := hv4 6 (by decide)
    have e12 : v4 12 = .int .i64 (toldS (minL (Wd.qR xa1 xb1) [(Wd.qR xc1 xd1), (Wd.qR xa2 xb2), (Wd.qR xc2 xd2)]) (maxL (Wd.qR xa1 xb1) [(Wd.qR xc1 xd1), (Wd.qR xa2 xb2), (Wd.qR xc2 xd2)])).e := hv4 12 (by decide)
    simp only [e0, e2, e4, e6, e12]
    have hO := hG4.1
    refine tl_store (xs := [(b3_5, 74, [.q (Wd.qR xa2 xb2), .q (Wd.qR xc2 xd2)]), (b3_4, 74, [.q (Wd.qR xa1 xb1), .q (Wd.qR xc1 xd1)])]) (ys := [(w.heap.size + 1, 35, [.v (.int .i64 xa2), .v (.int .i64 xb2), .v (.int .i64 xc2), .v (.int .i64 xd2)]), (w.heap.size, 35, [.v (.int .i64 xa1), .v (.int .i64 xb1), .v (.int .i64 xc1), .v (.int .i64 xd1)])]) (pre := []) (old := [.v (.int .i64 0), .v (.int .i64 0), .v (.int .i64 0), .v (.int .i64 0)]) (new := [.v (.int .i64 (toldS (minL (Wd.qR xa1 xb1) [(Wd.qR xc1 xd1), (Wd.qR xa2 xb2), (Wd.qR xc2 xd2)]) (maxL (Wd.qR xa1 xb1) [(Wd.qR xc1 xd1), (Wd.qR xa2 xb2), (Wd.qR xc2 xd2)])).a), .v (.int .i64 (toldS (minL (Wd.qR xa1 xb1) [(Wd.qR xc1 xd1), (Wd.qR xa2 xb2), (Wd.qR xc2 xd2)]) (maxL (Wd.qR xa1 xb1) [(Wd.qR xc1 xd1), (Wd.qR xa2 xb2), (Wd.qR xc2 xd2)])).b), .v (.int .i64 (toldS (minL (Wd.qR xa1 xb1) [(Wd.qR xc1 xd1), (Wd.qR xa2 xb2), (Wd.qR xc2 xd2)]) (maxL (Wd.qR xa1 xb1) [(Wd.qR xc1 xd1), (Wd.qR xa2 xb2), (Wd.qR xc2 xd2)])).c), .v (.int .i64 (toldS (minL (Wd.qR xa1 xb1) [(Wd.qR xc1 xd1), (Wd.qR xa2 xb2), (Wd.qR xc2 xd2)]) (maxL (Wd.qR xa1 xb1) [(Wd.qR xc1 xd1), (Wd.qR xa2 xb2), (Wd.qR xc2 xd2)])).d)]) (post := []) (b := w.heap.size + 2) (off := 0) store_s rfl (show AggT [.v (.int .i64 (toldS (minL (Wd.qR xa1 xb1) [(Wd.qR xc1 xd1), (Wd.qR xa2 xb2), (Wd.qR xc2 xd2)]) (maxL (Wd.qR xa1 xb1) [(Wd.qR xc1 xd1), (Wd.qR xa2 xb2), (Wd.qR xc2 xd2)])).a), .v (.int .i64 (toldS (minL (Wd.qR xa1 xb1) [(Wd.qR xc1 xd1), (Wd.qR xa2 xb2), (Wd.qR xc2 xd2)]) (maxL (Wd.qR xa1 xb1) [(Wd.qR xc1 xd1), (Wd.qR xa2 xb2), (Wd.qR xc2 xd2)])).b), .v (.int .i64 (toldS (minL (Wd.qR xa1 xb1) [(Wd.qR xc1 xd1), (Wd.qR xa2 xb2), (Wd.qR xc2 xd2)]) (maxL (Wd.qR xa1 xb1) [(Wd.qR xc1 xd1), (Wd.qR xa2 xb2), (Wd.qR xc2 xd2)])).c), .v (.int .i64 (toldS (minL (Wd.qR xa1 xb1) [(Wd.qR xc1 xd1), (Wd.qR xa2 xb2), (Wd.qR xc2 xd2)]) (maxL (Wd.qR xa1 xb1) [(Wd.qR xc1 xd1), (Wd.qR xa2 xb2), (Wd.qR xc2 xd2)])).d)] V4 (v4 11) from hv4 11 (by decide)) hO rfl rfl rfl ?_
    intro U4_0 hO0 hk0
    replace hO : Own w [(b3_5, 74, [.q (Wd.qR xa2 xb2), .q (Wd.qR xc2 xd2)]), (b3_4, 74, [.q (Wd.qR xa1 xb1), .q (Wd.qR xc1 xd1)]), (w.heap.size + 2, 35, [.v (.int .i64 (toldS (minL (Wd.qR xa1 xb1) [(Wd.qR xc1 xd1), (Wd.qR xa2 xb2), (Wd.qR xc2 xd2)]) (maxL (Wd.qR xa1 xb1) [(Wd.qR xc1 xd1), (Wd.qR xa2 xb2), (Wd.qR xc2 xd2)])).a), .v (.int .i64 (toldS (minL (Wd.qR xa1 xb1) [(Wd.qR xc1 xd1), (Wd.qR xa2 xb2), (Wd.qR xc2 xd2)]) (maxL (Wd.qR xa1 xb1) [(Wd.qR xc1 xd1), (Wd.qR xa2 xb2), (Wd.qR xc2 xd2)])).b), .v (.int .i64 (toldS (minL (Wd.qR xa1 xb1) [(Wd.qR xc1 xd1), (Wd.qR xa2 xb2), (Wd.qR xc2 xd2)]) (maxL (Wd.qR xa1 xb1) [(Wd.qR xc1 xd1), (Wd.qR xa2 xb2), (Wd.qR xc2 xd2)])).c), .v (.int .i64 (toldS (minL (Wd.qR xa1 xb1) [(Wd.qR xc1 xd1), (Wd.qR xa2 xb2), (Wd.qR xc2 xd2)]) (maxL (Wd.qR xa1 xb1) [(Wd.qR xc1 xd1), (Wd.qR xa2 xb2), (Wd.qR xc2 xd2)])).d)]), (w.heap.size + 1, 35, [.v (.int .i64 xa2), .v (.int .i64 xb2), .v (.int .i64 xc2), .v (.int .i64 xd2)]), (w.heap.size, 35, [.v (.int .i64 xa1), .v (.int .i64 xb1), .v (.int .i64 xc1), .v (.int .i64 xd1)])] U4_0 := hO0
    clear hO0
    clear HO
    have HO := hide hO
    clear hO hG4 hv4 hne4 hk0
    try clear e0 e2 e4 e6 e12
    go_wp2_with fail
    exact end_ct Tryd.results19 loadv_s rfl rfl (unhide HO) (List.Mem.tail _ (List.Mem.tail _ (List.Mem.head _))) rfl rfl
  · have k1 : (errS [⟨xa1, xb1, xc1, xd1⟩, ⟨xa2, xb2, xc2, xd2⟩] != 0) = true := by simp [bne, beq_eq_false_iff_ne.2 g0]
    have hr := (unhide HR).1 g0
    clear HR
    subst hr
    go_upto_region 2 with fail
    refine Rg.regionS 2 34 (Rg.pick [Rg.EqT (.int .i64 (errS [⟨xa1, xb1, xc1, xd1⟩, ⟨xa2, xb2, xc2, xd2⟩])), Rg.EqT (.bool true)]) (OwnG w [(w.heap.size + 2, 35, [.v (.int .i64 0), .v (.int .i64 0), .v (.int .i64 0), .v (.int .i64 0)]), (w.heap.size + 1, 35, [.v (.int .i64 xa2), .v (.int .i64 xb2), .v (.int .i64 xc2), .v (.int .i64 xd2)]), (w.heap.size, 35, [.v (.int .i64 xa1), .v (.int .i64 xb1), .v (.int .i64 xc1), .v (.int .i64 xd1)])] V1) Bel [] (by kernel_rfl) rfl (Rg.Stabs.pick ⟨Rg.stab_eq _, Rg.stab_eq _, trivial⟩) (OwnG.begin (unhide HO))
      (Rg.steps_cons (Rg.plain rfl (s_move rfl (Rg.argF (by kernel_rfl) rfl)))
        (Rg.steps_cons (Rg.plain rfl (s_neqE rfl (Rg.argT 0 (by kernel_rfl)) (Rg.argC _) rfl k1))
        Rg.steps_nil)) ?_
    intro v2 V2 hG2 hv2 hne2
    simp only [Rg.puts, List.take_succ_cons, List.take_zero, List.drop_succ_cons, List.drop_zero, Act.put, List.setIfInBounds_toArray, List.set_cons_zero, List.set_cons_succ]
    have e0 : v2 0 = .int .i64 (errS [⟨xa1, xb1, xc1, xd1⟩, ⟨xa2, xb2, xc2, xd2⟩]) := hv2 0 (by decide)
    have e1 : v2 1 = .bool true := hv2 1 (by decide)
    simp only [e0, e1]
    have hO := hG2.1
    clear HO
    have HO := hide hO
    clear hO hG2 hv2 hne2
    try clear e0 e1
    go_upto_region 3 with fail
    refine Rg.regionS 2 34 (Rg.pick [AggT [.v (.int .i64 0), .v (.int .i64 0), .v (.int .i64 0), .v (.int .i64 0)], Rg.EqT (.int .i64 (errS [⟨xa1, xb1, xc1, xd1⟩, ⟨xa2, xb2, xc2, xd2⟩]))]) (OwnG w [(w.heap.size + 2, 35, [.v (.int .i64 0), .v (.int .i64 0), .v (.int .i64 0), .v (.int .i64 0)]), (w.heap.size + 1, 35, [.v (.int .i64 xa2), .v (.int .i64 xb2), .v (.int .i64 xc2), .v (.int .i64 xd2)]), (w.heap.size, 35, [.v (.int .i64 xa1), .v (.int .i64 xb1), .v (.int .i64 xc1), .v (.int .i64 xd1)])] V2) Bel [] (by kernel_rfl) rfl (Rg.Stabs.pick ⟨stab_agg _, Rg.stab_eq _, trivial⟩) (OwnG.begin (unhide HO))
      (Rg.steps_cons (Rg.plain rfl (s_build0 build0_s rfl rfl rfl))
        (Rg.steps_cons (Rg.plain rfl (s_move rfl (Rg.argF (by kernel_rfl) rfl)))
        Rg.steps_nil)) ?_
    intro v3 V3 hG3 hv3 hne3
    simp only [Rg.puts, List.take_succ_cons, List.take_zero, List.drop_succ_cons, List.drop_zero, Act.put, List.setIfInBounds_toArray, List.set_cons_zero, List.set_cons_succ]
    have e1 : v3 1 = .int .i64 (errS [⟨xa1, xb1, xc1, xd1⟩, ⟨xa2, xb2, xc2, xd2⟩]) := hv3 1 (by decide)
    simp only [e1]
    have hO := hG3.1
    refine tl_store (xs := []) (ys := [(w.heap.size + 1, 35, [.v (.int .i64 xa2), .v (.int .i64 xb2), .v (.int .i64 xc2), .v (.int .i64 xd2)]), (w.heap.size, 35, [.v (.int .i64 xa1), .v (.int .i64 xb1), .v (.int .i64 xc1), .v (.int .i64 xd1)])]) (pre := []) (old := [.v (.int .i64 0), .v (.int .i64 0), .v (.int .i64 0), .v (.int .i64 0)]) (new := [.v (.int .i64 0), .v (.int .i64 0), .v (.int .i64 0), .v (.int .i64 0)]) (post := []) (b := w.heap.size + 2) (off := 0) store_s rfl (show AggT [.v (.int .i64 0), .v (.int .i64 0), .v (.int .i64 0), .v (.int .i64 0)] V3 (v3 0) from hv3 0 (by decide)) hO rfl rfl rfl ?_
    intro U3_0 hO0 hk0
    replace hO : Own w [(w.heap.size + 2, 35, [.v (.int .i64 0), .v (.int .i64 0), .v (.int .i64 0), .v (.int .i64 0)]), (w.heap.size + 1, 35, [.v (.int .i64 xa2), .v (.int .i64 xb2), .v (.int .i64 xc2), .v (.int .i64 xd2)]), (w.heap.size, 35, [.v (.int .i64 xa1), .v (.int .i64 xb1), .v (.int .i64 xc1), .v (.int .i64 xd1)])] U3_0 := hO0
    clear hO0
    clear HO
    have HO := hide hO
    clear hO hG3 hv3 hne3 hk0
    try clear e1
    go_wp2_with fail
    exact end_ct Tryd.results19 loadv_s rfl rfl (unhide HO) (List.Mem.head _) rfl rfl
theorem valS_ok {xa1 xb1 xc1 xd1 : Int} (h : valS xa1 xb1 xc1 xd1 = 0) : okS xa1 xb1 xc1 xd1 := by
  unfold valS at h
  split at h
  · assumption
  · omega
set_option maxRecDepth 100000 in
set_option maxHeartbeats 16000000 in
theorem halves_walk {xa1 xb1 xc1 xd1 : Int} (s1 s2 s3 s4 s5 s6 s7 s8 se : Int) (w : World) (hT : Tab w) (u0 : Value) (h0 : AggT [.v (.int .i64 xa1), .v (.int .i64 xb1), .v (.int .i64 xc1), .v (.int .i64 xd1)] w u0)
    (hr : (valS xa1 xb1 xc1 xd1 ≠ 0 → s1 = 0 ∧ s2 = 0 ∧ s3 = 0 ∧ s4 = 0 ∧ s5 = 0 ∧ s6 = 0 ∧ s7 = 0 ∧ s8 = 0 ∧ valS xa1 xb1 xc1 xd1 = se) ∧ (valS xa1 xb1 xc1 xd1 = 0 → ((Wd.told (((Wd.qR xa1 xb1) + (Wd.qR xc1 xd1)) / Rat.divInt 2 1)).e ≠ 0 → s1 = 0 ∧ s2 = 0 ∧ s3 = 0 ∧ s4 = 0 ∧ s5 = 0 ∧ s6 = 0 ∧ s7 = 0 ∧ s8 = 0 ∧ (Wd.told (((Wd.qR xa1 xb1) + (Wd.qR xc1 xd1)) / Rat.divInt 2 1)).e = se) ∧ ((Wd.told (((Wd.qR xa1 xb1) + (Wd.qR xc1 xd1)) / Rat.divInt 2 1)).e = 0 → xa1 = s1 ∧ xb1 = s2 ∧ (Wd.told (((Wd.qR xa1 xb1) + (Wd.qR xc1 xd1)) / Rat.divInt 2 1)).n = s3 ∧ (Wd.told (((Wd.qR xa1 xb1) + (Wd.qR xc1 xd1)) / Rat.divInt 2 1)).d = s4 ∧ (Wd.told (((Wd.qR xa1 xb1) + (Wd.qR xc1 xd1)) / Rat.divInt 2 1)).n = s5 ∧ (Wd.told (((Wd.qR xa1 xb1) + (Wd.qR xc1 xd1)) / Rat.divInt 2 1)).d = s6 ∧ xc1 = s7 ∧ xd1 = s8 ∧ se = 0))) :
    Calls Tryd.prog 17 #[u0] w (RetT (TupT [AggT [.v (.int .i64 s1), .v (.int .i64 s2), .v (.int .i64 s3), .v (.int .i64 s4)], AggT [.v (.int .i64 s5), .v (.int .i64 s6), .v (.int .i64 s7), .v (.int .i64 s8)], Rg.EqT (.int .i64 se)]) w) := by
  have HR := hide hr
  have HT := hide hT
  clear hr hT
  have hu0 := agg_v4 h0
  subst hu0
  go_enter Tryd.func17, Tryd.ntmps17
  go_upto_region 1 with fail
  have hO := (Own.push (T := 35) (ls := [.v (.int .i64 0), .v (.int .i64 0), .v (.int .i64 0), .v (.int .i64 0)]) (cs := [.int .i64 0, .int .i64 0, .int .i64 0, .int .i64 0]) (Own.push (T := 35) (ls := [.v (.int .i64 0), .v (.int .i64 0), .v (.int .i64 0), .v (.int .i64 0)]) (cs := [.int .i64 0, .int .i64 0, .int .i64 0, .int .i64 0]) (Own.push (T := 35) (ls := [.v (.int .i64 xa1), .v (.int .i64 xb1), .v (.int .i64 xc1), .v (.int .i64 xd1)]) (cs := [.int .i64 xa1, .int .i64 xb1, .int .i64 xc1, .int .i64 xd1]) (Own.nil w) (LOk.v (notW_i _) (LOk.v (notW_i _) (LOk.v (notW_i _) (LOk.v (notW_i _) rfl)))) (w.heap.size) rfl) (((LOk.vs w [.int .i64 0, .int .i64 0, .int .i64 0, .int .i64 0] rfl) : LOk w [.v (.int .i64 0), .v (.int .i64 0), .v (.int .i64 0), .v (.int .i64 0)] [.int .i64 0, .int .i64 0, .int .i64 0, .int .i64 0]).below (by repeat (first | exact Below.refl _ _ | refine below_alloc ?_ _))) (w.heap.size + 1) (by simp only [World.size_alloc])) (((LOk.vs w [.int .i64 0, .int .i64 0, .int .i64 0, .int .i64 0] rfl) : LOk w [.v (.int .i64 0), .v (.int .i64 0), .v (.int .i64 0), .v (.int .i64 0)] [.int .i64 0, .int .i64 0, .int .i64 0, .int .i64 0]).below (by repeat (first | exact Below.refl _ _ | refine below_alloc ?_ _))) (w.heap.size + 2) (by simp only [World.size_alloc]))
  generalize ((w.alloc (.cells #[.int .i64 xa1, .int .i64 xb1, .int .i64 xc1, .int .i64 xd1] 35)).alloc (.cells #[.int .i64 0, .int .i64 0, .int .i64 0, .int .i64 0] 35)).alloc (.cells #[.int .i64 0, .int .i64 0, .int .i64 0, .int .i64 0] 35) = W0 at *
  have HO := hide hO
  clear hO
  go_upto_region 1 with fail
  refine Rg.regionS 3 35 (Rg.pick [AggT [.v (.int .i64 xa1), .v (.int .i64 xb1), .v (.int .i64 xc1), .v (.int .i64 xd1)], Rg.EqT (.int .i64 (valS xa1 xb1 xc1 xd1)), Rg.EqT (.int .i64 (valS xa1 xb1 xc1 xd1))]) (OwnG w [(w.heap.size + 2, 35, [.v (.int .i64 0), .v (.int .i64 0), .v (.int .i64 0), .v (.int .i64 0)]), (w.heap.size + 1, 35, [.v (.int .i64 0), .v (.int .i64 0), .v (.int .i64 0), .v (.int .i64 0)]), (w.heap.size, 35, [.v (.int .i64 xa1), .v (.int .i64 xb1), .v (.int .i64 xc1), .v (.int .i64 xd1)])] W0) Bel [] (by kernel_rfl) rfl (Rg.Stabs.pick ⟨stab_agg _, Rg.stab_eq _, Rg.stab_eq _, trivial⟩) (OwnG.begin (unhide HO))
    (Rg.steps_cons (Rg.plain rfl (s_load (b := w.heap.size) (off := 0) (TB := 35) (pre := []) (mid := [.v (.int .i64 xa1), .v (.int .i64 xb1), .v (.int .i64 xc1), .v (.int .i64 xd1)]) (post := []) load_s rfl (Rg.argF (by kernel_rfl) rfl) (fun W h => OwnG.box (List.Mem.tail _ (List.Mem.tail _ (List.Mem.head _))) h) rfl rfl rfl))
      (Rg.steps_cons (Rg.plain rfl (s_call1 Tryd.func41 (by kernel_rfl) rfl OwnG.step (Rg.argT 0 (by kernel_rfl)) (fun W v0 hG h0 => c_valS W ((unhide HT).below hG.bel) _ h0)))
      (Rg.steps_cons (Rg.plain rfl (s_assign rfl (Rg.argT 1 (by kernel_rfl))))
      Rg.steps_nil))) ?_
  intro v1 V1 hG1 hv1 hne1
  simp only [Rg.puts, List.take_succ_cons, List.take_zero, List.drop_succ_cons, List.drop_zero, Act.put, List.setIfInBounds_toArray, List.set_cons_zero, List.set_cons_succ]
  have e1 : v1 1 = .int .i64 (valS xa1 xb1 xc1 xd1) := hv1 1 (by decide)
  have e2 : v1 2 = .int .i64 (valS xa1 xb1 xc1 xd1) := hv1 2 (by decide)
  simp only [e1, e2]
  have hO := hG1.1
  clear HO
  have HO := hide hO
  clear hO hG1 hv1 hne1
  try clear e1 e2
  by_cases g0 : valS xa1 xb1 xc1 xd1 = 0
  · have k1 : (valS xa1 xb1 xc1 xd1 != 0) = false := by simp [bne, beq_iff_eq.2 g0]
    have HR2 := hide ((unhide HR).2 g0)
    have HQ := hide (valS_ok g0)
    clear HR
    go_upto_region 2 with fail
    refine Rg.regionS 2 35 (Rg.pick [Rg.EqT (.int .i64 (valS xa1 xb1 xc1 xd1)), Rg.EqT (.bool false)]) (OwnG w [(w.heap.size + 2, 35, [.v (.int .i64 0), .v (.int .i64 0), .v (.int .i64 0), .v (.int .i64 0)]), (w.heap.size + 1, 35, [.v (.int .i64 0), .v (.int .i64 0), .v (.int .i64 0), .v (.int .i64 0)]), (w.heap.size, 35, [.v (.int .i64 xa1), .v (.int .i64 xb1), .v (.int .i64 xc1), .v (.int .i64 xd1)])] V1) Bel [] (by kernel_rfl) rfl (Rg.Stabs.pick ⟨Rg.stab_eq _, Rg.stab_eq _, trivial⟩) (OwnG.begin (unhide HO))
      (Rg.steps_cons (Rg.plain rfl (s_move rfl (Rg.argF (by kernel_rfl) rfl)))
        (Rg.steps_cons (Rg.plain rfl (s_neqE rfl (Rg.argT 0 (by kernel_rfl)) (Rg.argC _) rfl k1))
        Rg.steps_nil)) ?_
    intro v2 V2 hG2 hv2 hne2
    simp only [Rg.puts, List.take_succ_cons, List.take_zero, List.drop_succ_cons, List.drop_zero, Act.put, List.setIfInBounds_toArray, List.set_cons_zero, List.set_cons_succ]
    have e0 : v2 0 = .int .i64 (valS xa1 xb1 xc1 xd1) := hv2 0 (by decide)
    have e1 : v2 1 = .bool false := hv2 1 (by decide)
    simp only [e0, e1]
    have hO := hG2.1
    clear HO
    have HO := hide hO
    clear hO hG2 hv2 hne2
    try clear e0 e1
    clear k1 g0
    go_upto_region 4 with fail
    refine Rg.regionS 8 35 (Rg.pick [AggT [.v (.int .i64 xa1), .v (.int .i64 xb1), .v (.int .i64 xc1), .v (.int .i64 xd1)], AggT [.q (Wd.qR xa1 xb1), .q (Wd.qR xc1 xd1)], AggT [.q (((Wd.qR xa1 xb1) + (Wd.qR xc1 xd1)) / Rat.divInt 2 1)], TupT [AggT [.v (.int .i64 (Wd.told (((Wd.qR xa1 xb1) + (Wd.qR xc1 xd1)) / Rat.divInt 2 1)).n), .v (.int .i64 (Wd.told (((Wd.qR xa1 xb1) + (Wd.qR xc1 xd1)) / Rat.divInt 2 1)).d)], Rg.EqT (.int .i64 (Wd.told (((Wd.qR xa1 xb1) + (Wd.qR xc1 xd1)) / Rat.divInt 2 1)).e)], TupT [AggT [.v (.int .i64 (Wd.told (((Wd.qR xa1 xb1) + (Wd.qR xc1 xd1)) / Rat.divInt 2 1)).n), .v (.int .i64 (Wd.told (((Wd.qR xa1 xb1) + (Wd.qR xc1 xd1)) / Rat.divInt 2 1)).d)], Rg.EqT (.int .i64 (Wd.told (((Wd.qR xa1 xb1) + (Wd.qR xc1 xd1)) / Rat.divInt 2 1)).e)], AggT [.v (.int .i64 (Wd.told (((Wd.qR xa1 xb1) + (Wd.qR xc1 xd1)) / Rat.divInt 2 1)).n), .v (.int .i64 (Wd.told (((Wd.qR xa1 xb1) + (Wd.qR xc1 xd1)) / Rat.divInt 2 1)).d)], Rg.EqT (.int .i64 (Wd.told (((Wd.qR xa1 xb1) + (Wd.qR xc1 xd1)) / Rat.divInt 2 1)).e), NewB 23 [.v (.int .i64 0), .v (.int .i64 0)] V2.heap.size]) (OwnG w [(w.heap.size + 2, 35, [.v (.int .i64 0), .v (.int .i64 0), .v (.int .i64 0), .v (.int .i64 0)]), (w.heap.size + 1, 35, [.v (.int .i64 0), .v (.int .i64 0), .v (.int .i64 0), .v (.int .i64 0)]), (w.heap.size, 35, [.v (.int .i64 xa1), .v (.int .i64 xb1), .v (.int .i64 xc1), .v (.int .i64 xd1)])] V2) Bel [7] (by kernel_rfl) rfl (Rg.Stabs.pick ⟨stab_agg _, stab_agg _, stab_agg _, stab_tup ⟨(stab_agg _), (Rg.stab_eq _), trivial⟩, stab_tup ⟨(stab_agg _), (Rg.stab_eq _), trivial⟩, stab_agg _, Rg.stab_eq _, stab_new _ _ _, trivial⟩) (OwnG.begin (unhide HO))
      (Rg.steps_cons (Rg.plain rfl (s_load (b := w.heap.size) (off := 0) (TB := 35) (pre := []) (mid := [.v (.int .i64 xa1), .v (.int .i64 xb1), .v (.int .i64 xc1), .v (.int .i64 xd1)]) (post := []) load_s rfl (Rg.argF (by kernel_rfl) rfl) (fun W h => OwnG.box (List.Mem.tail _ (List.Mem.tail _ (List.Mem.head _))) h) rfl rfl rfl))
        (Rg.steps_cons (Rg.plain rfl (s_call1 Tryd.func42 (by kernel_rfl) rfl OwnG.step (Rg.argT 0 (by kernel_rfl)) (fun W v0 hG h0 => c_span ⟨(unhide HQ).1, (unhide HQ).2.1⟩ W _ h0)))
        (Rg.steps_cons (Rg.plain rfl (s_call1 Tryd.func43 (by kernel_rfl) rfl OwnG.step (Rg.argT 1 (by kernel_rfl)) (fun W v0 hG h0 => c_middle (sm_okR (unhide HQ).1) (sm_okR (unhide HQ).2.1) (by omega) W ((unhide HT).below hG.bel) _ h0)))
        (Rg.steps_cons (Rg.plain rfl (s_call1 Tryd.func23 (by kernel_rfl) rfl OwnG.step (Rg.argT 2 (by kernel_rfl)) (fun W v0 hG h0 => c_ratT h0)))
        (Rg.steps_cons (Rg.plain rfl (s_move rfl (Rg.argT 3 (by kernel_rfl))))
        (Rg.steps_cons (Rg.plain rfl (s_extT (ts := [AggT [.v (.int .i64 (Wd.told (((Wd.qR xa1 xb1) + (Wd.qR xc1 xd1)) / Rat.divInt 2 1)).n), .v (.int .i64 (Wd.told (((Wd.qR xa1 xb1) + (Wd.qR xc1 xd1)) / Rat.divInt 2 1)).d)], Rg.EqT (.int .i64 (Wd.told (((Wd.qR xa1 xb1) + (Wd.qR xc1 xd1)) / Rat.divInt 2 1)).e)]) rfl (Rg.argT 4 (by kernel_rfl)) (of_decide_eq_true rfl) rfl))
        (Rg.steps_cons (Rg.plain rfl (s_extT (ts := [AggT [.v (.int .i64 (Wd.told (((Wd.qR xa1 xb1) + (Wd.qR xc1 xd1)) / Rat.divInt 2 1)).n), .v (.int .i64 (Wd.told (((Wd.qR xa1 xb1) + (Wd.qR xc1 xd1)) / Rat.divInt 2 1)).d)], Rg.EqT (.int .i64 (Wd.told (((Wd.qR xa1 xb1) + (Wd.qR xc1 xd1)) / Rat.divInt 2 1)).e)]) rfl (Rg.argT 4 (by kernel_rfl)) (of_decide_eq_true rfl) rfl))
        (Rg.steps_cons (Rg.plain rfl (s_alloc new_r rfl OwnG.step OwnG.size rfl (new_lt (by intro j hj; simp at hj; (repeat' (first | (rcases hj with rfl | hj))) <;> first | (subst hj; exact ⟨_, _, _, rfl⟩) | exact ⟨_, _, _, rfl⟩))))
        Rg.steps_nil)))))))) ?_
    intro v3 V3 hG3 hv3 hne3
    simp only [Rg.puts, List.take_succ_cons, List.take_zero, List.drop_succ_cons, List.drop_zero, Act.put, List.setIfInBounds_toArray, List.set_cons_zero, List.set_cons_succ]
    have e6 : v3 6 = .int .i64 (Wd.told (((Wd.qR xa1 xb1) + (Wd.qR xc1 xd1)) / Rat.divInt 2 1)).e := hv3 6 (by decide)
    obtain ⟨b3_7, e7, hge7, hz7⟩ := (show NewB 23 [.v (.int .i64 0), .v (.int .i64 0)] V2.heap.size V3 (v3 7) from hv3 7 (by decide))
    simp only [e6, e7]
    have hO := hG3.1
    replace hO := Own.add (unhide HO) hG3.2 hge7 hz7
    clear hge7 hz7
    refine tl_store (xs := []) (ys := [(w.heap.size + 2, 35, [.v (.int .i64 0), .v (.int .i64 0), .v (.int .i64 0), .v (.int .i64 0)]), (w.heap.size + 1, 35, [.v (.int .i64 0), .v (.int .i64 0), .v (.int .i64 0), .v (.int .i64 0)]), (w.heap.size, 35, [.v (.int .i64 xa1), .v (.int .i64 xb1), .v (.int .i64 xc1), .v (.int .i64 xd1)])]) (pre := []) (old := [.v (.int .i64 0), .v (.int .i64 0)]) (new := [.v (.int .i64 (Wd.told (((Wd.qR xa1 xb1) + (Wd.qR xc1 xd1)) / Rat.divInt 2 1)).n), .v (.int .i64 (Wd.told (((Wd.qR xa1 xb1) + (Wd.qR xc1 xd1)) / Rat.divInt 2 1)).d)]) (post := []) (b := b3_7) (off := 0) store_r rfl (show AggT [.v (.int .i64 (Wd.told (((Wd.qR xa1 xb1) + (Wd.qR xc1 xd1)) / Rat.divInt 2 1)).n), .v (.int .i64 (Wd.told (((Wd.qR xa1 xb1) + (Wd.qR xc1 xd1)) / Rat.divInt 2 1)).d)] V3 (v3 5) from hv3 5 (by decide)) hO rfl rfl rfl ?_
    intro U3_0 hO0 hk0
    replace hO : Own w [(b3_7, 23, [.v (.int .i64 (Wd.told (((Wd.qR xa1 xb1) + (Wd.qR xc1 xd1)) / Rat.divInt 2 1)).n), .v (.int .i64 (Wd.told (((Wd.qR xa1 xb1) + (Wd.qR xc1 xd1)) / Rat.divInt 2 1)).d)]), (w.heap.size + 2, 35, [.v (.int .i64 0), .v (.int .i64 0), .v (.int .i64 0), .v (.int .i64 0)]), (w.heap.size + 1, 35, [.v (.int .i64 0), .v (.int .i64 0), .v (.int .i64 0), .v (.int .i64 0)]), (w.heap.size, 35, [.v (.int .i64 xa1), .v (.int .i64 xb1), .v (.int .i64 xc1), .v (.int .i64 xd1)])] U3_0 := hO0
    clear hO0
    clear HO
    have HO := hide hO
    clear hO hG3 hv3 hne3 hk0
    try clear e6 e7
    by_cases g1 : (Wd.told (((Wd.qR xa1 xb1) + (Wd.qR xc1 xd1)) / Rat.divInt 2 1)).e = 0
    · have k2 : ((Wd.told (((Wd.qR xa1 xb1) + (Wd.qR xc1 xd1)) / Rat.divInt 2 1)).e != 0) = false := by simp [bne, beq_iff_eq.2 g1]
      obtain ⟨h1, h2, h3, h4, h5, h6, h7, h8, rfl⟩ := (unhide HR2).2 g1
      clear HR2
      subst h1 h2 h3 h4 h5 h6 h7 h8
      go_upto_region 5 with fail
      refine Rg.regionS 2 35 (Rg.pick [Rg.EqT (.int .i64 (Wd.told (((Wd.qR xa1 xb1) + (Wd.qR xc1 xd1)) / Rat.divInt 2 1)).e), Rg.EqT (.bool false)]) (OwnG w [(b3_7, 23, [.v (.int .i64 (Wd.told (((Wd.qR xa1 xb1) + (Wd.qR xc1 xd1)) / Rat.divInt 2 1)).n), .v (.int .i64 (Wd.told (((Wd.qR xa1 xb1) + (Wd.qR xc1 xd1)) / Rat.divInt 2 1)).d)]), (w.heap.size + 2, 35, [.v (.int .i64 0), .v (.int .i64 0), .v (.int .i64 0), .v (.int .i64 0)]), (w.heap.size + 1, 35, [.v (.int .i64 0), .v (.int .i64 0), .v (.int .i64 0), .v (.int .i64 0)]), (w.heap.size, 35, [.v (.int .i64 xa1), .v (.int .i64 xb1), .v (.int .i64 xc1), .v (.int .i64 xd1)])] U3_0) Bel [] (by kernel_rfl) rfl (Rg.Stabs.pick ⟨Rg.stab_eq _, Rg.stab_eq _, trivial⟩) (OwnG.begin (unhide HO))
        (Rg.steps_cons (Rg.plain rfl (s_move rfl (Rg.argF (by kernel_rfl) rfl)))
          (Rg.steps_cons (Rg.plain rfl (s_neqE rfl (Rg.argT 0 (by kernel_rfl)) (Rg.argC _) rfl k2))
          Rg.steps_nil)) ?_
      intro v4 V4 hG4 hv4 hne4
      simp only [Rg.puts, List.take_succ_cons, List.take_zero, List.drop_succ_cons, List.drop_zero, Act.put, List.setIfInBounds_toArray, List.set_cons_zero, List.set_cons_succ]
      have e0 : v4 0 = .int .i64 (Wd.told (((Wd.qR xa1 xb1) + (Wd.qR xc1 xd1)) / Rat.divInt 2 1)).e := hv4 0 (by decide)
      have e1 : v4 1 = .bool false := hv4 1 (by decide)
      simp only [e0, e1]
      have hO := hG4.1
      clear HO
      have HO := hide hO
      clear hO hG4 hv4 hne4
      try clear e0 e1
      go_upto_region 7 with fail
      refine Rg.region 11 35 (Rg.pick [Rg.EqT (.pointer (some ⟨w.heap.size, 0, none⟩)), AggT [.v (.int .i64 xa1), .v (.int .i64 xb1)], AggT [.v (.int .i64 (Wd.told (((Wd.qR xa1 xb1) + (Wd.qR xc1 xd1)) / Rat.divInt 2 1)).n), .v (.int .i64 (Wd.told (((Wd.qR xa1 xb1) + (Wd.qR xc1 xd1)) / Rat.divInt 2 1)).d)], AggT [.v (.int .i64 xa1), .v (.int .i64 xb1), .v (.int .i64 (Wd.told (((Wd.qR xa1 xb1) + (Wd.qR xc1 xd1)) / Rat.divInt 2 1)).n), .v (.int .i64 (Wd.told (((Wd.qR xa1 xb1) + (Wd.qR xc1 xd1)) / Rat.divInt 2 1)).d)], AggT [.v (.int .i64 (Wd.told (((Wd.qR xa1 xb1) + (Wd.qR xc1 xd1)) / Rat.divInt 2 1)).n), .v (.int .i64 (Wd.told (((Wd.qR xa1 xb1) + (Wd.qR xc1 xd1)) / Rat.divInt 2 1)).d)], Rg.EqT (.pointer (some ⟨w.heap.size, 2, none⟩)), AggT [.v (.int .i64 xc1), .v (.int .i64 xd1)], AggT [.v (.int .i64 (Wd.told (((Wd.qR xa1 xb1) + (Wd.qR xc1 xd1)) / Rat.divInt 2 1)).n), .v (.int .i64 (Wd.told (((Wd.qR xa1 xb1) + (Wd.qR xc1 xd1)) / Rat.divInt 2 1)).d), .v (.int .i64 xc1), .v (.int .i64 xd1)], StT (w.heap.size + 1, 35, [.v (.int .i64 xa1), .v (.int .i64 xb1), .v (.int .i64 (Wd.told (((Wd.qR xa1 xb1) + (Wd.qR xc1 xd1)) / Rat.divInt 2 1)).n), .v (.int .i64 (Wd.told (((Wd.qR xa1 xb1) + (Wd.qR xc1 xd1)) / Rat.divInt 2 1)).d)]), StT (w.heap.size + 2, 35, [.v (.int .i64 (Wd.told (((Wd.qR xa1 xb1) + (Wd.qR xc1 xd1)) / Rat.divInt 2 1)).n), .v (.int .i64 (Wd.told (((Wd.qR xa1 xb1) + (Wd.qR xc1 xd1)) / Rat.divInt 2 1)).d), .v (.int .i64 xc1), .v (.int .i64 xd1)]), Rg.EqT (.int .i64 0)]) (GS w [(b3_7, 23, [.v (.int .i64 (Wd.told (((Wd.qR xa1 xb1) + (Wd.qR xc1 xd1)) / Rat.divInt 2 1)).n), .v (.int .i64 (Wd.told (((Wd.qR xa1 xb1) + (Wd.qR xc1 xd1)) / Rat.divInt 2 1)).d)]), (w.heap.size + 2, 35, [.v (.int .i64 0), .v (.int .i64 0), .v (.int .i64 0), .v (.int .i64 0)]), (w.heap.size + 1, 35, [.v (.int .i64 0), .v (.int .i64 0), .v (.int .i64 0), .v (.int .i64 0)]), (w.heap.size, 35, [.v (.int .i64 xa1), .v (.int .i64 xb1), .v (.int .i64 xc1), .v (.int .i64 xd1)])] (w.heap.size + 1, 35, [.v (.int .i64 xa1), .v (.int .i64 xb1), .v (.int .i64 (Wd.told (((Wd.qR xa1 xb1) + (Wd.qR xc1 xd1)) / Rat.divInt 2 1)).n), .v (.int .i64 (Wd.told (((Wd.qR xa1 xb1) + (Wd.qR xc1 xd1)) / Rat.divInt 2 1)).d)]) (w.heap.size + 2, 35, [.v (.int .i64 (Wd.told (((Wd.qR xa1 xb1) + (Wd.qR xc1 xd1)) / Rat.divInt 2 1)).n), .v (.int .i64 (Wd.told (((Wd.qR xa1 xb1) + (Wd.qR xc1 xd1)) / Rat.divInt 2 1)).d), .v (.int .i64 xc1), .v (.int .i64 xd1)])) (ES (w.heap.size + 1, 35, [.v (.int .i64 xa1), .v (.int .i64 xb1), .v (.int .i64 (Wd.told (((Wd.qR xa1 xb1) + (Wd.qR xc1 xd1)) / Rat.divInt 2 1)).n), .v (.int .i64 (Wd.told (((Wd.qR xa1 xb1) + (Wd.qR xc1 xd1)) / Rat.divInt 2 1)).d)]) (w.heap.size + 2, 35, [.v (.int .i64 (Wd.told (((Wd.qR xa1 xb1) + (Wd.qR xc1 xd1)) / Rat.divInt 2 1)).n), .v (.int .i64 (Wd.told (((Wd.qR xa1 xb1) + (Wd.qR xc1 xd1)) / Rat.divInt 2 1)).d), .v (.int .i64 xc1), .v (.int .i64 xd1)])) [] (by kernel_rfl) (by kernel_rfl) rfl (Rg.Stabs.pick ⟨(stabS_eq _), (stabS_agg _), (stabS_agg _), (stabS_agg _), (stabS_agg _), (stabS_eq _), (stabS_agg _), (stabS_agg _), (stabS_st (.inl (by show (w.heap.size + 1 : Nat) ≠ w.heap.size + 2; omega)) (.inl rfl)), (stabS_st (.inl (by show (w.heap.size + 1 : Nat) ≠ w.heap.size + 2; omega)) (.inr rfl)), (stabS_eq _), trivial⟩) (GS.start (unhide HO))
        (Rg.steps_cons (Rg.plain rfl (step_mono (s_addr_s0 (b := w.heap.size) (off := 0) rfl (Rg.argF (by kernel_rfl) rfl) rfl rfl)))
          (Rg.steps_cons (Rg.plain rfl (step_mono (s_load (b := w.heap.size) (off := 0) (TB := 35) (pre := []) (mid := [.v (.int .i64 xa1), .v (.int .i64 xb1)]) (post := [.v (.int .i64 xc1), .v (.int .i64 xd1)]) load_r rfl (Rg.argT 0 (by kernel_rfl)) (fun W h => GS.get (List.Mem.tail _ (List.Mem.tail _ (List.Mem.tail _ (List.Mem.head _)))) (fun h => absurd (show (w.heap.size + 1 : Nat) = w.heap.size from h) (by first | omega | (intro h; exact (own_ne (unhide HO) 2 3 rfl rfl (by decide)) h))) (fun h => absurd (show (w.heap.size + 2 : Nat) = w.heap.size from h) (by first | omega | (intro h; exact (own_ne (unhide HO) 1 3 rfl rfl (by decide)) h))) h) rfl rfl rfl)))
          (Rg.steps_cons (Rg.plain rfl (step_mono (s_load (b := b3_7) (off := 0) (TB := 23) (pre := []) (mid := [.v (.int .i64 (Wd.told (((Wd.qR xa1 xb1) + (Wd.qR xc1 xd1)) / Rat.divInt 2 1)).n), .v (.int .i64 (Wd.told (((Wd.qR xa1 xb1) + (Wd.qR xc1 xd1)) / Rat.divInt 2 1)).d)]) (post := []) load_r rfl (Rg.argF (by kernel_rfl) rfl) (fun W h => GS.get (List.Mem.head _) (fun h => absurd (show (w.heap.size + 1 : Nat) = b3_7 from h) (by first | omega | (intro h; exact (fun h => own_ne (unhide HO) 0 2 rfl rfl (by decide) h.symm) h))) (fun h => absurd (show (w.heap.size + 2 : Nat) = b3_7 from h) (by first | omega | (intro h; exact (fun h => own_ne (unhide HO) 0 1 rfl rfl (by decide) h.symm) h))) h) rfl rfl rfl)))
          (Rg.steps_cons (Rg.plain rfl (step_mono (s_build2 build_s rfl (Rg.argT 1 (by kernel_rfl)) (Rg.argT 2 (by kernel_rfl)) rfl rfl rfl)))
          (Rg.steps_cons (Rg.plain rfl (step_mono (s_load (b := b3_7) (off := 0) (TB := 23) (pre := []) (mid := [.v (.int .i64 (Wd.told (((Wd.qR xa1 xb1) + (Wd.qR xc1 xd1)) / Rat.divInt 2 1)).n), .v (.int .i64 (Wd.told (((Wd.qR xa1 xb1) + (Wd.qR xc1 xd1)) / Rat.divInt 2 1)).d)]) (post := []) load_r rfl (Rg.argF (by kernel_rfl) rfl) (fun W h => GS.get (List.Mem.head _) (fun h => absurd (show (w.heap.size + 1 : Nat) = b3_7 from h) (by first | omega | (intro h; exact (fun h => own_ne (unhide HO) 0 2 rfl rfl (by decide) h.symm) h))) (fun h => absurd (show (w.heap.size + 2 : Nat) = b3_7 from h) (by first | omega | (intro h; exact (fun h => own_ne (unhide HO) 0 1 rfl rfl (by decide) h.symm) h))) h) rfl rfl rfl)))
          (Rg.steps_cons (Rg.plain rfl (step_mono (s_addr_s1 (b := w.heap.size) (off := 0) rfl (Rg.argF (by kernel_rfl) rfl) rfl rfl)))
          (Rg.steps_cons (Rg.plain rfl (step_mono (s_load (b := w.heap.size) (off := 2) (TB := 35) (pre := [.v (.int .i64 xa1), .v (.int .i64 xb1)]) (mid := [.v (.int .i64 xc1), .v (.int .i64 xd1)]) (post := []) load_r rfl (Rg.argT 5 (by kernel_rfl)) (fun W h => GS.get (List.Mem.tail _ (List.Mem.tail _ (List.Mem.tail _ (List.Mem.head _)))) (fun h => absurd (show (w.heap.size + 1 : Nat) = w.heap.size from h) (by first | omega | (intro h; exact (own_ne (unhide HO) 2 3 rfl rfl (by decide)) h))) (fun h => absurd (show (w.heap.size + 2 : Nat) = w.heap.size from h) (by first | omega | (intro h; exact (own_ne (unhide HO) 1 3 rfl rfl (by decide)) h))) h) rfl rfl rfl)))
          (Rg.steps_cons (Rg.plain rfl (step_mono (s_build2 build_s rfl (Rg.argT 4 (by kernel_rfl)) (Rg.argT 6 (by kernel_rfl)) rfl rfl rfl)))
          (Rg.steps_cons (Rg.plain rfl (s_storeS (b := w.heap.size + 1) (old := [.v (.int .i64 0), .v (.int .i64 0), .v (.int .i64 0), .v (.int .i64 0)]) (new := [.v (.int .i64 xa1), .v (.int .i64 xb1), .v (.int .i64 (Wd.told (((Wd.qR xa1 xb1) + (Wd.qR xc1 xd1)) / Rat.divInt 2 1)).n), .v (.int .i64 (Wd.told (((Wd.qR xa1 xb1) + (Wd.qR xc1 xd1)) / Rat.divInt 2 1)).d)]) store_s rfl (Rg.argF (by kernel_rfl) rfl) (Rg.argT 3 (by kernel_rfl)) (List.Mem.tail _ (List.Mem.tail _ (List.Mem.head _))) (unhide HO).nd (.inl rfl) (.inl (by show (w.heap.size + 1 : Nat) ≠ w.heap.size + 2; omega)) rfl rfl rfl))
          (Rg.steps_cons (Rg.plain rfl (s_storeS (b := w.heap.size + 2) (old := [.v (.int .i64 0), .v (.int .i64 0), .v (.int .i64 0), .v (.int .i64 0)]) (new := [.v (.int .i64 (Wd.told (((Wd.qR xa1 xb1) + (Wd.qR xc1 xd1)) / Rat.divInt 2 1)).n), .v (.int .i64 (Wd.told (((Wd.qR xa1 xb1) + (Wd.qR xc1 xd1)) / Rat.divInt 2 1)).d), .v (.int .i64 xc1), .v (.int .i64 xd1)]) store_s rfl (Rg.argF (by kernel_rfl) rfl) (Rg.argT 7 (by kernel_rfl)) (List.Mem.tail _ (List.Mem.head _)) (unhide HO).nd (.inr rfl) (.inl (by show (w.heap.size + 1 : Nat) ≠ w.heap.size + 2; omega)) rfl rfl rfl))
          (Rg.steps_cons (Rg.plain rfl (step_mono (s_assign rfl (Rg.argC _))))
          Rg.steps_nil))))))))))) ?_
      intro v5 V5 hG5 hv5 hne5
      simp only [Rg.puts, List.take_succ_cons, List.take_zero, List.drop_succ_cons, List.drop_zero, Act.put, List.setIfInBounds_toArray, List.set_cons_zero, List.set_cons_succ]
      have e0 : v5 0 = .pointer (some ⟨w.heap.size, 0, none⟩) := hv5 0 (by decide)
      have e5 : v5 5 = .pointer (some ⟨w.heap.size, 2, none⟩) := hv5 5 (by decide)
      have e10 : v5 10 = .int .i64 0 := hv5 10 (by decide)
      simp only [e0, e5, e10]
      have hO : Own w [(b3_7, 23, [.v (.int .i64 (Wd.told (((Wd.qR xa1 xb1) + (Wd.qR xc1 xd1)) / Rat.divInt 2 1)).n), .v (.int .i64 (Wd.told (((Wd.qR xa1 xb1) + (Wd.qR xc1 xd1)) / Rat.divInt 2 1)).d)]), (w.heap.size + 2, 35, [.v (.int .i64 (Wd.told (((Wd.qR xa1 xb1) + (Wd.qR xc1 xd1)) / Rat.divInt 2 1)).n), .v (.int .i64 (Wd.told (((Wd.qR xa1 xb1) + (Wd.qR xc1 xd1)) / Rat.divInt 2 1)).d), .v (.int .i64 xc1), .v (.int .i64 xd1)]), (w.heap.size + 1, 35, [.v (.int .i64 xa1), .v (.int .i64 xb1), .v (.int .i64 (Wd.told (((Wd.qR xa1 xb1) + (Wd.qR xc1 xd1)) / Rat.divInt 2 1)).n), .v (.int .i64 (Wd.told (((Wd.qR xa1 xb1) + (Wd.qR xc1 xd1)) / Rat.divInt 2 1)).d)]), (w.heap.size, 35, [.v (.int .i64 xa1), .v (.int .i64 xb1), .v (.int .i64 xc1), .v (.int .i64 xd1)])] V5 := by
        refine ⟨hG5.bel, (unhide HO).nd, fun b T ls hm => ?_⟩
        rcases List.mem_cons.1 hm with e | hm
        · cases e; exact ⟨(hG5.box _ _ _ (List.Mem.head _)).1, GS.get (List.Mem.head _) (fun h => absurd (show (w.heap.size + 1 : Nat) = b3_7 from h) (by first | omega | (intro h; exact (fun h => own_ne (unhide HO) 0 2 rfl rfl (by decide) h.symm) h))) (fun h => absurd (show (w.heap.size + 2 : Nat) = b3_7 from h) (by first | omega | (intro h; exact (fun h => own_ne (unhide HO) 0 1 rfl rfl (by decide) h.symm) h))) hG5⟩
        rcases List.mem_cons.1 hm with e | hm
        · cases e; exact ⟨(hG5.box _ _ _ (List.Mem.tail _ (List.Mem.head _))).1, hv5 9 (by decide)⟩
        rcases List.mem_cons.1 hm with e | hm
        · cases e; exact ⟨(hG5.box _ _ _ (List.Mem.tail _ (List.Mem.tail _ (List.Mem.head _)))).1, hv5 8 (by decide)⟩
        rcases List.mem_cons.1 hm with e | hm
        · cases e; exact ⟨(hG5.box _ _ _ (List.Mem.tail _ (List.Mem.tail _ (List.Mem.tail _ (List.Mem.head _))))).1, GS.get (List.Mem.tail _ (List.Mem.tail _ (List.Mem.tail _ (List.Mem.head _)))) (fun h => absurd (show (w.heap.size + 1 : Nat) = w.heap.size from h) (by first | omega | (intro h; exact (own_ne (unhide HO) 2 3 rfl rfl (by decide)) h))) (fun h => absurd (show (w.heap.size + 2 : Nat) = w.heap.size from h) (by first | omega | (intro h; exact (own_ne (unhide HO) 1 3 rfl rfl (by decide)) h))) hG5⟩
        cases hm
      clear HO
      have HO := hide hO
      clear hO hG5 hv5 hne5
      try clear e0 e5 e10
      go_wp2_with fail
      exact end_cct Tryd.results17 loadv_s loadv_s rfl rfl rfl (unhide HO) (List.Mem.tail _ (List.Mem.tail _ (List.Mem.head _))) (List.Mem.tail _ (List.Mem.head _)) rfl rfl rfl
    · have k2 : ((Wd.told (((Wd.qR xa1 xb1) + (Wd.qR xc1 xd1)) / Rat.divInt 2 1)).e != 0) = true := by simp [bne, beq_eq_false_iff_ne.2 g1]
      obtain ⟨rfl, rfl, rfl, rfl, rfl, rfl, rfl, rfl, hz⟩ := (unhide HR2).1 g1
      clear HR2
      subst hz
      go_upto_region 5 with fail
      refine Rg.regionS 2 35 (Rg.pick [Rg.EqT (.int .i64 (Wd.told (((Wd.qR xa1 xb1) + (Wd.qR xc1 xd1)) / Rat.divInt 2 1)).e), Rg.EqT (.bool true)]) (OwnG w [(b3_7, 23, [.v (.int .i64 (Wd.told (((Wd.qR xa1 xb1) + (Wd.qR xc1 xd1)) / Rat.divInt 2 1)).n), .v (.int .i64 (Wd.told (((Wd.qR xa1 xb1) + (Wd.qR xc1 xd1)) / Rat.divInt 2 1)).d)]), (w.heap.size + 2, 35, [.v (.int .i64 0), .v (.int .i64 0), .v (.int .i64 0), .v (.int .i64 0)]), (w.heap.size + 1, 35, [.v (.int .i64 0), .v (.int .i64 0), .v (.int .i64 0), .v (.int .i64 0)]), (w.heap.size, 35, [.v (.int .i64 xa1), .v (.int .i64 xb1), .v (.int .i64 xc1), .v (.int .i64 xd1)])] U3_0) Bel [] (by kernel_rfl) rfl (Rg.Stabs.pick ⟨Rg.stab_eq _, Rg.stab_eq _, trivial⟩) (OwnG.begin (unhide HO))
        (Rg.steps_cons (Rg.plain rfl (s_move rfl (Rg.argF (by kernel_rfl) rfl)))
          (Rg.steps_cons (Rg.plain rfl (s_neqE rfl (Rg.argT 0 (by kernel_rfl)) (Rg.argC _) rfl k2))
          Rg.steps_nil)) ?_
      intro v4 V4 hG4 hv4 hne4
      simp only [Rg.puts, List.take_succ_cons, List.take_zero, List.drop_succ_cons, List.drop_zero, Act.put, List.setIfInBounds_toArray, List.set_cons_zero, List.set_cons_succ]
      have e0 : v4 0 = .int .i64 (Wd.told (((Wd.qR xa1 xb1) + (Wd.qR xc1 xd1)) / Rat.divInt 2 1)).e := hv4 0 (by decide)
      have e1 : v4 1 = .bool true := hv4 1 (by decide)
      simp only [e0, e1]
      have hO := hG4.1
      clear HO
      have HO := hide hO
      clear hO hG4 hv4 hne4
      try clear e0 e1
      go_upto_region 6 with fail
      refine Rg.regionS 3 35 (Rg.pick [AggT [.v (.int .i64 0), .v (.int .i64 0), .v (.int .i64 0), .v (.int .i64 0)], AggT [.v (.int .i64 0), .v (.int .i64 0), .v (.int .i64 0), .v (.int .i64 0)], Rg.EqT (.int .i64 (Wd.told (((Wd.qR xa1 xb1) + (Wd.qR xc1 xd1)) / Rat.divInt 2 1)).e)]) (OwnG w [(b3_7, 23, [.v (.int .i64 (Wd.told (((Wd.qR xa1 xb1) + (Wd.qR xc1 xd1)) / Rat.divInt 2 1)).n), .v (.int .i64 (Wd.told (((Wd.qR xa1 xb1) + (Wd.qR xc1 xd1)) / Rat.divInt 2 1)).d)]), (w.heap.size + 2, 35, [.v (.int .i64 0), .v (.int .i64 0), .v (.int .i64 0), .v (.int .i64 0)]), (w.heap.size + 1, 35, [.v (.int .i64 0), .v (.int .i64 0), .v (.int .i64 0), .v (.int .i64 0)]), (w.heap.size, 35, [.v (.int .i64 xa1), .v (.int .i64 xb1), .v (.int .i64 xc1), .v (.int .i64 xd1)])] V4) Bel [] (by kernel_rfl) rfl (Rg.Stabs.pick ⟨stab_agg _, stab_agg _, Rg.stab_eq _, trivial⟩) (OwnG.begin (unhide HO))
        (Rg.steps_cons (Rg.plain rfl (s_build0 build0_s rfl rfl rfl))
          (Rg.steps_cons (Rg.plain rfl (s_build0 build0_s rfl rfl rfl))
          (Rg.steps_cons (Rg.plain rfl (s_move rfl (Rg.argF (by kernel_rfl) rfl)))
          Rg.steps_nil))) ?_
      intro v5 V5 hG5 hv5 hne5
      simp only [Rg.puts, List.take_succ_cons, List.take_zero, List.drop_succ_cons, List.drop_zero, Act.put, List.setIfInBounds_toArray, List.set_cons_zero, List.set_cons_succ]
      have e2 : v5 2 = .int .i64 (Wd.told (((Wd.qR xa1 xb1) + (Wd.qR xc1 xd1)) / Rat.divInt 2 1)).e := hv5 2 (by decide)
      simp only [e2]
      have hO := hG5.1
      refine tl_store (xs := [(b3_7, 23, [.v (.int .i64 (Wd.told (((Wd.qR xa1 xb1) + (Wd.qR xc1 xd1)) / Rat.divInt 2 1)).n), .v (.int .i64 (Wd.told (((Wd.qR xa1 xb1) + (Wd.qR xc1 xd1)) / Rat.divInt 2 1)).d)]), (w.heap.size + 2, 35, [.v (.int .i64 0), .v (.int .i64 0), .v (.int .i64 0), .v (.int .i64 0)])]) (ys := [(w.heap.size, 35, [.v (.int .i64 xa1), .v (.int .i64 xb1), .v (.int .i64 xc1), .v (.int .i64 xd1)])]) (pre := []) (old := [.v (.int .i64 0), .v (.int .i64 0), .v (.int .i64 0), .v (.int .i64 0)]) (new := [.v (.int .i64 0), .v (.int .i64 0), .v (.int .i64 0), .v (.int .i64 0)]) (post := []) (b := w.heap.size + 1) (off := 0) store_s rfl (show AggT [.v (.int .i64 0), .v (.int .i64 0), .v (.int .i64 0), .v (.int .i64 0)] V5 (v5 0) from hv5 0 (by decide)) hO rfl rfl rfl ?_
      intro U5_0 hO0 hk0
      replace hO : Own w [(b3_7, 23, [.v (.int .i64 (Wd.told (((Wd.qR xa1 xb1) + (Wd.qR xc1 xd1)) / Rat.divInt 2 1)).n), .v (.int .i64 (Wd.told (((Wd.qR xa1 xb1) + (Wd.qR xc1 xd1)) / Rat.divInt 2 1)).d)]), (w.heap.size + 2, 35, [.v (.int .i64 0), .v (.int .i64 0), .v (.int .i64 0), .v (.int .i64 0)]), (w.heap.size + 1, 35, [.v (.int .i64 0), .v (.int .i64 0), .v (.int .i64 0), .v (.int .i64 0)]), (w.heap.size, 35, [.v (.int .i64 xa1), .v (.int .i64 xb1), .v (.int .i64 xc1), .v (.int .i64 xd1)])] U5_0 := hO0
      clear hO0
      refine tl_store (xs := [(b3_7, 23, [.v (.int .i64 (Wd.told (((Wd.qR xa1 xb1) + (Wd.qR xc1 xd1)) / Rat.divInt 2 1)).n), .v (.int .i64 (Wd.told (((Wd.qR xa1 xb1) + (Wd.qR xc1 xd1)) / Rat.divInt 2 1)).d)])]) (ys := [(w.heap.size + 1, 35, [.v (.int .i64 0), .v (.int .i64 0), .v (.int .i64 0), .v (.int .i64 0)]), (w.heap.size, 35, [.v (.int .i64 xa1), .v (.int .i64 xb1), .v (.int .i64 xc1), .v (.int .i64 xd1)])]) (pre := []) (old := [.v (.int .i64 0), .v (.int .i64 0), .v (.int .i64 0), .v (.int .i64 0)]) (new := [.v (.int .i64 0), .v (.int .i64 0), .v (.int .i64 0), .v (.int .i64 0)]) (post := []) (b := w.heap.size + 2) (off := 0) store_s rfl (hk0 _ _ (show AggT [.v (.int .i64 0), .v (.int .i64 0), .v (.int .i64 0), .v (.int .i64 0)] V5 (v5 1) from hv5 1 (by decide))) hO rfl rfl rfl ?_
      intro U5_1 hO1 hk1
      replace hO : Own w [(b3_7, 23, [.v (.int .i64 (Wd.told (((Wd.qR xa1 xb1) + (Wd.qR xc1 xd1)) / Rat.divInt 2 1)).n), .v (.int .i64 (Wd.told (((Wd.qR xa1 xb1) + (Wd.qR xc1 xd1)) / Rat.divInt 2 1)).d)]), (w.heap.size + 2, 35, [.v (.int .i64 0), .v (.int .i64 0), .v (.int .i64 0), .v (.int .i64 0)]), (w.heap.size + 1, 35, [.v (.int .i64 0), .v (.int .i64 0), .v (.int .i64 0), .v (.int .i64 0)]), (w.heap.size, 35, [.v (.int .i64 xa1), .v (.int .i64 xb1), .v (.int .i64 xc1), .v (.int .i64 xd1)])] U5_1 := hO1
      clear hO1
      clear HO
      have HO := hide hO
      clear hO hG5 hv5 hne5 hk0 hk1
      try clear e2
      go_wp2_with fail
      exact end_cct Tryd.results17 loadv_s loadv_s rfl rfl rfl (unhide HO) (List.Mem.tail _ (List.Mem.tail _ (List.Mem.head _))) (List.Mem.tail _ (List.Mem.head _)) rfl rfl rfl
  · have k1 : (valS xa1 xb1 xc1 xd1 != 0) = true := by simp [bne, beq_eq_false_iff_ne.2 g0]
    obtain ⟨rfl, rfl, rfl, rfl, rfl, rfl, rfl, rfl, hz⟩ := (unhide HR).1 g0
    clear HR
    subst hz
    go_upto_region 2 with fail
    refine Rg.regionS 2 35 (Rg.pick [Rg.EqT (.int .i64 (valS xa1 xb1 xc1 xd1)), Rg.EqT (.bool true)]) (OwnG w [(w.heap.size + 2, 35, [.v (.int .i64 0), .v (.int .i64 0), .v (.int .i64 0), .v (.int .i64 0)]), (w.heap.size + 1, 35, [.v (.int .i64 0), .v (.int .i64 0), .v (.int .i64 0), .v (.int .i64 0)]), (w.heap.size, 35, [.v (.int .i64 xa1), .v (.int .i64 xb1), .v (.int .i64 xc1), .v (.int .i64 xd1)])] V1) Bel [] (by kernel_rfl) rfl (Rg.Stabs.pick ⟨Rg.stab_eq _, Rg.stab_eq _, trivial⟩) (OwnG.begin (unhide HO))
      (Rg.steps_cons (Rg.plain rfl (s_move rfl (Rg.argF (by kernel_rfl) rfl)))
        (Rg.steps_cons (Rg.plain rfl (s_neqE rfl (Rg.argT 0 (by kernel_rfl)) (Rg.argC _) rfl k1))
        Rg.steps_nil)) ?_
    intro v2 V2 hG2 hv2 hne2
    simp only [Rg.puts, List.take_succ_cons, List.take_zero, List.drop_succ_cons, List.drop_zero, Act.put, List.setIfInBounds_toArray, List.set_cons_zero, List.set_cons_succ]
    have e0 : v2 0 = .int .i64 (valS xa1 xb1 xc1 xd1) := hv2 0 (by decide)
    have e1 : v2 1 = .bool true := hv2 1 (by decide)
    simp only [e0, e1]
    have hO := hG2.1
    clear HO
    have HO := hide hO
    clear hO hG2 hv2 hne2
    try clear e0 e1
    go_upto_region 3 with fail
    refine Rg.regionS 3 35 (Rg.pick [AggT [.v (.int .i64 0), .v (.int .i64 0), .v (.int .i64 0), .v (.int .i64 0)], AggT [.v (.int .i64 0), .v (.int .i64 0), .v (.int .i64 0), .v (.int .i64 0)], Rg.EqT (.int .i64 (valS xa1 xb1 xc1 xd1))]) (OwnG w [(w.heap.size + 2, 35, [.v (.int .i64 0), .v (.int .i64 0), .v (.int .i64 0), .v (.int .i64 0)]), (w.heap.size + 1, 35, [.v (.int .i64 0), .v (.int .i64 0), .v (.int .i64 0), .v (.int .i64 0)]), (w.heap.size, 35, [.v (.int .i64 xa1), .v (.int .i64 xb1), .v (.int .i64 xc1), .v (.int .i64 xd1)])] V2) Bel [] (by kernel_rfl) rfl (Rg.Stabs.pick ⟨stab_agg _, stab_agg _, Rg.stab_eq _, trivial⟩) (OwnG.begin (unhide HO))
      (Rg.steps_cons (Rg.plain rfl (s_build0 build0_s rfl rfl rfl))
        (Rg.steps_cons (Rg.plain rfl (s_build0 build0_s rfl rfl rfl))
        (Rg.steps_cons (Rg.plain rfl (s_move rfl (Rg.argF (by kernel_rfl) rfl)))
        Rg.steps_nil))) ?_
    intro v3 V3 hG3 hv3 hne3
    simp only [Rg.puts, List.take_succ_cons, List.take_zero, List.drop_succ_cons, List.drop_zero, Act.put, List.setIfInBounds_toArray, List.set_cons_zero, List.set_cons_succ]
    have e2 : v3 2 = .int .i64 (valS xa1 xb1 xc1 xd1) := hv3 2 (by decide)
    simp only [e2]
    have hO := hG3.1
    refine tl_store (xs := [(w.heap.size + 2, 35, [.v (.int .i64 0), .v (.int .i64 0), .v (.int .i64 0), .v (.int .i64 0)])]) (ys := [(w.heap.size, 35, [.v (.int .i64 xa1), .v (.int .i64 xb1), .v (.int .i64 xc1), .v (.int .i64 xd1)])]) (pre := []) (old := [.v (.int .i64 0), .v (.int .i64 0), .v (.int .i64 0), .v (.int .i64 0)]) (new := [.v (.int .i64 0), .v (.int .i64 0), .v (.int .i64 0), .v (.int .i64 0)]) (post := []) (b := w.heap.size + 1) (off := 0) store_s rfl (show AggT [.v (.int .i64 0), .v (.int .i64 0), .v (.int .i64 0), .v (.int .i64 0)] V3 (v3 0) from hv3 0 (by decide)) hO rfl rfl rfl ?_
    intro U3_0 hO0 hk0
    replace hO : Own w [(w.heap.size + 2, 35, [.v (.int .i64 0), .v (.int .i64 0), .v (.int .i64 0), .v (.int .i64 0)]), (w.heap.size + 1, 35, [.v (.int .i64 0), .v (.int .i64 0), .v (.int .i64 0), .v (.int .i64 0)]), (w.heap.size, 35, [.v (.int .i64 xa1), .v (.int .i64 xb1), .v (.int .i64 xc1), .v (.int .i64 xd1)])] U3_0 := hO0
    clear hO0
    refine tl_store (xs := []) (ys := [(w.heap.size + 1, 35, [.v (.int .i64 0), .v (.int .i64 0), .v (.int .i64 0), .v (.int .i64 0)]), (w.heap.size, 35, [.v (.int .i64 xa1), .v (.int .i64 xb1), .v (.int .i64 xc1), .v (.int .i64 xd1)])]) (pre := []) (old := [.v (.int .i64 0), .v (.int .i64 0), .v (.int .i64 0), .v (.int .i64 0)]) (new := [.v (.int .i64 0), .v (.int .i64 0), .v (.int .i64 0), .v (.int .i64 0)]) (post := []) (b := w.heap.size + 2) (off := 0) store_s rfl (hk0 _ _ (show AggT [.v (.int .i64 0), .v (.int .i64 0), .v (.int .i64 0), .v (.int .i64 0)] V3 (v3 1) from hv3 1 (by decide))) hO rfl rfl rfl ?_
    intro U3_1 hO1 hk1
    replace hO : Own w [(w.heap.size + 2, 35, [.v (.int .i64 0), .v (.int .i64 0), .v (.int .i64 0), .v (.int .i64 0)]), (w.heap.size + 1, 35, [.v (.int .i64 0), .v (.int .i64 0), .v (.int .i64 0), .v (.int .i64 0)]), (w.heap.size, 35, [.v (.int .i64 xa1), .v (.int .i64 xb1), .v (.int .i64 xc1), .v (.int .i64 xd1)])] U3_1 := hO1
    clear hO1
    clear HO
    have HO := hide hO
    clear hO hG3 hv3 hne3 hk0 hk1
    try clear e2
    go_wp2_with fail
    exact end_cct Tryd.results17 loadv_s loadv_s rfl rfl rfl (unhide HO) (List.Mem.tail _ (List.Mem.head _)) (List.Mem.head _) rfl rfl rfl
end Sb

end Go.Proofs.YtfbcdfoohpkfeaaDoor
/- The law of a region that draws its order, with stores among its operations: what is told of a store speaks of the slot that holds its address. -/
namespace Go.Proofs.YtfbcdfoohpkfeaaDoor
namespace Rg

def slB (l : List Oper) (n : Nat) (sl : Nat → Tmp) : Bool := (List.range n).all fun k => (dstOf l k).isSome || (List.range n).any fun j => waits l k j (sl k)
def Step3 (P : Program) (Q : Exit → Act → World → Prop) (l : List Oper) (n : Nat) (sl : Nat → Tmp) (T : Nat → World → Value → Prop) (G : World → Prop) (E : World → World → Prop) (a0 : Act) (k : Nat) (o : Oper) : Prop :=
  o.guard = none ∧ ∀ (a : Act) (w : World), G w → (∀ t, freeT l n t = true → a.tmps.getD t undef = a0.tmps.getD t undef) → (∀ j d, waits l k j d = true → T j w (a.tmps.getD d undef)) →
    o.wp P a w (fun a' w' => ∃ v, a' = a.put o.dst v ∧ G w' ∧ E w w' ∧ T k w' v ∧ (o.dst = none → v = a.tmps.getD (sl k) undef)) Q
def Steps3 (P : Program) (Q : Exit → Act → World → Prop) (l : List Oper) (n : Nat) (sl : Nat → Tmp) (T : Nat → World → Value → Prop) (G : World → Prop) (E : World → World → Prop) (a0 : Act) : Nat → List Oper → Prop
  | _, [] => True
  | k, o :: r => Step3 P Q l n sl T G E a0 k o ∧ Steps3 P Q l n sl T G E a0 (k + 1) r
section
variable {P : Program} {Q : Exit → Act → World → Prop} {l : List Oper} {n sz : Nat} {sl : Nat → Tmp} {T : Nat → World → Value → Prop} {G : World → Prop} {E : World → World → Prop} {a0 : Act}
theorem steps3_cons {k : Nat} {o : Oper} {r : List Oper} (h : Step3 P Q l n sl T G E a0 k o) (hr : Steps3 P Q l n sl T G E a0 (k + 1) r) : Steps3 P Q l n sl T G E a0 k (o :: r) := ⟨h, hr⟩
theorem steps3_nil {k : Nat} : Steps3 P Q l n sl T G E a0 k [] := trivial
theorem step3_of {k : Nat} {o : Oper} (hg : o.guard = none) (hd : o.dst.isSome = true) (h : Step P Q l n T G E [] a0 k o) : Step3 P Q l n sl T G E a0 k o :=
  ⟨hg, fun a w hG hO hN => Oper.wp_mono (fun a' w' hK => by
    obtain ⟨v, h1, h2, h3, h4, _⟩ := hK
    exact ⟨v, h1, h2, h3, h4, fun e => by rw [e] at hd; cases hd⟩) (h a w hG hO hN)⟩
theorem Steps3.get : ∀ {r : List Oper} {k : Nat}, Steps3 P Q l n sl T G E a0 k r → ∀ {i : Nat} {o : Oper}, r[i]? = some o → Step3 P Q l n sl T G E a0 (k + i) o
  | [], _, _, i, o, h => by simp at h
  | o' :: r, k, hs, 0, o, h => by
    have : o' = o := by simpa using h
    subst this; exact hs.1
  | o' :: r, k, hs, i + 1, o, h => by
    have := Steps3.get hs.2 (i := i) (o := o) (by simpa using h)
    rwa [show k + 1 + i = k + (i + 1) by omega] at this
/-- What is told of those operations of the first n that have come up (S). -/
structure TG (l : List Oper) (n : Nat) (sl : Nat → Tmp) (T : Nat → World → Value → Prop) (G : World → Prop) (a0 : Act) (S : Nat → Prop) (a : Act) (w : World) : Prop where
  defers : a.defers = a0.defers
  size : a.tmps.size = a0.tmps.size
  old : ∀ t, freeT l n t = true → a.tmps.getD t undef = a0.tmps.getD t undef
  new : ∀ k d, k < n → S k → dstOf l k = some d → T k w (a.tmps.getD d undef)
  nod : ∀ k, k < n → S k → dstOf l k = none → T k w (a.tmps.getD (sl k) undef)
  cl : ∀ k j d, k < n → S k → waits l k j d = true → S j
  good : G w
theorem TG.finish {a : Act} {w : World} (hsz : a0.tmps.size = sz) (hds : ∀ i j d, i < n → j < n → dstOf l i = some d → dstOf l j = some d → d < sz ∧ j = i)
    {S : Nat → Prop} (hall : ∀ k, k < n → S k) (inv : TG l n sl T G a0 S a w) : ∃ v : Nat → Value, a = puts v 0 (l.take n) a0 ∧ (∀ k, k < n → T k w (v k)) ∧ ∀ k j, k < n → j < n → dstOf l k = none → dstOf l j = some (sl k) → v k = v j := by
  have hv : ∃ v : Nat → Value, (∀ k d, dstOf l k = some d → v k = a.tmps.getD d undef) ∧ ∀ k, dstOf l k = none → v k = a.tmps.getD (sl k) undef :=
    ⟨fun k => match dstOf l k with | some d => a.tmps.getD d undef | none => a.tmps.getD (sl k) undef, fun k d h => by simp only [h], fun k h => by simp only [h]⟩
  obtain ⟨v, hv1, hv2⟩ := hv
  refine ⟨v, ?_, fun k hk => ?_, fun k j hk hj h1 h2 => by rw [hv2 k h1, hv1 j _ h2]⟩
  rotate_left
  · cases hd : dstOf l k with
    | none => rw [hv2 k hd]; exact inv.nod k hk (hall k hk) hd
    | some d => rw [hv1 k d hd]; exact inv.new k d hk (hall k hk) hd
  refine act_ext (by rw [inv.defers, puts_defers]) (by rw [inv.size, puts_size]) (fun t => ?_)
  by_cases ht : ∃ k, k < n ∧ dstOf l k = some t
  · obtain ⟨k, hk, hkt⟩ := ht
    have hdt : ∀ j, dstOf (l.take n) j = some t → j = k := fun j hj => (hds k j t hk (dst_take hj).1 hkt (dst_take hj).2).2
    rw [puts_new v t (l.take n) 0 k a0 (by unfold dstOf at hkt ⊢; rwa [List.getElem?_take_of_lt hk]) hdt (by rw [hsz]; exact (hds k k t hk hk hkt hkt).1), Nat.zero_add]
    exact (hv1 k t hkt).symm
  · have hf : freeT l n t = true := List.all_eq_true.2 (fun o ho => by
      obtain ⟨k, hk⟩ := List.getElem?_of_mem ho
      have hkn : k < n := by
        rcases Nat.lt_or_ge k n with h | h
        · exact h
        · rw [List.getElem?_eq_none (by simp; omega)] at hk; cases hk
      rw [List.getElem?_take_of_lt hkn] at hk
      simp only [bne_iff_ne]
      intro h
      exact ht ⟨k, hkn, by unfold dstOf; rw [hk]; exact h⟩)
    rw [inv.old t hf, puts_old v t (l.take n) 0 a0 (fun j hj => ht ⟨j, dst_take hj⟩)]
theorem TG.step {a : Act} {w w2 : World} {S : Nat → Prop} {i : Nat} {o : Oper} {v : Value} (hsz : a0.tmps.size = sz) (hds : ∀ i j d, i < n → j < n → dstOf l i = some d → dstOf l j = some d → d < sz ∧ j = i)
    (hsl : ∀ k, k < n → dstOf l k = none → ∃ j, j < n ∧ waits l k j (sl k) = true) (hT : ∀ k w w' v, E w w' → T k w v → T k w' v) (inv : TG l n sl T G a0 S a w) (hin : i < n) (ho : l[i]? = some o) (hnS : ¬ S i) (hwt : ∀ j d, waits l i j d = true → S j) (hG : G w2) (hE : E w w2) (hTk : T i w2 v) (hno : o.dst = none → v = a.tmps.getD (sl i) undef) :
    TG l n sl T G a0 (fun k => k = i ∨ S k) (a.put o.dst v) w2 := by
  have hdi : dstOf l i = o.dst := by unfold dstOf; rw [ho]; rfl
  refine ⟨by rw [put_defers]; exact inv.defers, by rw [put_size]; exact inv.size, fun t ht => ?_, fun k d hk hl hd => ?_, fun k hk hl hd => ?_, fun k j d hk hl hw => ?_, hG⟩
  · rw [put_old _ _ _ _ (freeT_ne ht hin ho)]; exact inv.old t ht
  · by_cases hki : k = i
    · subst hki
      rw [hdi] at hd
      rw [hd, put_new _ _ _ (by rw [inv.size, hsz]; exact (hds k k d hk hk (by rw [hdi]; exact hd) (by rw [hdi]; exact hd)).1)]
      exact hTk
    · rw [put_old _ _ _ _ (fun h => hki ((hds i k d hin hk (by rw [hdi]; exact h) hd).2))]
      exact hT k w w2 _ hE (inv.new k d hk (hl.resolve_left hki) hd)
  · by_cases hki : k = i
    · subst hki
      have hon : o.dst = none := by rw [← hdi]; exact hd
      rw [hon, show (a.put none v) = a from rfl, ← hno hon]
      exact hTk
    · have hSk := hl.resolve_left hki
      obtain ⟨j, hj, hw⟩ := hsl k hk hd
      have hSj := inv.cl k j _ hk hSk hw
      have hji : j ≠ i := fun e => hnS (e ▸ hSj)
      rw [put_old _ _ _ _ (fun h => hji ((hds i j _ hin hj (by rw [hdi]; exact h) (waits_dst hw)).2))]
      exact hT k w w2 _ hE (inv.nod k hk hSk hd)
  · by_cases hki : k = i
    · subst hki; exact .inr (hwt j d hw)
    · exact .inr (inv.cl k j d hk (hl.resolve_left hki) hw)
theorem TG.mono {a : Act} {w : World} {S S' : Nat → Prop} (inv : TG l n sl T G a0 S a w) (h : ∀ k, k < n → (S' k ↔ S k)) (hb : ∀ k j d, k < n → waits l k j d = true → j < n) : TG l n sl T G a0 S' a w :=
  ⟨inv.defers, inv.size, inv.old, fun k d hk hs hd => inv.new k d hk ((h k hk).1 hs) hd, fun k hk hs hd => inv.nod k hk ((h k hk).1 hs) hd, fun k j d hk hs hw => (h j (hb k j d hk hw)).2 (inv.cl k j d hk ((h k hk).1 hs) hw), inv.good⟩
end
/-- A region that draws its order, with stores among its operations. -/
theorem region3 {P : Program} {id : Nat} {Q : Exit → Act → World → Prop} {a : Act} {w : World} {l : List Oper} (n sz : Nat) (sl : Nat → Tmp) (T : Nat → World → Value → Prop) (G : World → Prop) (E : World → World → Prop)
    (hm : P.follows .mixedOrders = true) (hB : okB l n sz = true) (hS1 : slB l n sl = true) (hsz : a.tmps.size = sz)
    (hT : ∀ k w w' v, E w w' → T k w v → T k w' v) (hG : G w.drew)
    (hS : Steps3 P Q l n sl T G E a 0 (l.take n))
    (hend : ∀ (v : Nat → Value) (w' : World), G w' → (∀ k, k < n → T k w' (v k)) → (∀ k j, k < n → j < n → dstOf l k = none → dstOf l j = some (sl k) → v k = v j) → wpList P l.toArray Q (l.drop n) (puts v 0 (l.take n) a) w') :
    (Code.region id l.toArray true).wp P Q a w := by
  simp only [okB, Bool.and_eq_true, Bool.or_eq_true, decide_eq_true_eq] at hB
  obtain ⟨⟨⟨⟨hn, hsink⟩, hback⟩, hdist⟩, hseq⟩ := hB
  have hget : ∀ k, k < n → ∃ o, l[k]? = some o := fun k hk => ⟨l[k]'(by omega), List.getElem?_eq_getElem (by omega)⟩
  have hbk := backB_spec hback
  have hds := distB_spec hdist
  have hsl : ∀ k, k < n → dstOf l k = none → ∃ j, j < n ∧ waits l k j (sl k) = true := fun k hk hd => by
    have h1 := List.all_eq_true.1 hS1 k (List.mem_range.2 hk)
    simp only [hd, Option.isSome_none, Bool.false_or, List.any_eq_true, List.mem_range] at h1
    exact h1
  have hwb : ∀ k j d, k < n → waits l k j d = true → j < n := fun k j d hk hw => by
    simp only [waits, Bool.and_eq_true, beq_iff_eq] at hw
    obtain ⟨oj, hoj, e, he, hb, hon⟩ := Region.waitsFor_spec hw.1
    have := hbk k oj hk (by simpa using hoj) e he hb
    omega
  refine wp_region_any hm ?_
  have key : ∀ (f : Nat) (L : Array Bool) (a' : Act) (w' : World), HeadInv .any l.toArray n L → TG l n sl T G a (fun k => L.getD k false = true) a' w' → cnt L n = f → wpAny P .any l.toArray Q (f + (l.length - n)) L a' w' := by
    intro f
    induction f with
    | zero =>
      intro L a' w' head inv hc
      have hall := cnt_zero hc
      have hL : L = full n (l.length - n) := by
        have hs := head.size
        refine Array.ext (by simp [full, hs]; omega) (fun i h1 h2 => ?_)
        by_cases hi : i < n
        · have g := hall i hi
          simp [h1] at g
          simp [full, hi, g]
        · have g := head.tail i (by omega) (by rw [← hs]; exact h1)
          simp [h1] at g
          simp [full, Array.getElem_append, hi, g]
      obtain ⟨v, he, hv, hvn⟩ := inv.finish hsz hds (fun k hk => by rw [hL]; simp [full, Array.getElem?_append, hk])
      rw [he, Nat.zero_add]
      have hlen : (l.drop n).length = l.length - n := by simp
      rw [← hlen]
      exact wpAny_of_seq (md := .any) (ops := l.toArray) (Q' := Q) (l.drop n) n L _ w' (fun j => by simp [List.getElem?_drop]) (by rw [hlen, hL]; exact hseq)
        (hend v w' inv.good hv hvn)
    | succ f ih =>
      intro L a' w' head inv hc
      obtain ⟨i0, hi0, hun0, hle0⟩ := cnt_pos (L := L) (m := n) (by omega)
      have hLs : L.size = l.length := by rw [head.size]; simp
      rw [show f + 1 + (l.length - n) = (f + (l.length - n)) + 1 by omega]
      refine ⟨fun hr => ?_, fun i hi => ?_⟩
      · exfalso
        obtain ⟨o, ho⟩ := hget i0 hi0
        have : i0 ∈ Region.ready .any l.toArray L := mem_ready.2 ⟨hun0, o, by simpa using ho, fun e he hb => by
          have hlt := hbk i0 o hi0 ho e he hb
          have h1 := hle0 e.on hlt
          simp [show e.on < L.size by rw [hLs]; omega] at h1
          simp [show e.on < L.size by rw [hLs]; omega, h1]⟩
        rw [hr] at this; cases this
      · obtain ⟨hun, o, ho, hwait⟩ := mem_ready.1 hi
        have ho' : l[i]? = some o := by simpa using ho
        have hil : i < l.length := by
          have := (Array.getElem?_eq_some_iff.1 ho).1
          simpa using this
        have hin : i < n := by
          rcases Nat.lt_or_ge i n with h | h
          · exact h
          · exfalso
            rcases hsink with he | ⟨hs, hch⟩
            · omega
            · exact tail_waits hs hch (by simp only [List.size_toArray]; omega) head _ i0 rfl hi0 hun0 i h hi
        have hst := hS.get (i := i) (o := o) (by rw [List.getElem?_take_of_lt hin]; exact ho')
        rw [Nat.zero_add] at hst
        have hdone : ∀ j d, waits l i j d = true → L.getD j false = true := fun j d hjd => by
          simp only [waits, Bool.and_eq_true, beq_iff_eq] at hjd
          obtain ⟨oj, hoj, e, he, hb, hon⟩ := Region.waitsFor_spec hjd.1
          have : oj = o := Option.some.inj (hoj.symm.trans ho)
          subst this
          have hlj := hwait e he hb
          rwa [hon] at hlj
        have hw := hst.2 a' w' inv.good inv.old (fun j d hjd => inv.new j d (hwb i j d hin hjd) (hdone j d hjd) (waits_dst hjd))
        have hnS : ¬ L.getD i false = true := fun h => by rw [getD_both hun] at h; cases h
        have go : ∀ v w2, G w2 → E w' w2 → T i w2 v → (o.dst = none → v = a'.tmps.getD (sl i) undef) → wpAny P .any l.toArray Q (f + (l.length - n)) (L.setIfInBounds i true) (a'.put o.dst v) w2 := by
          intro v w2 hg2 hE hTk hno
          refine ih (L.setIfInBounds i true) _ w2 (head.set hi hin) ((inv.step hsz hds hsl hT hin ho' hnS hdone hg2 hE hTk hno).mono (fun k hk => ?_) hwb) (by have := cnt_set hun (m := n) hin; omega)
          by_cases hki : k = i
          · subst hki
            exact ⟨fun _ => .inl rfl, fun _ => by simp [show k < L.size by rw [hLs]; omega]⟩
          · rw [getD_set_ne false (Ne.symm hki)]
            exact ⟨fun h => .inr h, fun h => h.resolve_left hki⟩
        unfold wpOp
        simp only [ho]
        split
        · refine .inl (Oper.wp_mono (fun a2 w2 hK => ?_) hw)
          obtain ⟨v, rfl, hg2, hE, hTk, hno⟩ := hK
          exact go v w2 hg2 hE hTk hno
        · rename_i hwd
          exact absurd (by simp [Region.wanted, hst.1]) hwd
  have h0 := key n (Array.replicate l.length false) a w.drew
    ⟨by simp, fun j oj _ hl => (by rw [getD_replicate_false] at hl; cases hl), fun t _ ht => getD_in (by simpa using ht) (getD_replicate_false _ _)⟩
    ⟨rfl, rfl, fun _ _ => rfl, fun k d _ hs _ => (by rw [getD_replicate_false] at hs; cases hs), fun k _ hs _ => (by rw [getD_replicate_false] at hs; cases hs), fun k j d _ hs _ => (by rw [getD_replicate_false] at hs; cases hs), hG⟩ (cnt_rep _ hn)
  rw [show n + (l.length - n) = l.length by omega] at h0
  have hsz2 : l.toArray.size = l.length := by simp
  rw [hsz2]
  exact h0
end Rg
end Go.Proofs.YtfbcdfoohpkfeaaDoor
/- A region that draws its order and fills one new block. -/
namespace Go.Proofs.YtfbcdfoohpkfeaaDoor
open Go.RowKit

namespace Sb
/-- The blocks stay as they are, or a new block is filled. -/
def EN (B : Nat) (TB : TypeId) (new : List Leaf) (w w' : World) : Prop := Bel w w' ∨ ∃ (b : Nat) (us cs : List Value), B ≤ b ∧ LOk w new us ∧ w.heap[b]? = some (.cells cs.toArray TB (0, 0)) ∧ NoWL cs ∧ us.length = cs.length ∧ w' = setM w b 0 us
theorem stabN_eq {B : Nat} {TB : TypeId} {new : List Leaf} (c : Value) : Rg.Stab (EN B TB new) (Rg.EqT c) := fun _ _ _ _ h => h
theorem stabN_agg {B : Nat} {TB : TypeId} {new : List Leaf} (ls : List Leaf) : Rg.Stab (EN B TB new) (AggT ls) := by
  rintro w w' v (hb | ⟨b, us, cs, _, h1, h2, h3, h4, rfl⟩) h
  · exact stab_agg ls _ _ _ hb h
  · obtain ⟨ds, rfl, h⟩ := h
    exact ⟨ds, rfl, h.upto h2 h3.arr (setM_grown b us 0 w w (grown_refl _ _))⟩
theorem stabN_tup {B : Nat} {TB : TypeId} {new : List Leaf} {ts : List (World → Value → Prop)} (hs : Rg.Stabs (EN B TB new) ts) : Rg.Stab (EN B TB new) (TupT ts) := by
  rintro w w' v hb ⟨vs, rfl, h⟩
  exact ⟨vs, rfl, h.stab hb hs⟩
/-- A new block, filled or not. -/
def NewX (T : TypeId) (m : Nat) (B : Nat) : World → Value → Prop := fun W v => ∃ b, v = .pointer (some ⟨b, 0, none⟩) ∧ B ≤ b ∧ ∃ cs : List Value, W.heap[b]? = some (.cells cs.toArray T (0, 0)) ∧ NoWL cs ∧ cs.length = m
theorem stabN_newx {B B' m : Nat} {TB T : TypeId} {new : List Leaf} : Rg.Stab (EN B TB new) (NewX T m B') := by
  rintro w w' v (hb | ⟨b, us, cs, _, h1, h2, h3, h4, rfl⟩) ⟨c, rfl, h5, ds, h6, h7, h8⟩
  · exact ⟨c, rfl, h5, ds, (hb.block _ (lt_of_block h6)).trans h6, h7, h8⟩
  · refine ⟨c, rfl, h5, ?_⟩
    by_cases hbc : c = b
    · subst hbc
      rw [h6] at h2
      have h9 := Option.some.inj h2
      injection h9 with e1 e2 e3
      subst e2
      have e4 : ds = cs := by simpa using e1
      subst e4
      exact ⟨us, setM_whole h6 h4, h1.noW, by rw [h4, h8]⟩
    · exact ⟨ds, ((setM_grown b us 0 w w (grown_refl _ _)).block c (lt_of_block h6) (fun x => hbc (by injection x))).trans h6, h7, h8⟩
/-- A new block that is filled. -/
def FilT (TB : TypeId) (new : List Leaf) (B : Nat) : World → Value → Prop := fun W v => ∃ b, v = .pointer (some ⟨b, 0, none⟩) ∧ B ≤ b ∧ BoxL W b TB new
theorem stabN_fil {B B' : Nat} {TB : TypeId} {new : List Leaf} : Rg.Stab (EN B TB new) (FilT TB new B') := by
  rintro w w' v (hb | ⟨b, us, cs, _, h1, h2, h3, h4, rfl⟩) ⟨c, rfl, h5, ds, h6, h7⟩
  · exact ⟨c, rfl, h5, BoxL.below ⟨ds, h6, h7⟩ hb⟩
  · refine ⟨c, rfl, h5, ?_⟩
    have hg := setM_grown b us 0 w w (grown_refl _ _)
    by_cases hbc : c = b
    · subst hbc
      exact ⟨us, setM_whole h2 h4, h1.upto h2 h3.arr hg⟩
    · exact ⟨ds, (hg.block c (lt_of_block h6) (fun x => hbc (by injection x))).trans h6, h7.upto h2 h3.arr hg⟩
theorem step_monoN {P : Program} {Q : Exit → Act → World → Prop} {l : List Oper} {n : Nat} {T : Nat → World → Value → Prop} {G : World → Prop} {B : Nat} {TB : TypeId} {new : List Leaf} {al : List Nat} {a0 : Act} {k : Nat} {o : Oper} (h : Rg.Step P Q l n T G Bel al a0 k o) : Rg.Step P Q l n T G (EN B TB new) al a0 k o := by
  intro a w hG hO hN
  refine Oper.wp_mono (fun a' w' hK => ?_) (h a w hG hO hN)
  obtain ⟨v, h1, h2, h3, h4, h5⟩ := hK
  exact ⟨v, h1, h2, .inl h3, h4, h5⟩
theorem s_allocX {P : Program} {Q : Exit → Act → World → Prop} {l : List Oper} {n : Nat} {T : Nat → World → Value → Prop} {G : World → Prop} {a0 : Act} {k d B m : Nat} {TL : TypeId} {cs : List Value} {ty : TypeId} {pos : String} {af : Array Edge} {gd : Option (Nat × Bool)} (hN : NewOk P TL cs) (hw : cs.all okV = true) (hm : cs.length = m)
    (hGs : ∀ W W', G W → Bel W W' → G W') (hB : ∀ W, G W → B ≤ W.heap.size) (hT : T k = NewX TL m B) :
    Rg.Step P Q l n T G Bel [] a0 k { dst := some d, op := .alloc TL, type := ty, pos := pos, after := af, guard := gd } := by
  refine s_new (N := NewX TL m) (B := B) ?_ hGs hB hT (fun j W u h => by simp at h)
  intro a w
  exact ⟨_, (Below.refl _ _).alloc (Nat.le_refl _) _, fun hB => ⟨w.heap.size, rfl, hB, cs, heap_alloc_new w _, (LOk.vs w cs hw).noW, hm⟩, hN a.eval w (some d) ty pos af gd⟩
theorem s_storeN {P : Program} {Q : Exit → Act → World → Prop} {l : List Oper} {n : Nat} {sl : Nat → Tmp} {T : Nat → World → Value → Prop} {w0 V : World} {bs : List Ent} {a0 : Act} {k m t : Nat} {TL TB : TypeId} {x : Operand} {new : List Leaf} {ty : TypeId} {pos : String} {af : Array Edge}
    (hO : Own w0 bs V) (hS : StoreOk P TL m) (hp : Rg.ArgOk l n T a0 k (.tmp t) (NewX TB m V.heap.size)) (hx : Rg.ArgOk l n T a0 k x (AggT new)) (hn : lsize new = m) (hsl : sl k = t) (hT : T k = FilT TB new V.heap.size) :
    Rg.Step3 P Q l n sl T (OwnG w0 bs V) (EN V.heap.size TB new) a0 k { dst := none, op := .store TL (.tmp t) x, type := ty, pos := pos, after := af, guard := none } := by
  refine ⟨rfl, fun a w hG hA hN => ?_⟩
  obtain ⟨us, ex, hu⟩ := hx a w hA hN
  obtain ⟨b, ep, hge, cs, hb, hnw, hlen⟩ := hp a w hA hN
  have hl : us.length = cs.length := by rw [hu.len, hn, hlen]
  have hr := hS a.eval w none (.tmp t) x b 0 cs TB us ty pos af none (by rw [hu.len, hn]) (fun u h => (hu.noW u h).2) hb (by rw [hlen]; omega) ep ex
  unfold Oper.wp
  rw [hr]
  have hg := setM_grown b us 0 w w (grown_refl _ _)
  have hbel : Bel V (setM w b 0 us) := hG.2.grown hg hG.2.size (fun k hk => by injection hk with hk; omega)
  exact ⟨a.tmps.getD (sl k) undef, rfl, ⟨Own.step _ _ hO hbel, hbel⟩, .inr ⟨b, us, cs, hge, hu, hb, hnw, hl, rfl⟩, by rw [hT, hsl]; exact ⟨b, ep, hge, us, setM_whole hb hl, hu.upto hb hnw.arr hg⟩, fun _ => rfl⟩
end Sb

end Go.Proofs.YtfbcdfoohpkfeaaDoor
