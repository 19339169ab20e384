/- Part 15 of the texts beneath a law of layer 1: SpI, Frame, FrameS. -/
import Derived.Test.YtfbcdfoohpkfeaaDoorCs14
import Derived.Test.YtfbcdfoohpkfeaaDoorRows
import Derived.ProofKit
import Derived.OpenShut
import Derived.LaidMore
import Derived.Lay
import Derived.Lib.SmallJoins
import Derived.Stop.Joined
/- The law of halves: its walk, and what it says of numbers. -/
namespace Go.Proofs.YtfbcdfoohpkfeaaDoor
open Go.RowKit

namespace Sb
set_option maxRecDepth 100000 in
set_option maxHeartbeats 16000000 in
theorem law_halves_walk {xa1 xb1 xc1 xd1 : Int} (h1 h2 h3 h4 h5 h6 h7 h8 he mn md an ad ae : Int) (w : World) (hT : Tab w) (u0 : Value) (h0 : AggT [.v (.int .i64 xa1), .v (.int .i64 xb1), .v (.int .i64 xc1), .v (.int .i64 xd1)] w u0)
    (hc : ∀ (W : World) (v0 : Value), Tab W → AggT [.v (.int .i64 xa1), .v (.int .i64 xb1), .v (.int .i64 xc1), .v (.int .i64 xd1)] W v0 → Calls Tryd.prog 17 #[v0] W (RetT (TupT [AggT [.v (.int .i64 h1), .v (.int .i64 h2), .v (.int .i64 h3), .v (.int .i64 h4)], AggT [.v (.int .i64 h5), .v (.int .i64 h6), .v (.int .i64 h7), .v (.int .i64 h8)], Rg.EqT (.int .i64 he)]) W))
    (hg : he = 0 → (∀ (W : World) (v0 v1 : Value), Tab W → AggT [.v (.int .i64 h1), .v (.int .i64 h2), .v (.int .i64 h3), .v (.int .i64 h4)] W v0 → AggT [.v (.int .i64 h5), .v (.int .i64 h6), .v (.int .i64 h7), .v (.int .i64 h8)] W v1 → Calls Tryd.prog 19 #[v0, v1] W (RetT (TupT [AggT [.v (.int .i64 xa1), .v (.int .i64 xb1), .v (.int .i64 xc1), .v (.int .i64 xd1)], Rg.EqT (.int .i64 0)]) W)) ∧
      (∀ (W : World) (v0 v1 : Value), Tab W → AggT [.v (.int .i64 h1), .v (.int .i64 h2), .v (.int .i64 h3), .v (.int .i64 h4)] W v0 → AggT [.v (.int .i64 h5), .v (.int .i64 h6), .v (.int .i64 h7), .v (.int .i64 h8)] W v1 → Calls Tryd.prog 20 #[v0, v1] W (RetT (TupT [AggT [.v (.int .i64 mn), .v (.int .i64 md), .v (.int .i64 mn), .v (.int .i64 md)], Rg.EqT (.bool true), Rg.EqT (.int .i64 0)]) W)) ∧
      (∀ (W : World) (v0 v1 : Value), Tab W → AggT [.v (.int .i64 h3), .v (.int .i64 h4)] W v0 → AggT [.v (.int .i64 h3), .v (.int .i64 h4)] W v1 → Calls Tryd.prog 13 #[v0, v1] W (RetT (TupT [AggT [.v (.int .i64 an), .v (.int .i64 ad)], Rg.EqT (.int .i64 ae)]) W)) ∧
      (∀ (W : World) (v0 v1 : Value), Tab W → AggT [.v (.int .i64 xa1), .v (.int .i64 xb1)] W v0 → AggT [.v (.int .i64 xc1), .v (.int .i64 xd1)] W v1 → Calls Tryd.prog 13 #[v0, v1] W (RetT (TupT [AggT [.v (.int .i64 an), .v (.int .i64 ad)], Rg.EqT (.int .i64 ae)]) W))) :
    Calls Tryd.prog 5 #[u0] w (RetT (Rg.EqT (.bool true)) w) := by
  have HC := hide hc
  have HGD := hide hg
  have HT := hide hT
  clear hc hg hT
  have hu0 := agg_v4 h0
  subst hu0
  go_enter Tryd.func5, Tryd.ntmps5
  go_upto_region 1 with fail
  have hO := (Own.push (T := 35) (ls := [.v (.int .i64 xa1), .v (.int .i64 xb1), .v (.int .i64 xc1), .v (.int .i64 xd1)]) (cs := [.int .i64 xa1, .int .i64 xb1, .int .i64 xc1, .int .i64 xd1]) (Own.nil w) (LOk.v (notW_i _) (LOk.v (notW_i _) (LOk.v (notW_i _) (LOk.v (notW_i _) rfl)))) (w.heap.size) rfl)
  generalize w.alloc (.cells #[.int .i64 xa1, .int .i64 xb1, .int .i64 xc1, .int .i64 xd1] 35) = W0 at *
  have HO := hide hO
  clear hO
  go_upto_region 1 with fail
  refine Rg.regionS 8 90 (Rg.pick [AggT [.v (.int .i64 xa1), .v (.int .i64 xb1), .v (.int .i64 xc1), .v (.int .i64 xd1)], TupT [AggT [.v (.int .i64 h1), .v (.int .i64 h2), .v (.int .i64 h3), .v (.int .i64 h4)], AggT [.v (.int .i64 h5), .v (.int .i64 h6), .v (.int .i64 h7), .v (.int .i64 h8)], Rg.EqT (.int .i64 he)], TupT [AggT [.v (.int .i64 h1), .v (.int .i64 h2), .v (.int .i64 h3), .v (.int .i64 h4)], AggT [.v (.int .i64 h5), .v (.int .i64 h6), .v (.int .i64 h7), .v (.int .i64 h8)], Rg.EqT (.int .i64 he)], AggT [.v (.int .i64 h1), .v (.int .i64 h2), .v (.int .i64 h3), .v (.int .i64 h4)], AggT [.v (.int .i64 h5), .v (.int .i64 h6), .v (.int .i64 h7), .v (.int .i64 h8)], Rg.EqT (.int .i64 he), NewB 35 [.v (.int .i64 0), .v (.int .i64 0), .v (.int .i64 0), .v (.int .i64 0)] W0.heap.size, NewB 35 [.v (.int .i64 0), .v (.int .i64 0), .v (.int .i64 0), .v (.int .i64 0)] W0.heap.size]) (OwnG w [(w.heap.size, 35, [.v (.int .i64 xa1), .v (.int .i64 xb1), .v (.int .i64 xc1), .v (.int .i64 xd1)])] W0) Bel [6, 7] (by kernel_rfl) rfl (Rg.Stabs.pick ⟨stab_agg _, stab_tup ⟨(stab_agg _), (stab_agg _), (Rg.stab_eq _), trivial⟩, stab_tup ⟨(stab_agg _), (stab_agg _), (Rg.stab_eq _), trivial⟩, stab_agg _, stab_agg _, Rg.stab_eq _, stab_new _ _ _, stab_new _ _ _, trivial⟩) (OwnG.begin (unhide HO))
    (Rg.steps_cons (Rg.plain rfl (s_load (b := w.heap.size) (off := 0) (TB := 35) (pre := []) (mid := [.v (.int .i64 xa1), .v (.int .i64 xb1), .v (.int .i64 xc1), .v (.int .i64 xd1)]) (post := []) load_s rfl (Rg.argF (by kernel_rfl) rfl) (fun W h => OwnG.box (List.Mem.head _) h) rfl rfl rfl))
      (Rg.steps_cons (Rg.plain rfl (s_call1 Tryd.func17 (by kernel_rfl) rfl OwnG.step (Rg.argT 0 (by kernel_rfl)) (fun W v0 hG h0 => unhide HC W v0 ((unhide HT).below hG.bel) h0)))
      (Rg.steps_cons (Rg.plain rfl (s_move rfl (Rg.argT 1 (by kernel_rfl))))
      (Rg.steps_cons (Rg.plain rfl (s_extT (ts := [AggT [.v (.int .i64 h1), .v (.int .i64 h2), .v (.int .i64 h3), .v (.int .i64 h4)], AggT [.v (.int .i64 h5), .v (.int .i64 h6), .v (.int .i64 h7), .v (.int .i64 h8)], Rg.EqT (.int .i64 he)]) rfl (Rg.argT 2 (by kernel_rfl)) (of_decide_eq_true rfl) rfl))
      (Rg.steps_cons (Rg.plain rfl (s_extT (ts := [AggT [.v (.int .i64 h1), .v (.int .i64 h2), .v (.int .i64 h3), .v (.int .i64 h4)], AggT [.v (.int .i64 h5), .v (.int .i64 h6), .v (.int .i64 h7), .v (.int .i64 h8)], Rg.EqT (.int .i64 he)]) rfl (Rg.argT 2 (by kernel_rfl)) (of_decide_eq_true rfl) rfl))
      (Rg.steps_cons (Rg.plain rfl (s_extT (ts := [AggT [.v (.int .i64 h1), .v (.int .i64 h2), .v (.int .i64 h3), .v (.int .i64 h4)], AggT [.v (.int .i64 h5), .v (.int .i64 h6), .v (.int .i64 h7), .v (.int .i64 h8)], Rg.EqT (.int .i64 he)]) rfl (Rg.argT 2 (by kernel_rfl)) (of_decide_eq_true rfl) rfl))
      (Rg.steps_cons (Rg.plain rfl (s_alloc new_s rfl OwnG.step OwnG.size rfl (new_lt (by intro j hj; simp at hj; (repeat' (first | (rcases hj with rfl | hj))) <;> first | (subst hj; exact ⟨_, _, _, rfl⟩) | exact ⟨_, _, _, rfl⟩))))
      (Rg.steps_cons (Rg.plain rfl (s_alloc new_s rfl OwnG.step OwnG.size rfl (new_lt (by intro j hj; simp at hj; (repeat' (first | (rcases hj with rfl | hj))) <;> first | (subst hj; exact ⟨_, _, _, rfl⟩) | exact ⟨_, _, _, rfl⟩))))
      Rg.steps_nil)))))))) ?_
  intro v1 V1 hG1 hv1 hne1
  simp only [Rg.puts, List.take_succ_cons, List.take_zero, List.drop_succ_cons, List.drop_zero, Act.put, List.setIfInBounds_toArray, List.set_cons_zero, List.set_cons_succ]
  have e5 : v1 5 = .int .i64 he := hv1 5 (by decide)
  obtain ⟨b1_6, e6, hge6, hz6⟩ := (show NewB 35 [.v (.int .i64 0), .v (.int .i64 0), .v (.int .i64 0), .v (.int .i64 0)] W0.heap.size V1 (v1 6) from hv1 6 (by decide))
  obtain ⟨b1_7, e7, hge7, hz7⟩ := (show NewB 35 [.v (.int .i64 0), .v (.int .i64 0), .v (.int .i64 0), .v (.int .i64 0)] W0.heap.size V1 (v1 7) from hv1 7 (by decide))
  simp only [e5, e6, e7]
  have hO := hG1.1
  have hnn : b1_7 ≠ b1_6 := fun h => hne1 7 6 rfl rfl (by decide) (by decide) (by decide) rfl rfl (by rw [e6, e7, h])
  replace hO := Own.add2 (unhide HO) hG1.2 hge6 hz6 hge7 hz7 hnn
  clear hnn hge6 hz6 hge7 hz7
  refine tl_store (xs := [(b1_7, 35, [.v (.int .i64 0), .v (.int .i64 0), .v (.int .i64 0), .v (.int .i64 0)])]) (ys := [(w.heap.size, 35, [.v (.int .i64 xa1), .v (.int .i64 xb1), .v (.int .i64 xc1), .v (.int .i64 xd1)])]) (pre := []) (old := [.v (.int .i64 0), .v (.int .i64 0), .v (.int .i64 0), .v (.int .i64 0)]) (new := [.v (.int .i64 h1), .v (.int .i64 h2), .v (.int .i64 h3), .v (.int .i64 h4)]) (post := []) (b := b1_6) (off := 0) store_s rfl (show AggT [.v (.int .i64 h1), .v (.int .i64 h2), .v (.int .i64 h3), .v (.int .i64 h4)] V1 (v1 3) from hv1 3 (by decide)) hO rfl rfl rfl ?_
  intro U1_0 hO0 hk0
  replace hO : Own w [(b1_7, 35, [.v (.int .i64 0), .v (.int .i64 0), .v (.int .i64 0), .v (.int .i64 0)]), (b1_6, 35, [.v (.int .i64 h1), .v (.int .i64 h2), .v (.int .i64 h3), .v (.int .i64 h4)]), (w.heap.size, 35, [.v (.int .i64 xa1), .v (.int .i64 xb1), .v (.int .i64 xc1), .v (.int .i64 xd1)])] U1_0 := hO0
  clear hO0
  refine tl_store (xs := []) (ys := [(b1_6, 35, [.v (.int .i64 h1), .v (.int .i64 h2), .v (.int .i64 h3), .v (.int .i64 h4)]), (w.heap.size, 35, [.v (.int .i64 xa1), .v (.int .i64 xb1), .v (.int .i64 xc1), .v (.int .i64 xd1)])]) (pre := []) (old := [.v (.int .i64 0), .v (.int .i64 0), .v (.int .i64 0), .v (.int .i64 0)]) (new := [.v (.int .i64 h5), .v (.int .i64 h6), .v (.int .i64 h7), .v (.int .i64 h8)]) (post := []) (b := b1_7) (off := 0) store_s rfl (hk0 _ _ (show AggT [.v (.int .i64 h5), .v (.int .i64 h6), .v (.int .i64 h7), .v (.int .i64 h8)] V1 (v1 4) from hv1 4 (by decide))) hO rfl rfl rfl ?_
  intro U1_1 hO1 hk1
  replace hO : Own w [(b1_7, 35, [.v (.int .i64 h5), .v (.int .i64 h6), .v (.int .i64 h7), .v (.int .i64 h8)]), (b1_6, 35, [.v (.int .i64 h1), .v (.int .i64 h2), .v (.int .i64 h3), .v (.int .i64 h4)]), (w.heap.size, 35, [.v (.int .i64 xa1), .v (.int .i64 xb1), .v (.int .i64 xc1), .v (.int .i64 xd1)])] U1_1 := hO1
  clear hO1
  clear HO
  have HO := hide hO
  clear hO hG1 hv1 hne1 hk0 hk1
  try clear e5 e6 e7
  by_cases g0 : he = 0
  · have k1 : (he != 0) = false := by simp [bne, beq_iff_eq.2 g0]
    have HG := hide ((unhide HGD) g0)
    clear HGD g0
    go_upto_region 2 with fail
    refine Rg.regionS 2 90 (Rg.pick [Rg.EqT (.int .i64 he), Rg.EqT (.bool false)]) (OwnG w [(b1_7, 35, [.v (.int .i64 h5), .v (.int .i64 h6), .v (.int .i64 h7), .v (.int .i64 h8)]), (b1_6, 35, [.v (.int .i64 h1), .v (.int .i64 h2), .v (.int .i64 h3), .v (.int .i64 h4)]), (w.heap.size, 35, [.v (.int .i64 xa1), .v (.int .i64 xb1), .v (.int .i64 xc1), .v (.int .i64 xd1)])] U1_1) Bel [] (by kernel_rfl) rfl (Rg.Stabs.pick ⟨Rg.stab_eq _, Rg.stab_eq _, trivial⟩) (OwnG.begin (unhide HO))
      (Rg.steps_cons (Rg.plain rfl (s_move rfl (Rg.argF (by kernel_rfl) rfl)))
        (Rg.steps_cons (Rg.plain rfl (s_neqE rfl (Rg.argT 0 (by kernel_rfl)) (Rg.argC _) rfl k1))
        Rg.steps_nil)) ?_
    intro v2 V2 hG2 hv2 hne2
    simp only [Rg.puts, List.take_succ_cons, List.take_zero, List.drop_succ_cons, List.drop_zero, Act.put, List.setIfInBounds_toArray, List.set_cons_zero, List.set_cons_succ]
    have e0 : v2 0 = .int .i64 he := hv2 0 (by decide)
    have e1 : v2 1 = .bool false := hv2 1 (by decide)
    simp only [e0, e1]
    have hO := hG2.1
    clear HO
    have HO := hide hO
    clear hO hG2 hv2 hne2
    try clear e0 e1
    clear k1
    go_upto_region 4 with fail
    refine Rg.regionS 7 90 (Rg.pick [AggT [.v (.int .i64 h1), .v (.int .i64 h2), .v (.int .i64 h3), .v (.int .i64 h4)], AggT [.v (.int .i64 h5), .v (.int .i64 h6), .v (.int .i64 h7), .v (.int .i64 h8)], TupT [AggT [.v (.int .i64 xa1), .v (.int .i64 xb1), .v (.int .i64 xc1), .v (.int .i64 xd1)], Rg.EqT (.int .i64 0)], TupT [AggT [.v (.int .i64 xa1), .v (.int .i64 xb1), .v (.int .i64 xc1), .v (.int .i64 xd1)], Rg.EqT (.int .i64 0)], AggT [.v (.int .i64 xa1), .v (.int .i64 xb1), .v (.int .i64 xc1), .v (.int .i64 xd1)], Rg.EqT (.int .i64 0), NewB 35 [.v (.int .i64 0), .v (.int .i64 0), .v (.int .i64 0), .v (.int .i64 0)] V2.heap.size]) (OwnG w [(b1_7, 35, [.v (.int .i64 h5), .v (.int .i64 h6), .v (.int .i64 h7), .v (.int .i64 h8)]), (b1_6, 35, [.v (.int .i64 h1), .v (.int .i64 h2), .v (.int .i64 h3), .v (.int .i64 h4)]), (w.heap.size, 35, [.v (.int .i64 xa1), .v (.int .i64 xb1), .v (.int .i64 xc1), .v (.int .i64 xd1)])] V2) Bel [6] (by kernel_rfl) rfl (Rg.Stabs.pick ⟨stab_agg _, stab_agg _, stab_tup ⟨(stab_agg _), (Rg.stab_eq _), trivial⟩, stab_tup ⟨(stab_agg _), (Rg.stab_eq _), trivial⟩, stab_agg _, Rg.stab_eq _, stab_new _ _ _, trivial⟩) (OwnG.begin (unhide HO))
      (Rg.steps_cons (Rg.plain rfl (s_load (b := b1_6) (off := 0) (TB := 35) (pre := []) (mid := [.v (.int .i64 h1), .v (.int .i64 h2), .v (.int .i64 h3), .v (.int .i64 h4)]) (post := []) load_s rfl (Rg.argF (by kernel_rfl) rfl) (fun W h => OwnG.box (List.Mem.tail _ (List.Mem.head _)) h) rfl rfl rfl))
        (Rg.steps_cons (Rg.plain rfl (s_load (b := b1_7) (off := 0) (TB := 35) (pre := []) (mid := [.v (.int .i64 h5), .v (.int .i64 h6), .v (.int .i64 h7), .v (.int .i64 h8)]) (post := []) load_s rfl (Rg.argF (by kernel_rfl) rfl) (fun W h => OwnG.box (List.Mem.head _) h) rfl rfl rfl))
        (Rg.steps_cons (Rg.plain rfl (s_call2 Tryd.func19 (by kernel_rfl) rfl OwnG.step (Rg.argT 0 (by kernel_rfl)) (Rg.argT 1 (by kernel_rfl)) (fun W v0 v1 hG h0 h1 => (unhide HG).1 W v0 v1 ((unhide HT).below hG.bel) h0 h1)))
        (Rg.steps_cons (Rg.plain rfl (s_move rfl (Rg.argT 2 (by kernel_rfl))))
        (Rg.steps_cons (Rg.plain rfl (s_extT (ts := [AggT [.v (.int .i64 xa1), .v (.int .i64 xb1), .v (.int .i64 xc1), .v (.int .i64 xd1)], Rg.EqT (.int .i64 0)]) rfl (Rg.argT 3 (by kernel_rfl)) (of_decide_eq_true rfl) rfl))
        (Rg.steps_cons (Rg.plain rfl (s_extT (ts := [AggT [.v (.int .i64 xa1), .v (.int .i64 xb1), .v (.int .i64 xc1), .v (.int .i64 xd1)], Rg.EqT (.int .i64 0)]) rfl (Rg.argT 3 (by kernel_rfl)) (of_decide_eq_true rfl) rfl))
        (Rg.steps_cons (Rg.plain rfl (s_alloc new_s rfl OwnG.step OwnG.size rfl (new_lt (by intro j hj; simp at hj; (repeat' (first | (rcases hj with rfl | hj))) <;> first | (subst hj; exact ⟨_, _, _, rfl⟩) | exact ⟨_, _, _, rfl⟩))))
        Rg.steps_nil))))))) ?_
    intro v3 V3 hG3 hv3 hne3
    simp only [Rg.puts, List.take_succ_cons, List.take_zero, List.drop_succ_cons, List.drop_zero, Act.put, List.setIfInBounds_toArray, List.set_cons_zero, List.set_cons_succ]
    have e5 : v3 5 = .int .i64 0 := hv3 5 (by decide)
    obtain ⟨b3_6, e6, hge6, hz6⟩ := (show NewB 35 [.v (.int .i64 0), .v (.int .i64 0), .v (.int .i64 0), .v (.int .i64 0)] V2.heap.size V3 (v3 6) from hv3 6 (by decide))
    simp only [e5, e6]
    have hO := hG3.1
    replace hO := Own.add (unhide HO) hG3.2 hge6 hz6
    clear hge6 hz6
    refine tl_store (xs := []) (ys := [(b1_7, 35, [.v (.int .i64 h5), .v (.int .i64 h6), .v (.int .i64 h7), .v (.int .i64 h8)]), (b1_6, 35, [.v (.int .i64 h1), .v (.int .i64 h2), .v (.int .i64 h3), .v (.int .i64 h4)]), (w.heap.size, 35, [.v (.int .i64 xa1), .v (.int .i64 xb1), .v (.int .i64 xc1), .v (.int .i64 xd1)])]) (pre := []) (old := [.v (.int .i64 0), .v (.int .i64 0), .v (.int .i64 0), .v (.int .i64 0)]) (new := [.v (.int .i64 xa1), .v (.int .i64 xb1), .v (.int .i64 xc1), .v (.int .i64 xd1)]) (post := []) (b := b3_6) (off := 0) store_s rfl (show AggT [.v (.int .i64 xa1), .v (.int .i64 xb1), .v (.int .i64 xc1), .v (.int .i64 xd1)] V3 (v3 4) from hv3 4 (by decide)) hO rfl rfl rfl ?_
    intro U3_0 hO0 hk0
    replace hO : Own w [(b3_6, 35, [.v (.int .i64 xa1), .v (.int .i64 xb1), .v (.int .i64 xc1), .v (.int .i64 xd1)]), (b1_7, 35, [.v (.int .i64 h5), .v (.int .i64 h6), .v (.int .i64 h7), .v (.int .i64 h8)]), (b1_6, 35, [.v (.int .i64 h1), .v (.int .i64 h2), .v (.int .i64 h3), .v (.int .i64 h4)]), (w.heap.size, 35, [.v (.int .i64 xa1), .v (.int .i64 xb1), .v (.int .i64 xc1), .v (.int .i64 xd1)])] U3_0 := hO0
    clear hO0
    clear HO
    have HO := hide hO
    clear hO hG3 hv3 hne3 hk0
    try clear e5 e6
    go_upto_region 5 with fail
    refine Rg.regionS 8 90 (Rg.pick [AggT [.v (.int .i64 h1), .v (.int .i64 h2), .v (.int .i64 h3), .v (.int .i64 h4)], AggT [.v (.int .i64 h5), .v (.int .i64 h6), .v (.int .i64 h7), .v (.int .i64 h8)], TupT [AggT [.v (.int .i64 mn), .v (.int .i64 md), .v (.int .i64 mn), .v (.int .i64 md)], Rg.EqT (.bool true), Rg.EqT (.int .i64 0)], TupT [AggT [.v (.int .i64 mn), .v (.int .i64 md), .v (.int .i64 mn), .v (.int .i64 md)], Rg.EqT (.bool true), Rg.EqT (.int .i64 0)], AggT [.v (.int .i64 mn), .v (.int .i64 md), .v (.int .i64 mn), .v (.int .i64 md)], Rg.EqT (.bool true), Rg.EqT (.int .i64 0), NewB 35 [.v (.int .i64 0), .v (.int .i64 0), .v (.int .i64 0), .v (.int .i64 0)] U3_0.heap.size]) (OwnG w [(b3_6, 35, [.v (.int .i64 xa1), .v (.int .i64 xb1), .v (.int .i64 xc1), .v (.int .i64 xd1)]), (b1_7, 35, [.v (.int .i64 h5), .v (.int .i64 h6), .v (.int .i64 h7), .v (.int .i64 h8)]), (b1_6, 35, [.v (.int .i64 h1), .v (.int .i64 h2), .v (.int .i64 h3), .v (.int .i64 h4)]), (w.heap.size, 35, [.v (.int .i64 xa1), .v (.int .i64 xb1), .v (.int .i64 xc1), .v (.int .i64 xd1)])] U3_0) Bel [7] (by kernel_rfl) rfl (Rg.Stabs.pick ⟨stab_agg _, stab_agg _, stab_tup ⟨(stab_agg _), (Rg.stab_eq _), (Rg.stab_eq _), trivial⟩, stab_tup ⟨(stab_agg _), (Rg.stab_eq _), (Rg.stab_eq _), trivial⟩, stab_agg _, Rg.stab_eq _, Rg.stab_eq _, stab_new _ _ _, trivial⟩) (OwnG.begin (unhide HO))
      (Rg.steps_cons (Rg.plain rfl (s_load (b := b1_6) (off := 0) (TB := 35) (pre := []) (mid := [.v (.int .i64 h1), .v (.int .i64 h2), .v (.int .i64 h3), .v (.int .i64 h4)]) (post := []) load_s rfl (Rg.argF (by kernel_rfl) rfl) (fun W h => OwnG.box (List.Mem.tail _ (List.Mem.tail _ (List.Mem.head _))) h) rfl rfl rfl))
        (Rg.steps_cons (Rg.plain rfl (s_load (b := b1_7) (off := 0) (TB := 35) (pre := []) (mid := [.v (.int .i64 h5), .v (.int .i64 h6), .v (.int .i64 h7), .v (.int .i64 h8)]) (post := []) load_s rfl (Rg.argF (by kernel_rfl) rfl) (fun W h => OwnG.box (List.Mem.tail _ (List.Mem.head _)) h) rfl rfl rfl))
        (Rg.steps_cons (Rg.plain rfl (s_call2 Tryd.func20 (by kernel_rfl) rfl OwnG.step (Rg.argT 0 (by kernel_rfl)) (Rg.argT 1 (by kernel_rfl)) (fun W v0 v1 hG h0 h1 => (unhide HG).2.1 W v0 v1 ((unhide HT).below hG.bel) h0 h1)))
        (Rg.steps_cons (Rg.plain rfl (s_move rfl (Rg.argT 2 (by kernel_rfl))))
        (Rg.steps_cons (Rg.plain rfl (s_extT (ts := [AggT [.v (.int .i64 mn), .v (.int .i64 md), .v (.int .i64 mn), .v (.int .i64 md)], Rg.EqT (.bool true), Rg.EqT (.int .i64 0)]) rfl (Rg.argT 3 (by kernel_rfl)) (of_decide_eq_true rfl) rfl))
        (Rg.steps_cons (Rg.plain rfl (s_extT (ts := [AggT [.v (.int .i64 mn), .v (.int .i64 md), .v (.int .i64 mn), .v (.int .i64 md)], Rg.EqT (.bool true), Rg.EqT (.int .i64 0)]) rfl (Rg.argT 3 (by kernel_rfl)) (of_decide_eq_true rfl) rfl))
        (Rg.steps_cons (Rg.plain rfl (s_extT (ts := [AggT [.v (.int .i64 mn), .v (.int .i64 md), .v (.int .i64 mn), .v (.int .i64 md)], Rg.EqT (.bool true), Rg.EqT (.int .i64 0)]) rfl (Rg.argT 3 (by kernel_rfl)) (of_decide_eq_true rfl) rfl))
        (Rg.steps_cons (Rg.plain rfl (s_alloc new_s rfl OwnG.step OwnG.size rfl (new_lt (by intro j hj; simp at hj; (repeat' (first | (rcases hj with rfl | hj))) <;> first | (subst hj; exact ⟨_, _, _, rfl⟩) | exact ⟨_, _, _, rfl⟩))))
        Rg.steps_nil)))))))) ?_
    intro v4 V4 hG4 hv4 hne4
    simp only [Rg.puts, List.take_succ_cons, List.take_zero, List.drop_succ_cons, List.drop_zero, Act.put, List.setIfInBounds_toArray, List.set_cons_zero, List.set_cons_succ]
    have e5 : v4 5 = .bool true := hv4 5 (by decide)
    have e6 : v4 6 = .int .i64 0 := hv4 6 (by decide)
    obtain ⟨b4_7, e7, hge7, hz7⟩ := (show NewB 35 [.v (.int .i64 0), .v (.int .i64 0), .v (.int .i64 0), .v (.int .i64 0)] U3_0.heap.size V4 (v4 7) from hv4 7 (by decide))
    simp only [e5, e6, e7]
    have hO := hG4.1
    replace hO := Own.add (unhide HO) hG4.2 hge7 hz7
    clear hge7 hz7
    refine tl_store (xs := []) (ys := [(b3_6, 35, [.v (.int .i64 xa1), .v (.int .i64 xb1), .v (.int .i64 xc1), .v (.int .i64 xd1)]), (b1_7, 35, [.v (.int .i64 h5), .v (.int .i64 h6), .v (.int .i64 h7), .v (.int .i64 h8)]), (b1_6, 35, [.v (.int .i64 h1), .v (.int .i64 h2), .v (.int .i64 h3), .v (.int .i64 h4)]), (w.heap.size, 35, [.v (.int .i64 xa1), .v (.int .i64 xb1), .v (.int .i64 xc1), .v (.int .i64 xd1)])]) (pre := []) (old := [.v (.int .i64 0), .v (.int .i64 0), .v (.int .i64 0), .v (.int .i64 0)]) (new := [.v (.int .i64 mn), .v (.int .i64 md), .v (.int .i64 mn), .v (.int .i64 md)]) (post := []) (b := b4_7) (off := 0) store_s rfl (show AggT [.v (.int .i64 mn), .v (.int .i64 md), .v (.int .i64 mn), .v (.int .i64 md)] V4 (v4 4) from hv4 4 (by decide)) hO rfl rfl rfl ?_
    intro U4_0 hO0 hk0
    replace hO : Own w [(b4_7, 35, [.v (.int .i64 mn), .v (.int .i64 md), .v (.int .i64 mn), .v (.int .i64 md)]), (b3_6, 35, [.v (.int .i64 xa1), .v (.int .i64 xb1), .v (.int .i64 xc1), .v (.int .i64 xd1)]), (b1_7, 35, [.v (.int .i64 h5), .v (.int .i64 h6), .v (.int .i64 h7), .v (.int .i64 h8)]), (b1_6, 35, [.v (.int .i64 h1), .v (.int .i64 h2), .v (.int .i64 h3), .v (.int .i64 h4)]), (w.heap.size, 35, [.v (.int .i64 xa1), .v (.int .i64 xb1), .v (.int .i64 xc1), .v (.int .i64 xd1)])] U4_0 := hO0
    clear hO0
    clear HO
    have HO := hide hO
    clear hO hG4 hv4 hne4 hk0
    try clear e5 e6 e7
    go_upto_region 6 with fail
    refine Rg.regionS 9 90 (Rg.pick [Rg.EqT (.pointer (some ⟨b1_6, 2, none⟩)), AggT [.v (.int .i64 h3), .v (.int .i64 h4)], Rg.EqT (.pointer (some ⟨b1_6, 2, none⟩)), AggT [.v (.int .i64 h3), .v (.int .i64 h4)], TupT [AggT [.v (.int .i64 an), .v (.int .i64 ad)], Rg.EqT (.int .i64 ae)], TupT [AggT [.v (.int .i64 an), .v (.int .i64 ad)], Rg.EqT (.int .i64 ae)], AggT [.v (.int .i64 an), .v (.int .i64 ad)], Rg.EqT (.int .i64 ae), NewB 23 [.v (.int .i64 0), .v (.int .i64 0)] U4_0.heap.size]) (OwnG w [(b4_7, 35, [.v (.int .i64 mn), .v (.int .i64 md), .v (.int .i64 mn), .v (.int .i64 md)]), (b3_6, 35, [.v (.int .i64 xa1), .v (.int .i64 xb1), .v (.int .i64 xc1), .v (.int .i64 xd1)]), (b1_7, 35, [.v (.int .i64 h5), .v (.int .i64 h6), .v (.int .i64 h7), .v (.int .i64 h8)]), (b1_6, 35, [.v (.int .i64 h1), .v (.int .i64 h2), .v (.int .i64 h3), .v (.int .i64 h4)]), (w.heap.size, 35, [.v (.int .i64 xa1), .v (.int .i64 xb1), .v (.int .i64 xc1), .v (.int .i64 xd1)])] U4_0) Bel [8] (by kernel_rfl) rfl (Rg.Stabs.pick ⟨Rg.stab_eq _, stab_agg _, Rg.stab_eq _, stab_agg _, stab_tup ⟨(stab_agg _), (Rg.stab_eq _), trivial⟩, stab_tup ⟨(stab_agg _), (Rg.stab_eq _), trivial⟩, stab_agg _, Rg.stab_eq _, stab_new _ _ _, trivial⟩) (OwnG.begin (unhide HO))
      (Rg.steps_cons (Rg.plain rfl (s_addr_s1 (b := b1_6) (off := 0) rfl (Rg.argF (by kernel_rfl) rfl) rfl rfl))
        (Rg.steps_cons (Rg.plain rfl (s_load (b := b1_6) (off := 2) (TB := 35) (pre := [.v (.int .i64 h1), .v (.int .i64 h2)]) (mid := [.v (.int .i64 h3), .v (.int .i64 h4)]) (post := []) load_r rfl (Rg.argT 0 (by kernel_rfl)) (fun W h => OwnG.box (List.Mem.tail _ (List.Mem.tail _ (List.Mem.tail _ (List.Mem.head _)))) h) rfl rfl rfl))
        (Rg.steps_cons (Rg.plain rfl (s_addr_s1 (b := b1_6) (off := 0) rfl (Rg.argF (by kernel_rfl) rfl) rfl rfl))
        (Rg.steps_cons (Rg.plain rfl (s_load (b := b1_6) (off := 2) (TB := 35) (pre := [.v (.int .i64 h1), .v (.int .i64 h2)]) (mid := [.v (.int .i64 h3), .v (.int .i64 h4)]) (post := []) load_r rfl (Rg.argT 2 (by kernel_rfl)) (fun W h => OwnG.box (List.Mem.tail _ (List.Mem.tail _ (List.Mem.tail _ (List.Mem.head _)))) h) rfl rfl rfl))
        (Rg.steps_cons (Rg.plain rfl (s_call2 Tryd.func13 (by kernel_rfl) rfl OwnG.step (Rg.argT 1 (by kernel_rfl)) (Rg.argT 3 (by kernel_rfl)) (fun W v0 v1 hG h0 h1 => (unhide HG).2.2.1 W v0 v1 ((unhide HT).below hG.bel) h0 h1)))
        (Rg.steps_cons (Rg.plain rfl (s_move rfl (Rg.argT 4 (by kernel_rfl))))
        (Rg.steps_cons (Rg.plain rfl (s_extT (ts := [AggT [.v (.int .i64 an), .v (.int .i64 ad)], Rg.EqT (.int .i64 ae)]) rfl (Rg.argT 5 (by kernel_rfl)) (of_decide_eq_true rfl) rfl))
        (Rg.steps_cons (Rg.plain rfl (s_extT (ts := [AggT [.v (.int .i64 an), .v (.int .i64 ad)], Rg.EqT (.int .i64 ae)]) rfl (Rg.argT 5 (by kernel_rfl)) (of_decide_eq_true rfl) rfl))
        (Rg.steps_cons (Rg.plain rfl (s_alloc new_r rfl OwnG.step OwnG.size rfl (new_lt (by intro j hj; simp at hj; (repeat' (first | (rcases hj with rfl | hj))) <;> first | (subst hj; exact ⟨_, _, _, rfl⟩) | exact ⟨_, _, _, rfl⟩))))
        Rg.steps_nil))))))))) ?_
    intro v5 V5 hG5 hv5 hne5
    simp only [Rg.puts, List.take_succ_cons, List.take_zero, List.drop_succ_cons, List.drop_zero, Act.put, List.setIfInBounds_toArray, List.set_cons_zero, List.set_cons_succ]
    have e0 : v5 0 = .pointer (some ⟨b1_6, 2, none⟩) := hv5 0 (by decide)
    have e2 : v5 2 = .pointer (some ⟨b1_6, 2, none⟩) := hv5 2 (by decide)
    have e7 : v5 7 = .int .i64 ae := hv5 7 (by decide)
    obtain ⟨b5_8, e8, hge8, hz8⟩ := (show NewB 23 [.v (.int .i64 0), .v (.int .i64 0)] U4_0.heap.size V5 (v5 8) from hv5 8 (by decide))
    simp only [e0, e2, e7, e8]
    have hO := hG5.1
    replace hO := Own.add (unhide HO) hG5.2 hge8 hz8
    clear hge8 hz8
    refine tl_store (xs := []) (ys := [(b4_7, 35, [.v (.int .i64 mn), .v (.int .i64 md), .v (.int .i64 mn), .v (.int .i64 md)]), (b3_6, 35, [.v (.int .i64 xa1), .v (.int .i64 xb1), .v (.int .i64 xc1), .v (.int .i64 xd1)]), (b1_7, 35, [.v (.int .i64 h5), .v (.int .i64 h6), .v (.int .i64 h7), .v (.int .i64 h8)]), (b1_6, 35, [.v (.int .i64 h1), .v (.int .i64 h2), .v (.int .i64 h3), .v (.int .i64 h4)]), (w.heap.size, 35, [.v (.int .i64 xa1), .v (.int .i64 xb1), .v (.int .i64 xc1), .v (.int .i64 xd1)])]) (pre := []) (old := [.v (.int .i64 0), .v (.int .i64 0)]) (new := [.v (.int .i64 an), .v (.int .i64 ad)]) (post := []) (b := b5_8) (off := 0) store_r rfl (show AggT [.v (.int .i64 an), .v (.int .i64 ad)] V5 (v5 6) from hv5 6 (by decide)) hO rfl rfl rfl ?_
    intro U5_0 hO0 hk0
    replace hO : Own w [(b5_8, 23, [.v (.int .i64 an), .v (.int .i64 ad)]), (b4_7, 35, [.v (.int .i64 mn), .v (.int .i64 md), .v (.int .i64 mn), .v (.int .i64 md)]), (b3_6, 35, [.v (.int .i64 xa1), .v (.int .i64 xb1), .v (.int .i64 xc1), .v (.int .i64 xd1)]), (b1_7, 35, [.v (.int .i64 h5), .v (.int .i64 h6), .v (.int .i64 h7), .v (.int .i64 h8)]), (b1_6, 35, [.v (.int .i64 h1), .v (.int .i64 h2), .v (.int .i64 h3), .v (.int .i64 h4)]), (w.heap.size, 35, [.v (.int .i64 xa1), .v (.int .i64 xb1), .v (.int .i64 xc1), .v (.int .i64 xd1)])] U5_0 := hO0
    clear hO0
    clear HO
    have HO := hide hO
    clear hO hG5 hv5 hne5 hk0
    try clear e0 e2 e7 e8
    go_upto_region 7 with fail
    refine Rg.regionS 9 90 (Rg.pick [Rg.EqT (.pointer (some ⟨w.heap.size, 0, none⟩)), AggT [.v (.int .i64 xa1), .v (.int .i64 xb1)], Rg.EqT (.pointer (some ⟨w.heap.size, 2, none⟩)), AggT [.v (.int .i64 xc1), .v (.int .i64 xd1)], TupT [AggT [.v (.int .i64 an), .v (.int .i64 ad)], Rg.EqT (.int .i64 ae)], TupT [AggT [.v (.int .i64 an), .v (.int .i64 ad)], Rg.EqT (.int .i64 ae)], AggT [.v (.int .i64 an), .v (.int .i64 ad)], Rg.EqT (.int .i64 ae), NewB 23 [.v (.int .i64 0), .v (.int .i64 0)] U5_0.heap.size]) (OwnG w [(b5_8, 23, [.v (.int .i64 an), .v (.int .i64 ad)]), (b4_7, 35, [.v (.int .i64 mn), .v (.int .i64 md), .v (.int .i64 mn), .v (.int .i64 md)]), (b3_6, 35, [.v (.int .i64 xa1), .v (.int .i64 xb1), .v (.int .i64 xc1), .v (.int .i64 xd1)]), (b1_7, 35, [.v (.int .i64 h5), .v (.int .i64 h6), .v (.int .i64 h7), .v (.int .i64 h8)]), (b1_6, 35, [.v (.int .i64 h1), .v (.int .i64 h2), .v (.int .i64 h3), .v (.int .i64 h4)]), (w.heap.size, 35, [.v (.int .i64 xa1), .v (.int .i64 xb1), .v (.int .i64 xc1), .v (.int .i64 xd1)])] U5_0) Bel [8] (by kernel_rfl) rfl (Rg.Stabs.pick ⟨Rg.stab_eq _, stab_agg _, Rg.stab_eq _, stab_agg _, stab_tup ⟨(stab_agg _), (Rg.stab_eq _), trivial⟩, stab_tup ⟨(stab_agg _), (Rg.stab_eq _), trivial⟩, stab_agg _, Rg.stab_eq _, stab_new _ _ _, trivial⟩) (OwnG.begin (unhide HO))
      (Rg.steps_cons (Rg.plain rfl (s_addr_s0 (b := w.heap.size) (off := 0) rfl (Rg.argF (by kernel_rfl) rfl) rfl rfl))
        (Rg.steps_cons (Rg.plain rfl (s_load (b := w.heap.size) (off := 0) (TB := 35) (pre := []) (mid := [.v (.int .i64 xa1), .v (.int .i64 xb1)]) (post := [.v (.int .i64 xc1), .v (.int .i64 xd1)]) load_r rfl (Rg.argT 0 (by kernel_rfl)) (fun W h => OwnG.box (List.Mem.tail _ (List.Mem.tail _ (List.Mem.tail _ (List.Mem.tail _ (List.Mem.tail _ (List.Mem.head _)))))) h) rfl rfl rfl))
        (Rg.steps_cons (Rg.plain rfl (s_addr_s1 (b := w.heap.size) (off := 0) rfl (Rg.argF (by kernel_rfl) rfl) rfl rfl))
        (Rg.steps_cons (Rg.plain rfl (s_load (b := w.heap.size) (off := 2) (TB := 35) (pre := [.v (.int .i64 xa1), .v (.int .i64 xb1)]) (mid := [.v (.int .i64 xc1), .v (.int .i64 xd1)]) (post := []) load_r rfl (Rg.argT 2 (by kernel_rfl)) (fun W h => OwnG.box (List.Mem.tail _ (List.Mem.tail _ (List.Mem.tail _ (List.Mem.tail _ (List.Mem.tail _ (List.Mem.head _)))))) h) rfl rfl rfl))
        (Rg.steps_cons (Rg.plain rfl (s_call2 Tryd.func13 (by kernel_rfl) rfl OwnG.step (Rg.argT 1 (by kernel_rfl)) (Rg.argT 3 (by kernel_rfl)) (fun W v0 v1 hG h0 h1 => (unhide HG).2.2.2 W v0 v1 ((unhide HT).below hG.bel) h0 h1)))
        (Rg.steps_cons (Rg.plain rfl (s_move rfl (Rg.argT 4 (by kernel_rfl))))
        (Rg.steps_cons (Rg.plain rfl (s_extT (ts := [AggT [.v (.int .i64 an), .v (.int .i64 ad)], Rg.EqT (.int .i64 ae)]) rfl (Rg.argT 5 (by kernel_rfl)) (of_decide_eq_true rfl) rfl))
        (Rg.steps_cons (Rg.plain rfl (s_extT (ts := [AggT [.v (.int .i64 an), .v (.int .i64 ad)], Rg.EqT (.int .i64 ae)]) rfl (Rg.argT 5 (by kernel_rfl)) (of_decide_eq_true rfl) rfl))
        (Rg.steps_cons (Rg.plain rfl (s_alloc new_r rfl OwnG.step OwnG.size rfl (new_lt (by intro j hj; simp at hj; (repeat' (first | (rcases hj with rfl | hj))) <;> first | (subst hj; exact ⟨_, _, _, rfl⟩) | exact ⟨_, _, _, rfl⟩))))
        Rg.steps_nil))))))))) ?_
    intro v6 V6 hG6 hv6 hne6
    simp only [Rg.puts, List.take_succ_cons, List.take_zero, List.drop_succ_cons, List.drop_zero, Act.put, List.setIfInBounds_toArray, List.set_cons_zero, List.set_cons_succ]
    have e0 : v6 0 = .pointer (some ⟨w.heap.size, 0, none⟩) := hv6 0 (by decide)
    have e2 : v6 2 = .pointer (some ⟨w.heap.size, 2, none⟩) := hv6 2 (by decide)
    have e7 : v6 7 = .int .i64 ae := hv6 7 (by decide)
    obtain ⟨b6_8, e8, hge8, hz8⟩ := (show NewB 23 [.v (.int .i64 0), .v (.int .i64 0)] U5_0.heap.size V6 (v6 8) from hv6 8 (by decide))
    simp only [e0, e2, e7, e8]
    have hO := hG6.1
    replace hO := Own.add (unhide HO) hG6.2 hge8 hz8
    clear hge8 hz8
    refine tl_store (xs := []) (ys := [(b5_8, 23, [.v (.int .i64 an), .v (.int .i64 ad)]), (b4_7, 35, [.v (.int .i64 mn), .v (.int .i64 md), .v (.int .i64 mn), .v (.int .i64 md)]), (b3_6, 35, [.v (.int .i64 xa1), .v (.int .i64 xb1), .v (.int .i64 xc1), .v (.int .i64 xd1)]), (b1_7, 35, [.v (.int .i64 h5), .v (.int .i64 h6), .v (.int .i64 h7), .v (.int .i64 h8)]), (b1_6, 35, [.v (.int .i64 h1), .v (.int .i64 h2), .v (.int .i64 h3), .v (.int .i64 h4)]), (w.heap.size, 35, [.v (.int .i64 xa1), .v (.int .i64 xb1), .v (.int .i64 xc1), .v (.int .i64 xd1)])]) (pre := []) (old := [.v (.int .i64 0), .v (.int .i64 0)]) (new := [.v (.int .i64 an), .v (.int .i64 ad)]) (post := []) (b := b6_8) (off := 0) store_r rfl (show AggT [.v (.int .i64 an), .v (.int .i64 ad)] V6 (v6 6) from hv6 6 (by decide)) hO rfl rfl rfl ?_
    intro U6_0 hO0 hk0
    replace hO : Own w [(b6_8, 23, [.v (.int .i64 an), .v (.int .i64 ad)]), (b5_8, 23, [.v (.int .i64 an), .v (.int .i64 ad)]), (b4_7, 35, [.v (.int .i64 mn), .v (.int .i64 md), .v (.int .i64 mn), .v (.int .i64 md)]), (b3_6, 35, [.v (.int .i64 xa1), .v (.int .i64 xb1), .v (.int .i64 xc1), .v (.int .i64 xd1)]), (b1_7, 35, [.v (.int .i64 h5), .v (.int .i64 h6), .v (.int .i64 h7), .v (.int .i64 h8)]), (b1_6, 35, [.v (.int .i64 h1), .v (.int .i64 h2), .v (.int .i64 h3), .v (.int .i64 h4)]), (w.heap.size, 35, [.v (.int .i64 xa1), .v (.int .i64 xb1), .v (.int .i64 xc1), .v (.int .i64 xd1)])] U6_0 := hO0
    clear hO0
    clear HO
    have HO := hide hO
    clear hO hG6 hv6 hne6 hk0
    try clear e0 e2 e7 e8
    by_cases g1 : ae = 0
    · have k2 : (ae != 0) = false := by simp [bne, beq_iff_eq.2 g1]
      clear g1
      go_upto_region 8 with fail
      refine Rg.regionS 38 90 (Rg.pick [AggT [.v (.int .i64 xa1), .v (.int .i64 xb1), .v (.int .i64 xc1), .v (.int .i64 xd1)], AggT [.v (.int .i64 xa1), .v (.int .i64 xb1), .v (.int .i64 xc1), .v (.int .i64 xd1)], Rg.EqT (.bool true), Rg.EqT (.bool true), Rg.EqT (.int .i64 0), Rg.EqT (.bool true), Rg.EqT (.bool true), Rg.EqT (.bool true), Rg.EqT (.bool true), Rg.EqT (.bool true), Rg.EqT (.bool true), Rg.EqT (.int .i64 0), Rg.EqT (.bool true), Rg.EqT (.bool true), Rg.EqT (.bool true), Rg.EqT (.pointer (some ⟨b4_7, 0, none⟩)), AggT [.v (.int .i64 mn), .v (.int .i64 md)], Rg.EqT (.pointer (some ⟨b4_7, 2, none⟩)), AggT [.v (.int .i64 mn), .v (.int .i64 md)], Rg.EqT (.bool true), Rg.EqT (.bool true), Rg.EqT (.bool true), Rg.EqT (.int .i64 ae), Rg.EqT (.bool false), Rg.EqT (.bool false), Rg.EqT (.int .i64 ae), Rg.EqT (.bool false), Rg.EqT (.bool false), Rg.EqT (.bool false), AggT [.v (.int .i64 an), .v (.int .i64 ad)], AggT [.v (.int .i64 an), .v (.int .i64 ad)], Rg.EqT (.bool true), Rg.EqT (.bool true), Rg.EqT (.bool true), Rg.EqT (.bool true), Rg.EqT (.bool true), Rg.EqT (.bool true), Rg.EqT (.bool true)]) (OwnG w [(b6_8, 23, [.v (.int .i64 an), .v (.int .i64 ad)]), (b5_8, 23, [.v (.int .i64 an), .v (.int .i64 ad)]), (b4_7, 35, [.v (.int .i64 mn), .v (.int .i64 md), .v (.int .i64 mn), .v (.int .i64 md)]), (b3_6, 35, [.v (.int .i64 xa1), .v (.int .i64 xb1), .v (.int .i64 xc1), .v (.int .i64 xd1)]), (b1_7, 35, [.v (.int .i64 h5), .v (.int .i64 h6), .v (.int .i64 h7), .v (.int .i64 h8)]), (b1_6, 35, [.v (.int .i64 h1), .v (.int .i64 h2), .v (.int .i64 h3), .v (.int .i64 h4)]), (w.heap.size, 35, [.v (.int .i64 xa1), .v (.int .i64 xb1), .v (.int .i64 xc1), .v (.int .i64 xd1)])] U6_0) Bel [] (by kernel_rfl) rfl (Rg.Stabs.pick ⟨stab_agg _, stab_agg _, Rg.stab_eq _, Rg.stab_eq _, Rg.stab_eq _, Rg.stab_eq _, Rg.stab_eq _, Rg.stab_eq _, Rg.stab_eq _, Rg.stab_eq _, Rg.stab_eq _, Rg.stab_eq _, Rg.stab_eq _, Rg.stab_eq _, Rg.stab_eq _, Rg.stab_eq _, stab_agg _, Rg.stab_eq _, stab_agg _, Rg.stab_eq _, Rg.stab_eq _, Rg.stab_eq _, Rg.stab_eq _, Rg.stab_eq _, Rg.stab_eq _, Rg.stab_eq _, Rg.stab_eq _, Rg.stab_eq _, Rg.stab_eq _, stab_agg _, stab_agg _, Rg.stab_eq _, Rg.stab_eq _, Rg.stab_eq _, Rg.stab_eq _, Rg.stab_eq _, Rg.stab_eq _, Rg.stab_eq _, trivial⟩) (OwnG.begin (unhide HO))
        (Rg.steps_cons (Rg.plain rfl (s_load (b := b3_6) (off := 0) (TB := 35) (pre := []) (mid := [.v (.int .i64 xa1), .v (.int .i64 xb1), .v (.int .i64 xc1), .v (.int .i64 xd1)]) (post := []) load_s rfl (Rg.argF (by kernel_rfl) rfl) (fun W h => OwnG.box (List.Mem.tail _ (List.Mem.tail _ (List.Mem.tail _ (List.Mem.head _)))) h) rfl rfl rfl))
          (Rg.steps_cons (Rg.plain rfl (s_load (b := w.heap.size) (off := 0) (TB := 35) (pre := []) (mid := [.v (.int .i64 xa1), .v (.int .i64 xb1), .v (.int .i64 xc1), .v (.int .i64 xd1)]) (post := []) load_s rfl (Rg.argF (by kernel_rfl) rfl) (fun W h => OwnG.box (List.Mem.tail _ (List.Mem.tail _ (List.Mem.tail _ (List.Mem.tail _ (List.Mem.tail _ (List.Mem.tail _ (List.Mem.head _))))))) h) rfl rfl rfl))
          (Rg.steps_cons (Rg.plain rfl (s_eqls rfl (Rg.argT 0 (by kernel_rfl)) (Rg.argT 1 (by kernel_rfl)) (decide_eq_true ⟨rfl, rfl, rfl, rfl⟩) rfl))
          (Rg.steps_cons (Rg.plain rfl (s_move rfl (Rg.argT 2 (by kernel_rfl))))
          (Rg.steps_cons (Rg.guard_yes (d := 56) rfl (by kernel_rfl) rfl (s_move rfl (Rg.argF (by kernel_rfl) rfl)))
          (Rg.steps_cons (Rg.guard_yes (d := 56) rfl (by kernel_rfl) rfl (s_eqlE rfl (Rg.argT 4 (by kernel_rfl)) (Rg.argC _) rfl rfl))
          (Rg.steps_cons (Rg.plain rfl (s_pick_t rfl (Rg.argT 3 (by kernel_rfl)) (Rg.argT 5 (by kernel_rfl))))
          (Rg.steps_cons (Rg.plain rfl (s_move rfl (Rg.argT 6 (by kernel_rfl))))
          (Rg.steps_cons (Rg.guard_yes (d := 60) rfl (by kernel_rfl) rfl (s_move rfl (Rg.argF (by kernel_rfl) rfl)))
          (Rg.steps_cons (Rg.plain rfl (s_pick_t rfl (Rg.argT 7 (by kernel_rfl)) (Rg.argT 8 (by kernel_rfl))))
          (Rg.steps_cons (Rg.plain rfl (s_move rfl (Rg.argT 9 (by kernel_rfl))))
          (Rg.steps_cons (Rg.guard_yes (d := 63) rfl (by kernel_rfl) rfl (s_move rfl (Rg.argF (by kernel_rfl) rfl)))
          (Rg.steps_cons (Rg.guard_yes (d := 63) rfl (by kernel_rfl) rfl (s_eqlE rfl (Rg.argT 11 (by kernel_rfl)) (Rg.argC _) rfl rfl))
          (Rg.steps_cons (Rg.plain rfl (s_pick_t rfl (Rg.argT 10 (by kernel_rfl)) (Rg.argT 12 (by kernel_rfl))))
          (Rg.steps_cons (Rg.plain rfl (s_move rfl (Rg.argT 13 (by kernel_rfl))))
          (Rg.steps_cons (Rg.guard_yes (d := 67) rfl (by kernel_rfl) rfl (s_addr_s0 (b := b4_7) (off := 0) rfl (Rg.argF (by kernel_rfl) rfl) rfl rfl))
          (Rg.steps_cons (Rg.guard_yes (d := 67) rfl (by kernel_rfl) rfl (s_load (b := b4_7) (off := 0) (TB := 35) (pre := []) (mid := [.v (.int .i64 mn), .v (.int .i64 md)]) (post := [.v (.int .i64 mn), .v (.int .i64 md)]) load_r rfl (Rg.argT 15 (by kernel_rfl)) (fun W h => OwnG.box (List.Mem.tail _ (List.Mem.tail _ (List.Mem.head _))) h) rfl rfl rfl))
          (Rg.steps_cons (Rg.guard_yes (d := 67) rfl (by kernel_rfl) rfl (s_addr_s1 (b := b4_7) (off := 0) rfl (Rg.argF (by kernel_rfl) rfl) rfl rfl))
          (Rg.steps_cons (Rg.guard_yes (d := 67) rfl (by kernel_rfl) rfl (s_load (b := b4_7) (off := 2) (TB := 35) (pre := [.v (.int .i64 mn), .v (.int .i64 md)]) (mid := [.v (.int .i64 mn), .v (.int .i64 md)]) (post := []) load_r rfl (Rg.argT 17 (by kernel_rfl)) (fun W h => OwnG.box (List.Mem.tail _ (List.Mem.tail _ (List.Mem.head _))) h) rfl rfl rfl))
          (Rg.steps_cons (Rg.guard_yes (d := 67) rfl (by kernel_rfl) rfl (s_eqlr rfl (Rg.argT 16 (by kernel_rfl)) (Rg.argT 18 (by kernel_rfl)) (decide_eq_true ⟨rfl, rfl⟩) rfl))
          (Rg.steps_cons (Rg.plain rfl (s_pick_t rfl (Rg.argT 14 (by kernel_rfl)) (Rg.argT 19 (by kernel_rfl))))
          (Rg.steps_cons (Rg.plain rfl (s_move rfl (Rg.argT 20 (by kernel_rfl))))
          (Rg.steps_cons (Rg.guard_yes (d := 74) rfl (by kernel_rfl) rfl (s_move rfl (Rg.argF (by kernel_rfl) rfl)))
          (Rg.steps_cons (Rg.guard_yes (d := 74) rfl (by kernel_rfl) rfl (s_neqE rfl (Rg.argT 22 (by kernel_rfl)) (Rg.argC _) rfl k2))
          (Rg.steps_cons (Rg.guard_yes (d := 74) rfl (by kernel_rfl) rfl (s_move rfl (Rg.argT 23 (by kernel_rfl))))
          (Rg.steps_cons (Rg.guard_yes (d := 77) rfl (by kernel_rfl) rfl (s_move rfl (Rg.argF (by kernel_rfl) rfl)))
          (Rg.steps_cons (Rg.guard_yes (d := 77) rfl (by kernel_rfl) rfl (s_neqE rfl (Rg.argT 25 (by kernel_rfl)) (Rg.argC _) rfl k2))
          (Rg.steps_cons (Rg.guard_yes (d := 74) rfl (by kernel_rfl) rfl (s_pick_f rfl (Rg.argT 24 (by kernel_rfl)) (Rg.argT 26 (by kernel_rfl))))
          (Rg.steps_cons (Rg.guard_yes (d := 74) rfl (by kernel_rfl) rfl (s_move rfl (Rg.argT 27 (by kernel_rfl))))
          (Rg.steps_cons (Rg.guard_yes (d := 81) rfl (by kernel_rfl) rfl (s_load (b := b5_8) (off := 0) (TB := 23) (pre := []) (mid := [.v (.int .i64 an), .v (.int .i64 ad)]) (post := []) load_r rfl (Rg.argF (by kernel_rfl) rfl) (fun W h => OwnG.box (List.Mem.tail _ (List.Mem.head _)) h) rfl rfl rfl))
          (Rg.steps_cons (Rg.guard_yes (d := 81) rfl (by kernel_rfl) rfl (s_load (b := b6_8) (off := 0) (TB := 23) (pre := []) (mid := [.v (.int .i64 an), .v (.int .i64 ad)]) (post := []) load_r rfl (Rg.argF (by kernel_rfl) rfl) (fun W h => OwnG.box (List.Mem.head _) h) rfl rfl rfl))
          (Rg.steps_cons (Rg.guard_yes (d := 81) rfl (by kernel_rfl) rfl (s_eqlr rfl (Rg.argT 29 (by kernel_rfl)) (Rg.argT 30 (by kernel_rfl)) (decide_eq_true ⟨rfl, rfl⟩) rfl))
          (Rg.steps_cons (Rg.guard_yes (d := 74) rfl (by kernel_rfl) rfl (s_pick_f rfl (Rg.argT 28 (by kernel_rfl)) (Rg.argT 31 (by kernel_rfl))))
          (Rg.steps_cons (Rg.plain rfl (s_pick_t rfl (Rg.argT 21 (by kernel_rfl)) (Rg.argT 32 (by kernel_rfl))))
          (Rg.steps_cons (Rg.plain rfl (s_move rfl (Rg.argT 33 (by kernel_rfl))))
          (Rg.steps_cons (Rg.guard_yes (d := 87) rfl (by kernel_rfl) rfl (s_call0 Tryd.func18 (by kernel_rfl) rfl OwnG.step  (fun W  hG  => known_span W ((unhide HT).below hG.bel))))
          (Rg.steps_cons (Rg.plain rfl (s_pick_t rfl (Rg.argT 34 (by kernel_rfl)) (Rg.argT 35 (by kernel_rfl))))
          (Rg.steps_cons (Rg.plain rfl (s_assign rfl (Rg.argT 36 (by kernel_rfl))))
          Rg.steps_nil)))))))))))))))))))))))))))))))))))))) ?_
      intro v7 V7 hG7 hv7 hne7
      simp only [Rg.puts, List.take_succ_cons, List.take_zero, List.drop_succ_cons, List.drop_zero, Act.put, List.setIfInBounds_toArray, List.set_cons_zero, List.set_cons_succ]
      have e2 : v7 2 = .bool true := hv7 2 (by decide)
      have e3 : v7 3 = .bool true := hv7 3 (by decide)
      have e4 : v7 4 = .int .i64 0 := hv7 4 (by decide)
      have e5 : v7 5 = .bool true := hv7 5 (by decide)
      have e6 : v7 6 = .bool true := hv7 6 (by decide)
      have e7 : v7 7 = .bool true := hv7 7 (by decide)
      have e8 : v7 8 = .bool true := hv7 8 (by decide)
      have e9 : v7 9 = .bool true := hv7 9 (by decide)
      have e10 : v7 10 = .bool true := hv7 10 (by decide)
      have e11 : v7 11 = .int .i64 0 := hv7 11 (by decide)
      have e12 : v7 12 = .bool true := hv7 12 (by decide)
      have e13 : v7 13 = .bool true := hv7 13 (by decide)
      have e14 : v7 14 = .bool true := hv7 14 (by decide)
      have e15 : v7 15 = .pointer (some ⟨b4_7, 0, none⟩) := hv7 15 (by decide)
      have e17 : v7 17 = .pointer (some ⟨b4_7, 2, none⟩) := hv7 17 (by decide)
      have e19 : v7 19 = .bool true := hv7 19 (by decide)
      have e20 : v7 20 = .bool true := hv7 20 (by decide)
      have e21 : v7 21 = .bool true := hv7 21 (by decide)
      have e22 : v7 22 = .int .i64 ae := hv7 22 (by decide)
      have e23 : v7 23 = .bool false := hv7 23 (by decide)
      have e24 : v7 24 = .bool false := hv7 24 (by decide)
      have e25 : v7 25 = .int .i64 ae := hv7 25 (by decide)
      have e26 : v7 26 = .bool false := hv7 26 (by decide)
      have e27 : v7 27 = .bool false := hv7 27 (by decide)
      have e28 : v7 28 = .bool false := hv7 28 (by decide)
      have e31 : v7 31 = .bool true := hv7 31 (by decide)
      have e32 : v7 32 = .bool true := hv7 32 (by decide)
      have e33 : v7 33 = .bool true := hv7 33 (by decide)
      have e34 : v7 34 = .bool true := hv7 34 (by decide)
      have e35 : v7 35 = .bool true := hv7 35 (by decide)
      have e36 : v7 36 = .bool true := hv7 36 (by decide)
      have e37 : v7 37 = .bool true := hv7 37 (by decide)
      simp only [e2, e3, e4, e5, e6, e7, e8, e9, e10, e11, e12, e13, e14, e15, e17, e19, e20, e21, e22, e23, e24, e25, e26, e27, e28, e31, e32, e33, e34, e35, e36, e37]
      have hO := hG7.1
      clear HO
      have HO := hide hO
      clear hO hG7 hv7 hne7
      try clear e2 e3 e4 e5 e6 e7 e8 e9 e10 e11 e12 e13 e14 e15 e17 e19 e20 e21 e22 e23 e24 e25 e26 e27 e28 e31 e32 e33 e34 e35 e36 e37
      go_wp2_with fail
      exact end_t Tryd.results5 rfl (unhide HO).bel rfl
    · have k2 : (ae != 0) = true := by simp [bne, beq_eq_false_iff_ne.2 g1]
      clear g1
      go_upto_region 8 with fail
      refine Rg.regionS 38 90 (Rg.pick [AggT [.v (.int .i64 xa1), .v (.int .i64 xb1), .v (.int .i64 xc1), .v (.int .i64 xd1)], AggT [.v (.int .i64 xa1), .v (.int .i64 xb1), .v (.int .i64 xc1), .v (.int .i64 xd1)], Rg.EqT (.bool true), Rg.EqT (.bool true), Rg.EqT (.int .i64 0), Rg.EqT (.bool true), Rg.EqT (.bool true), Rg.EqT (.bool true), Rg.EqT (.bool true), Rg.EqT (.bool true), Rg.EqT (.bool true), Rg.EqT (.int .i64 0), Rg.EqT (.bool true), Rg.EqT (.bool true), Rg.EqT (.bool true), Rg.EqT (.pointer (some ⟨b4_7, 0, none⟩)), AggT [.v (.int .i64 mn), .v (.int .i64 md)], Rg.EqT (.pointer (some ⟨b4_7, 2, none⟩)), AggT [.v (.int .i64 mn), .v (.int .i64 md)], Rg.EqT (.bool true), Rg.EqT (.bool true), Rg.EqT (.bool true), Rg.EqT (.int .i64 ae), Rg.EqT (.bool true), Rg.EqT (.bool true), Rg.EqT undef, Rg.EqT undef, Rg.EqT (.bool true), Rg.EqT (.bool true), Rg.EqT undef, Rg.EqT undef, Rg.EqT undef, Rg.EqT (.bool true), Rg.EqT (.bool true), Rg.EqT (.bool true), Rg.EqT (.bool true), Rg.EqT (.bool true), Rg.EqT (.bool true)]) (OwnG w [(b6_8, 23, [.v (.int .i64 an), .v (.int .i64 ad)]), (b5_8, 23, [.v (.int .i64 an), .v (.int .i64 ad)]), (b4_7, 35, [.v (.int .i64 mn), .v (.int .i64 md), .v (.int .i64 mn), .v (.int .i64 md)]), (b3_6, 35, [.v (.int .i64 xa1), .v (.int .i64 xb1), .v (.int .i64 xc1), .v (.int .i64 xd1)]), (b1_7, 35, [.v (.int .i64 h5), .v (.int .i64 h6), .v (.int .i64 h7), .v (.int .i64 h8)]), (b1_6, 35, [.v (.int .i64 h1), .v (.int .i64 h2), .v (.int .i64 h3), .v (.int .i64 h4)]), (w.heap.size, 35, [.v (.int .i64 xa1), .v (.int .i64 xb1), .v (.int .i64 xc1), .v (.int .i64 xd1)])] U6_0) Bel [] (by kernel_rfl) rfl (Rg.Stabs.pick ⟨stab_agg _, stab_agg _, Rg.stab_eq _, Rg.stab_eq _, Rg.stab_eq _, Rg.stab_eq _, Rg.stab_eq _, Rg.stab_eq _, Rg.stab_eq _, Rg.stab_eq _, Rg.stab_eq _, Rg.stab_eq _, Rg.stab_eq _, Rg.stab_eq _, Rg.stab_eq _, Rg.stab_eq _, stab_agg _, Rg.stab_eq _, stab_agg _, Rg.stab_eq _, Rg.stab_eq _, Rg.stab_eq _, Rg.stab_eq _, Rg.stab_eq _, Rg.stab_eq _, Rg.stab_eq _, Rg.stab_eq _, Rg.stab_eq _, Rg.stab_eq _, Rg.stab_eq _, Rg.stab_eq _, Rg.stab_eq _, Rg.stab_eq _, Rg.stab_eq _, Rg.stab_eq _, Rg.stab_eq _, Rg.stab_eq _, Rg.stab_eq _, trivial⟩) (OwnG.begin (unhide HO))
        (Rg.steps_cons (Rg.plain rfl (s_load (b := b3_6) (off := 0) (TB := 35) (pre := []) (mid := [.v (.int .i64 xa1), .v (.int .i64 xb1), .v (.int .i64 xc1), .v (.int .i64 xd1)]) (post := []) load_s rfl (Rg.argF (by kernel_rfl) rfl) (fun W h => OwnG.box (List.Mem.tail _ (List.Mem.tail _ (List.Mem.tail _ (List.Mem.head _)))) h) rfl rfl rfl))
          (Rg.steps_cons (Rg.plain rfl (s_load (b := w.heap.size) (off := 0) (TB := 35) (pre := []) (mid := [.v (.int .i64 xa1), .v (.int .i64 xb1), .v (.int .i64 xc1), .v (.int .i64 xd1)]) (post := []) load_s rfl (Rg.argF (by kernel_rfl) rfl) (fun W h => OwnG.box (List.Mem.tail _ (List.Mem.tail _ (List.Mem.tail _ (List.Mem.tail _ (List.Mem.tail _ (List.Mem.tail _ (List.Mem.head _))))))) h) rfl rfl rfl))
          (Rg.steps_cons (Rg.plain rfl (s_eqls rfl (Rg.argT 0 (by kernel_rfl)) (Rg.argT 1 (by kernel_rfl)) (decide_eq_true ⟨rfl, rfl, rfl, rfl⟩) rfl))
          (Rg.steps_cons (Rg.plain rfl (s_move rfl (Rg.argT 2 (by kernel_rfl))))
          (Rg.steps_cons (Rg.guard_yes (d := 56) rfl (by kernel_rfl) rfl (s_move rfl (Rg.argF (by kernel_rfl) rfl)))
          (Rg.steps_cons (Rg.guard_yes (d := 56) rfl (by kernel_rfl) rfl (s_eqlE rfl (Rg.argT 4 (by kernel_rfl)) (Rg.argC _) rfl rfl))
          (Rg.steps_cons (Rg.plain rfl (s_pick_t rfl (Rg.argT 3 (by kernel_rfl)) (Rg.argT 5 (by kernel_rfl))))
          (Rg.steps_cons (Rg.plain rfl (s_move rfl (Rg.argT 6 (by kernel_rfl))))
          (Rg.steps_cons (Rg.guard_yes (d := 60) rfl (by kernel_rfl) rfl (s_move rfl (Rg.argF (by kernel_rfl) rfl)))
          (Rg.steps_cons (Rg.plain rfl (s_pick_t rfl (Rg.argT 7 (by kernel_rfl)) (Rg.argT 8 (by kernel_rfl))))
          (Rg.steps_cons (Rg.plain rfl (s_move rfl (Rg.argT 9 (by kernel_rfl))))
          (Rg.steps_cons (Rg.guard_yes (d := 63) rfl (by kernel_rfl) rfl (s_move rfl (Rg.argF (by kernel_rfl) rfl)))
          (Rg.steps_cons (Rg.guard_yes (d := 63) rfl (by kernel_rfl) rfl (s_eqlE rfl (Rg.argT 11 (by kernel_rfl)) (Rg.argC _) rfl rfl))
          (Rg.steps_cons (Rg.plain rfl (s_pick_t rfl (Rg.argT 10 (by kernel_rfl)) (Rg.argT 12 (by kernel_rfl))))
          (Rg.steps_cons (Rg.plain rfl (s_move rfl (Rg.argT 13 (by kernel_rfl))))
          (Rg.steps_cons (Rg.guard_yes (d := 67) rfl (by kernel_rfl) rfl (s_addr_s0 (b := b4_7) (off := 0) rfl (Rg.argF (by kernel_rfl) rfl) rfl rfl))
          (Rg.steps_cons (Rg.guard_yes (d := 67) rfl (by kernel_rfl) rfl (s_load (b := b4_7) (off := 0) (TB := 35) (pre := []) (mid := [.v (.int .i64 mn), .v (.int .i64 md)]) (post := [.v (.int .i64 mn), .v (.int .i64 md)]) load_r rfl (Rg.argT 15 (by kernel_rfl)) (fun W h => OwnG.box (List.Mem.tail _ (List.Mem.tail _ (List.Mem.head _))) h) rfl rfl rfl))
          (Rg.steps_cons (Rg.guard_yes (d := 67) rfl (by kernel_rfl) rfl (s_addr_s1 (b := b4_7) (off := 0) rfl (Rg.argF (by kernel_rfl) rfl) rfl rfl))
          (Rg.steps_cons (Rg.guard_yes (d := 67) rfl (by kernel_rfl) rfl (s_load (b := b4_7) (off := 2) (TB := 35) (pre := [.v (.int .i64 mn), .v (.int .i64 md)]) (mid := [.v (.int .i64 mn), .v (.int .i64 md)]) (post := []) load_r rfl (Rg.argT 17 (by kernel_rfl)) (fun W h => OwnG.box (List.Mem.tail _ (List.Mem.tail _ (List.Mem.head _))) h) rfl rfl rfl))
          (Rg.steps_cons (Rg.guard_yes (d := 67) rfl (by kernel_rfl) rfl (s_eqlr rfl (Rg.argT 16 (by kernel_rfl)) (Rg.argT 18 (by kernel_rfl)) (decide_eq_true ⟨rfl, rfl⟩) rfl))
          (Rg.steps_cons (Rg.plain rfl (s_pick_t rfl (Rg.argT 14 (by kernel_rfl)) (Rg.argT 19 (by kernel_rfl))))
          (Rg.steps_cons (Rg.plain rfl (s_move rfl (Rg.argT 20 (by kernel_rfl))))
          (Rg.steps_cons (Rg.guard_yes (d := 74) rfl (by kernel_rfl) rfl (s_move rfl (Rg.argF (by kernel_rfl) rfl)))
          (Rg.steps_cons (Rg.guard_yes (d := 74) rfl (by kernel_rfl) rfl (s_neqE rfl (Rg.argT 22 (by kernel_rfl)) (Rg.argC _) rfl k2))
          (Rg.steps_cons (Rg.guard_yes (d := 74) rfl (by kernel_rfl) rfl (s_move rfl (Rg.argT 23 (by kernel_rfl))))
          (Rg.steps_cons (Rg.guard_no (d := 77) rfl (by kernel_rfl) rfl rfl bel_refl rfl rfl)
          (Rg.steps_cons (Rg.guard_no (d := 77) rfl (by kernel_rfl) rfl rfl bel_refl rfl rfl)
          (Rg.steps_cons (Rg.guard_yes (d := 74) rfl (by kernel_rfl) rfl (s_pick_t rfl (Rg.argT 24 (by kernel_rfl)) (Rg.argC _)))
          (Rg.steps_cons (Rg.guard_yes (d := 74) rfl (by kernel_rfl) rfl (s_move rfl (Rg.argT 27 (by kernel_rfl))))
          (Rg.steps_cons (Rg.guard_no (d := 81) rfl (by kernel_rfl) rfl rfl bel_refl rfl rfl)
          (Rg.steps_cons (Rg.guard_no (d := 81) rfl (by kernel_rfl) rfl rfl bel_refl rfl rfl)
          (Rg.steps_cons (Rg.guard_no (d := 81) rfl (by kernel_rfl) rfl rfl bel_refl rfl rfl)
          (Rg.steps_cons (Rg.guard_yes (d := 74) rfl (by kernel_rfl) rfl (s_pick_t rfl (Rg.argT 28 (by kernel_rfl)) (Rg.argC _)))
          (Rg.steps_cons (Rg.plain rfl (s_pick_t rfl (Rg.argT 21 (by kernel_rfl)) (Rg.argT 32 (by kernel_rfl))))
          (Rg.steps_cons (Rg.plain rfl (s_move rfl (Rg.argT 33 (by kernel_rfl))))
          (Rg.steps_cons (Rg.guard_yes (d := 87) rfl (by kernel_rfl) rfl (s_call0 Tryd.func18 (by kernel_rfl) rfl OwnG.step  (fun W  hG  => known_span W ((unhide HT).below hG.bel))))
          (Rg.steps_cons (Rg.plain rfl (s_pick_t rfl (Rg.argT 34 (by kernel_rfl)) (Rg.argT 35 (by kernel_rfl))))
          (Rg.steps_cons (Rg.plain rfl (s_assign rfl (Rg.argT 36 (by kernel_rfl))))
          Rg.steps_nil)))))))))))))))))))))))))))))))))))))) ?_
      intro v7 V7 hG7 hv7 hne7
      simp only [Rg.puts, List.take_succ_cons, List.take_zero, List.drop_succ_cons, List.drop_zero, Act.put, List.setIfInBounds_toArray, List.set_cons_zero, List.set_cons_succ]
      have e2 : v7 2 = .bool true := hv7 2 (by decide)
      have e3 : v7 3 = .bool true := hv7 3 (by decide)
      have e4 : v7 4 = .int .i64 0 := hv7 4 (by decide)
      have e5 : v7 5 = .bool true := hv7 5 (by decide)
      have e6 : v7 6 = .bool true := hv7 6 (by decide)
      have e7 : v7 7 = .bool true := hv7 7 (by decide)
      have e8 : v7 8 = .bool true := hv7 8 (by decide)
      have e9 : v7 9 = .bool true := hv7 9 (by decide)
      have e10 : v7 10 = .bool true := hv7 10 (by decide)
      have e11 : v7 11 = .int .i64 0 := hv7 11 (by decide)
      have e12 : v7 12 = .bool true := hv7 12 (by decide)
      have e13 : v7 13 = .bool true := hv7 13 (by decide)
      have e14 : v7 14 = .bool true := hv7 14 (by decide)
      have e15 : v7 15 = .pointer (some ⟨b4_7, 0, none⟩) := hv7 15 (by decide)
      have e17 : v7 17 = .pointer (some ⟨b4_7, 2, none⟩) := hv7 17 (by decide)
      have e19 : v7 19 = .bool true := hv7 19 (by decide)
      have e20 : v7 20 = .bool true := hv7 20 (by decide)
      have e21 : v7 21 = .bool true := hv7 21 (by decide)
      have e22 : v7 22 = .int .i64 ae := hv7 22 (by decide)
      have e23 : v7 23 = .bool true := hv7 23 (by decide)
      have e24 : v7 24 = .bool true := hv7 24 (by decide)
      have e25 : v7 25 = undef := hv7 25 (by decide)
      have e26 : v7 26 = undef := hv7 26 (by decide)
      have e27 : v7 27 = .bool true := hv7 27 (by decide)
      have e28 : v7 28 = .bool true := hv7 28 (by decide)
      have e29 : v7 29 = undef := hv7 29 (by decide)
      have e30 : v7 30 = undef := hv7 30 (by decide)
      have e31 : v7 31 = undef := hv7 31 (by decide)
      have e32 : v7 32 = .bool true := hv7 32 (by decide)
      have e33 : v7 33 = .bool true := hv7 33 (by decide)
      have e34 : v7 34 = .bool true := hv7 34 (by decide)
      have e35 : v7 35 = .bool true := hv7 35 (by decide)
      have e36 : v7 36 = .bool true := hv7 36 (by decide)
      have e37 : v7 37 = .bool true := hv7 37 (by decide)
      simp only [e2, e3, e4, e5, e6, e7, e8, e9, e10, e11, e12, e13, e14, e15, e17, e19, e20, e21, e22, e23, e24, e25, e26, e27, e28, e29, e30, e31, e32, e33, e34, e35, e36, e37]
      have hO := hG7.1
      clear HO
      have HO := hide hO
      clear hO hG7 hv7 hne7
      try clear e2 e3 e4 e5 e6 e7 e8 e9 e10 e11 e12 e13 e14 e15 e17 e19 e20 e21 e22 e23 e24 e25 e26 e27 e28 e29 e30 e31 e32 e33 e34 e35 e36 e37
      go_wp2_with fail
      exact end_t Tryd.results5 rfl (unhide HO).bel rfl
  · have k1 : (he != 0) = true := by simp [bne, beq_eq_false_iff_ne.2 g0]
    go_upto_region 2 with fail
    refine Rg.regionS 2 90 (Rg.pick [Rg.EqT (.int .i64 he), Rg.EqT (.bool true)]) (OwnG w [(b1_7, 35, [.v (.int .i64 h5), .v (.int .i64 h6), .v (.int .i64 h7), .v (.int .i64 h8)]), (b1_6, 35, [.v (.int .i64 h1), .v (.int .i64 h2), .v (.int .i64 h3), .v (.int .i64 h4)]), (w.heap.size, 35, [.v (.int .i64 xa1), .v (.int .i64 xb1), .v (.int .i64 xc1), .v (.int .i64 xd1)])] U1_1) Bel [] (by kernel_rfl) rfl (Rg.Stabs.pick ⟨Rg.stab_eq _, Rg.stab_eq _, trivial⟩) (OwnG.begin (unhide HO))
      (Rg.steps_cons (Rg.plain rfl (s_move rfl (Rg.argF (by kernel_rfl) rfl)))
        (Rg.steps_cons (Rg.plain rfl (s_neqE rfl (Rg.argT 0 (by kernel_rfl)) (Rg.argC _) rfl k1))
        Rg.steps_nil)) ?_
    intro v2 V2 hG2 hv2 hne2
    simp only [Rg.puts, List.take_succ_cons, List.take_zero, List.drop_succ_cons, List.drop_zero, Act.put, List.setIfInBounds_toArray, List.set_cons_zero, List.set_cons_succ]
    have e0 : v2 0 = .int .i64 he := hv2 0 (by decide)
    have e1 : v2 1 = .bool true := hv2 1 (by decide)
    simp only [e0, e1]
    have hO := hG2.1
    clear HO
    have HO := hide hO
    clear hO hG2 hv2 hne2
    try clear e0 e1
    go_upto_region 3 with fail
    refine Rg.regionS 2 90 (Rg.pick [Rg.EqT (.bool true), Rg.EqT (.bool true)]) (OwnG w [(b1_7, 35, [.v (.int .i64 h5), .v (.int .i64 h6), .v (.int .i64 h7), .v (.int .i64 h8)]), (b1_6, 35, [.v (.int .i64 h1), .v (.int .i64 h2), .v (.int .i64 h3), .v (.int .i64 h4)]), (w.heap.size, 35, [.v (.int .i64 xa1), .v (.int .i64 xb1), .v (.int .i64 xc1), .v (.int .i64 xd1)])] V2) Bel [] (by kernel_rfl) rfl (Rg.Stabs.pick ⟨Rg.stab_eq _, Rg.stab_eq _, trivial⟩) (OwnG.begin (unhide HO))
      (Rg.steps_cons (Rg.plain rfl (s_call0 Tryd.func18 (by kernel_rfl) rfl OwnG.step  (fun W  hG  => known_span W ((unhide HT).below hG.bel))))
        (Rg.steps_cons (Rg.plain rfl (s_assign rfl (Rg.argT 0 (by kernel_rfl))))
        Rg.steps_nil)) ?_
    intro v3 V3 hG3 hv3 hne3
    simp only [Rg.puts, List.take_succ_cons, List.take_zero, List.drop_succ_cons, List.drop_zero, Act.put, List.setIfInBounds_toArray, List.set_cons_zero, List.set_cons_succ]
    have e0 : v3 0 = .bool true := hv3 0 (by decide)
    have e1 : v3 1 = .bool true := hv3 1 (by decide)
    simp only [e0, e1]
    have hO := hG3.1
    clear HO
    have HO := hide hO
    clear hO hG3 hv3 hne3
    try clear e0 e1
    go_wp2_with fail
    exact end_t Tryd.results5 rfl (unhide HO).bel rfl
theorem sgn_lt_iff (x y : Rat) : sgn (y.num * x.den - x.num * y.den) < 0 ↔ y < x := by
  rw [Rat.lt_iff]
  unfold sgn; (repeat' split) <;> omega
theorem sgn_gt_iff (x y : Rat) : 0 < sgn (y.num * x.den - x.num * y.den) ↔ x < y := by
  rw [Rat.lt_iff]
  unfold sgn; (repeat' split) <;> omega
theorem sgn_le_iff (x y : Rat) : sgn (x.num * y.den - y.num * x.den) ≤ 0 ↔ x ≤ y := by
  rw [Rat.le_iff]
  unfold sgn; (repeat' split) <;> omega
theorem minL_cons (x y : Rat) (l : List Rat) : minL x (y :: l) = minL (if y < x then y else x) l := by
  show minL (if sgn (y.num * x.den - x.num * y.den) < 0 then y else x) l = _
  simp only [sgn_lt_iff]
theorem maxL_cons (x y : Rat) (l : List Rat) : maxL x (y :: l) = maxL (if x < y then y else x) l := by
  show maxL (if 0 < sgn (y.num * x.den - x.num * y.den) then y else x) l = _
  simp only [sgn_gt_iff]
theorem minL_nil (x : Rat) : minL x [] = x := rfl
theorem maxL_nil (x : Rat) : maxL x [] = x := rfl
theorem two_eq : Rat.divInt 2 1 = 2 := rfl
theorem okS_le {a b c d : Int} (h : okS a b c d) : Wd.qR a b ≤ Wd.qR c d := by
  obtain ⟨h1, h2, h3⟩ := h
  obtain ⟨e1, e2⟩ := Wd.qR_ok h1
  obtain ⟨e3, e4⟩ := Wd.qR_ok h2
  rw [Rat.le_iff, e1, e2, e3, e4]; omega
theorem okS_of {a b c d : Int} (h1 : Wd.okR a b) (h2 : Wd.okR c d) (h : Wd.qR a b ≤ Wd.qR c d) : okS a b c d := by
  obtain ⟨e1, e2⟩ := Wd.qR_ok h1
  obtain ⟨e3, e4⟩ := Wd.qR_ok h2
  rw [Rat.le_iff, e1, e2, e3, e4] at h
  exact ⟨h1, h2, by omega⟩
theorem toldS_ok {a b c d : Int} (h1 : Wd.okR a b) (h2 : Wd.okR c d) : toldS (Wd.qR a b) (Wd.qR c d) = ⟨a, b, c, d, 0⟩ := by
  obtain ⟨e1, e2⟩ := Wd.qR_ok h1
  obtain ⟨e3, e4⟩ := Wd.qR_ok h2
  unfold toldS
  rw [if_pos ⟨Wd.ok_fits h1, Wd.ok_fits h2⟩, e1, e2, e3, e4]
theorem errS_two {s t : Sp} (h1 : okSp s) (h2 : okSp t) : errS [s, t] = 0 := if_pos (by
  intro u hu
  simp only [List.mem_cons, List.not_mem_nil, or_false] at hu
  rcases hu with rfl | rfl
  · exact h1
  · exact h2)
structure HalfF (s : Sp) (n d : Int) : Prop where
  ok : Wd.okR n d
  ok1 : Wd.okR s.a s.b
  ok2 : Wd.okR s.c s.d
  le1 : Wd.qR s.a s.b ≤ Wd.qR n d
  le2 : Wd.qR n d ≤ Wd.qR s.c s.d
  dbl : Wd.qR n d + Wd.qR n d = Wd.qR s.a s.b + Wd.qR s.c s.d
theorem halfF {s : Sp} (h : okSp s) (he : (midS s).e = 0) : HalfF s (midS s).n (midS s).d := by
  obtain ⟨k1, k2⟩ := Wd.told_ok he
  have hle := okS_le h
  have k3 : Wd.qR (midS s).n (midS s).d = (Wd.qR s.a s.b + Wd.qR s.c s.d) / 2 := by rw [← two_eq]; exact k2
  refine ⟨k1, h.1, h.2.1, ?_, ?_, ?_⟩ <;> rw [k3]
  · generalize Wd.qR s.a s.b = x at *; generalize Wd.qR s.c s.d = y at *; clear k2 k3 k1 he h; grind
  · generalize Wd.qR s.a s.b = x at *; generalize Wd.qR s.c s.d = y at *; clear k2 k3 k1 he h; grind
  · generalize Wd.qR s.a s.b = x at *; generalize Wd.qR s.c s.d = y at *; clear k2 k3 k1 he h; grind
theorem hull_half {s : Sp} {n d : Int} (f : HalfF s n d) : hullS ⟨s.a, s.b, n, d⟩ ⟨n, d, s.c, s.d⟩ = ⟨s.a, s.b, s.c, s.d, 0⟩ := by
  have e0 := errS_two (s := ⟨s.a, s.b, n, d⟩) (t := ⟨n, d, s.c, s.d⟩) (okS_of f.ok1 f.ok f.le1) (okS_of f.ok f.ok2 f.le2)
  unfold hullS
  rw [if_pos e0, ← toldS_ok f.ok1 f.ok2]
  show toldS (minL (Wd.qR s.a s.b) [Wd.qR n d, Wd.qR n d, Wd.qR s.c s.d]) (maxL (Wd.qR s.a s.b) [Wd.qR n d, Wd.qR n d, Wd.qR s.c s.d]) = _
  have l1 := f.le1
  have l2 := f.le2
  simp only [minL_cons, maxL_cons, minL_nil, maxL_nil]
  generalize Wd.qR s.a s.b = x at *
  generalize Wd.qR s.c s.d = y at *
  generalize Wd.qR n d = m at *
  clear f e0
  congr 1 <;> grind
theorem meet_half {s : Sp} {n d : Int} (f : HalfF s n d) : meetS ⟨s.a, s.b, n, d⟩ ⟨n, d, s.c, s.d⟩ = ⟨n, d, n, d, 0⟩ ∧ meetB ⟨s.a, s.b, n, d⟩ ⟨n, d, s.c, s.d⟩ = true := by
  have l1 := f.le1
  have l2 := f.le2
  have e0 := errS_two (s := ⟨s.a, s.b, n, d⟩) (t := ⟨n, d, s.c, s.d⟩) (okS_of f.ok1 f.ok f.le1) (okS_of f.ok f.ok2 f.le2)
  have e1 : maxL (Wd.qR s.a s.b) [Wd.qR n d] = Wd.qR n d := by
    rw [maxL_cons, maxL_nil]
    generalize Wd.qR s.a s.b = x at *
    generalize Wd.qR n d = m at *
    clear f e0; grind
  have e2 : minL (Wd.qR n d) [Wd.qR s.c s.d] = Wd.qR n d := by
    rw [minL_cons, minL_nil]
    generalize Wd.qR s.c s.d = y at *
    generalize Wd.qR n d = m at *
    clear f e0 e1; grind
  have e3 : meetQ (Wd.qR s.a s.b) (Wd.qR n d) (Wd.qR n d) (Wd.qR s.c s.d) := by
    unfold meetQ
    rw [e1, e2, sgn_le_iff]
    exact Rat.le_refl
  have e4 : meetS ⟨s.a, s.b, n, d⟩ ⟨n, d, s.c, s.d⟩ = ⟨n, d, n, d, 0⟩ := by
    unfold meetS
    rw [if_pos e0, if_pos e3, ← toldS_ok f.ok f.ok]
    show toldS (maxL (Wd.qR s.a s.b) [Wd.qR n d]) (minL (Wd.qR n d) [Wd.qR s.c s.d]) = _
    rw [e1, e2]
  exact ⟨e4, decide_eq_true ⟨e0, e3, by rw [e4]⟩⟩
theorem c_radd {a b c d : Int} (W : World) (v0 v1 : Value) (hT : Tab W) (h0 : AggT [.v (.int .i64 a), .v (.int .i64 b)] W v0) (h1 : AggT [.v (.int .i64 c), .v (.int .i64 d)] W v1) : Calls Tryd.prog 13 #[v0, v1] W (RetT (TupT [AggT [.v (.int .i64 (Wd.addR a b c d).n), .v (.int .i64 (Wd.addR a b c d).d)], Rg.EqT (.int .i64 (Wd.addR a b c d).e)]) W) := by
  rw [agg_v2 h0, agg_v2 h1]
  exact (ratAdd_any a b c d W hT).mono fun e w' ⟨h1, h2⟩ => ⟨_, h1, h2, [_, _], rfl, _, _, rfl, agg_ofi2 _ _ _, _, _, rfl, rfl, rfl⟩
theorem addR_half {s : Sp} {n d : Int} (f : HalfF s n d) : Wd.addR n d n d = Wd.addR s.a s.b s.c s.d := by
  unfold Wd.addR Wd.two
  rw [if_pos ⟨f.ok, f.ok⟩, if_pos ⟨f.ok1, f.ok2⟩]
  show Wd.told (Wd.qR n d + Wd.qR n d) = Wd.told (Wd.qR s.a s.b + Wd.qR s.c s.d)
  rw [f.dbl]
/-- The law, for every span of ints. -/
theorem halves_any (s : Sp) (w : World) (hT : Tab w) (u : Value) (hu : AggT (lv4 s) w u) : Calls Tryd.prog 5 #[u] w (RetT (Rg.EqT (.bool true)) w) := by
  refine law_halves_walk _ _ _ _ _ _ _ _ _ (midS s).n (midS s).d (Wd.addR s.a s.b s.c s.d).n (Wd.addR s.a s.b s.c s.d).d (Wd.addR s.a s.b s.c s.d).e w hT u hu (fun W v0 hT h0 => c_halves W hT v0 h0) (fun he => ?_)
  have hv : okSp s ∧ (midS s).e = 0 := by
    revert he
    show (halfS s).e = 0 → _
    unfold halfS
    split
    · rename_i h1
      split
      · rename_i h2; exact fun _ => ⟨valS_ok h1, h2⟩
      · rename_i h2; exact fun h => absurd h h2
    · rename_i h1; exact fun h => absurd h h1
  have f := halfF hv.1 hv.2
  have e : halfS s = ⟨⟨s.a, s.b, (midS s).n, (midS s).d⟩, ⟨(midS s).n, (midS s).d, s.c, s.d⟩, 0⟩ := by
    unfold halfS
    rw [if_pos (show valS s.a s.b s.c s.d = 0 from if_pos hv.1), if_pos hv.2]
  show _ ∧ _ ∧ _ ∧ _
  simp only [show (⟨s.a, s.b, s.c, s.d⟩ : Sp) = s from rfl, e]
  refine ⟨fun W v0 v1 hT h0 h1 => ?_, fun W v0 v1 hT h0 h1 => ?_, fun W v0 v1 hT h0 h1 => ?_, fun W v0 v1 hT h0 h1 => c_radd W v0 v1 hT h0 h1⟩
  · have h := c_hull W hT v0 h0 v1 h1
    rwa [hull_half f] at h
  · have h := c_meetS W hT v0 h0 v1 h1
    rwa [(meet_half f).1, (meet_half f).2] at h
  · have h := c_radd W v0 v1 hT h0 h1
    rwa [addR_half f] at h
end Sb

end Go.Proofs.YtfbcdfoohpkfeaaDoor
/- The frame of the laws' rows: numbers as arguments; the listed table; a call that only makes new memory. -/
namespace Go.Proofs.YtfbcdfoohpkfeaaDoor
open Go.Joins Go.ChangeShapes Go.WideShapes Go.ChangeAt Go.RowKit

theorem own : ownKnob Tryd.prog.godebug = none := by kernel_rfl
/-- What the rows list: one table. -/
def laidL {H : Type} : List (String × DataW H) := [("math/bits.deBruijn64tab", Rows.laid_math_bits_deBruijn64tab)]
theorem tab_list : (Rows.laid_math_bits_deBruijn64tab : DataW Unit) = .agg (Lib.deBruijn64tab.map fun (n : Nat) => .lit (.int .u8 (n : Int))) := by kernel_rfl
theorem tab_of {W : World} (h : laidMetH Tryd.prog laidL W) : Tab W := by
  rw [MakeChecks.laidMetH_plain _ _ _ (by kernel_rfl)] at h
  obtain ⟨ps, ⟨g, t, cs, fuel, p, q, hg, ht, hv, hd, _, _⟩, _, _⟩ := h
  obtain rfl := Option.some.inj ((show Tryd.prog.globalNamed "math/bits.deBruijn64tab" = some 0 by kernel_rfl).symm.trans hg)
  obtain rfl := Option.some.inj ((show (Tryd.prog.globals[0]?).map (·.type) = some 133 by kernel_rfl).symm.trans ht)
  obtain ⟨xs, m, _, ex, hcl, hl, hel⟩ := DataW.trod_array Tryd.underlying133 hd
  have c5 : Tryd.prog.cellsOf 5 = 1 := by kernel_rfl
  have hlen : Lib.deBruijn64tab.length = 64 := by kernel_rfl
  rw [tab_list] at ex
  have e3 : (xs.map (·.1)) = Lib.deBruijn64tab.map fun (n : Nat) => .lit (.int .u8 (n : Int)) := (DataW.agg.inj (Prod.mk.inj ex).1).symm
  have cell : ∀ r : Nat, r < 64 → W.cell? ⟨0, r, none⟩ = some (.int .u8 (Lib.deBruijn64tab.getD r 0)) := fun r hr => by
    have hE := hel r hr
    rw [c5, Nat.mul_one, List.getElem?_eq_getElem (by omega)] at hE
    obtain ⟨z, e1, e2, _⟩ := DataW.trod_int Tryd.underlying5 hE
    have e4 : (xs.map (·.1))[r]? = (Lib.deBruijn64tab.map fun (n : Nat) => (DataW.lit (.int .u8 (n : Int)) : DataW Unit))[r]? := by rw [e3]
    rw [List.getElem?_map, List.getElem?_map, List.getElem?_eq_getElem (by omega : r < xs.length), List.getElem?_eq_getElem (by omega : r < Lib.deBruijn64tab.length), e2] at e4
    have hz : z = (Lib.deBruijn64tab.getD r 0 : Nat) := by
      simp only [Option.map_some, Option.some.injEq, DataW.lit.injEq, Lit.int.injEq, true_and] at e4
      rw [e4, List.getD, List.getElem?_eq_getElem (by omega : r < Lib.deBruijn64tab.length)]; rfl
    rw [World.var?_cell hg hv r, ← hz]
    have : cs.toList[r]? = some (.int .u8 z) := by
      have h0 : ((cs.toList.drop r).take 1)[0]? = some (.int .u8 z) := by rw [e1]; rfl
      simpa using h0
    simpa using this
  refine ⟨fun j hj => cell j (by omega), ?_⟩
  have h0 := cell 0 (by omega)
  rcases Nat.lt_or_ge 0 W.heap.size with hlt | hge
  · exact hlt
  · simp [World.cell?, Array.getElem?_eq_none hge] at h0

/-- A call that only makes new memory, and hands back what the law asks. -/
theorem post_below {H : Type} {enc : TypeId × Value → H} {P : Program} {f : Func} {s : ChangeSpec} {apart : Bool} {W W' : World} {args : Array Value} {v : Value} {ds gs : List (DataW H)}
    (hW : DataW.Whole enc P f.params.toList s.vars apart W args.toList ds gs [])
    (hres : DataW.TrodAll enc P W' W.heap.size (fun _ => false) false f.resultTypes.toList (v.resultList f.resultTypes.size) (s.fn H (ds ++ gs)).results [])
    (hargs : DataW.TrodAll enc P W' 0 (fun b => decide (b < W.heap.size)) true f.params.toList args.toList (s.fn H (ds ++ gs)).args [])
    (hvars : DataW.TrodVars enc P W' (fun b => decide (b < W.heap.size)) s.vars (s.fn H (ds ++ gs)).vars []) (hb : Below W.heap.size W W') :
    s.post enc P f apart true false false W args v W' :=
  ⟨ds, gs, [], [], [], [], hW, hres, hargs, hvars, hb.frame _, fun h => by cases h⟩
end Go.Proofs.YtfbcdfoohpkfeaaDoor
/- Spans as arguments. -/
namespace Go.Proofs.YtfbcdfoohpkfeaaDoor
open Go.Joins Go.ChangeShapes Go.WideShapes Go.ChangeAt Go.RowKit

set_option maxRecDepth 100000 in
/-- A span as an argument: four ints. -/
theorem open_span {H : Type} {enc : TypeId × Value → H} {w : World} {base : Nat} {spare : Nat → Bool} {held : Bool} {r : Reach} {b0 : Nat} {v : Value} {d : DataW H} {p : List MemPlace}
    (hv : Value.okWide Tryd.prog w r b0 35 v) (h : DataW.Trod enc Tryd.prog w base spare held 35 v d p) :
    ∃ a b c e : Int, v = .agg #[.int .i64 a, .int .i64 b, .int .i64 c, .int .i64 e] ∧ d = .agg [.agg [.lit (.int .i64 a), .lit (.int .i64 b)], .agg [.lit (.int .i64 c), .lit (.int .i64 e)]] ∧ p = [] ∧
      (Lit.int .i64 a).wf = true ∧ (Lit.int .i64 b).wf = true ∧ (Lit.int .i64 c).wf = true ∧ (Lit.int .i64 e).wf = true := by
  obtain ⟨cs, rfl, hsz⟩ := okWide_struct Tryd.underlying35 hv
  obtain ⟨c0, c1, c2, c3, rfl⟩ := array4 (hsz.trans (show Tryd.prog.cellsOf 35 = 4 by kernel_rfl))
  obtain ⟨fuel, hf⟩ := h
  obtain ⟨y0, y1, n, hx, _, h0, h1⟩ := trod_struct2 Tryd.underlying35 hf
  have k2 : Tryd.prog.cellsOf 23 = 2 := by kernel_rfl
  have k1 : Tryd.prog.cellsOf 3 = 1 := by kernel_rfl
  have h0' : DataW.trod enc Tryd.prog w base spare held n 23 [c0, c1] = some y0 := by simpa [Value.cells, k2] using h0
  have h1' : DataW.trod enc Tryd.prog w base spare held n 23 [c2, c3] = some y1 := by simpa [Value.cells, k2] using h1
  obtain ⟨z0, z1, m, hy, _, g0, g1⟩ := trod_struct2 Tryd.underlying23 h0'
  obtain ⟨z2, z3, m', hy', _, g2, g3⟩ := trod_struct2 Tryd.underlying23 h1'
  have g0' : DataW.trod enc Tryd.prog w base spare held m 3 [c0] = some z0 := by simpa [k1] using g0
  have g1' : DataW.trod enc Tryd.prog w base spare held m 3 [c1] = some z1 := by simpa [k1] using g1
  have g2' : DataW.trod enc Tryd.prog w base spare held m' 3 [c2] = some z2 := by simpa [k1] using g2
  have g3' : DataW.trod enc Tryd.prog w base spare held m' 3 [c3] = some z3 := by simpa [k1] using g3
  obtain ⟨a, e0, rfl, w0⟩ := DataW.trod_int Tryd.underlying3 g0'
  obtain ⟨b, e1, rfl, w1⟩ := DataW.trod_int Tryd.underlying3 g1'
  obtain ⟨c, e2, rfl, w2⟩ := DataW.trod_int Tryd.underlying3 g2'
  obtain ⟨e, e3, rfl, w3⟩ := DataW.trod_int Tryd.underlying3 g3'
  simp only [List.cons.injEq, and_true] at e0 e1 e2 e3
  subst e0 e1 e2 e3 hy hy'
  simp only [Prod.mk.injEq] at hx
  exact ⟨a, b, c, e, rfl, hx.1, by simpa using hx.2, w0, w1, w2, w3⟩
set_option maxRecDepth 100000 in
theorem shut_span {H : Type} {enc : TypeId × Value → H} {w : World} {base : Nat} {spare : Nat → Bool} {held : Bool} {a b c e : Int} (w0 : (Lit.int .i64 a).wf = true) (w1 : (Lit.int .i64 b).wf = true) (w2 : (Lit.int .i64 c).wf = true) (w3 : (Lit.int .i64 e).wf = true) :
    DataW.Trod enc Tryd.prog w base spare held 35 (.agg #[.int .i64 a, .int .i64 b, .int .i64 c, .int .i64 e]) (.agg [.agg [.lit (.int .i64 a), .lit (.int .i64 b)], .agg [.lit (.int .i64 c), .lit (.int .i64 e)]]) [] := by
  have k4 : Tryd.prog.cellsOf 35 = 4 := by kernel_rfl
  have k2 : Tryd.prog.cellsOf 23 = 2 := by kernel_rfl
  have k1 : Tryd.prog.cellsOf 3 = 1 := by kernel_rfl
  have i0 : ∀ k : Int, (Lit.int .i64 k).wf = true → DataW.trod enc Tryd.prog w base spare held 1 3 [.int .i64 k] = some (.lit (.int .i64 k), []) := fun k hk => trod_int_mk 0 Tryd.underlying3 hk
  have r1 := trod_struct2_mk (enc := enc) (P := Tryd.prog) (w := w) (base := base) (spare := spare) (held := held) (n := 1) (cs := [.int .i64 a, .int .i64 b]) (y0 := (.lit (.int .i64 a), [])) (y1 := (.lit (.int .i64 b), [])) Tryd.underlying23 (by simp [k2])
    (by simpa [k1] using i0 a w0) (by simpa [k1] using i0 b w1)
  have r2 := trod_struct2_mk (enc := enc) (P := Tryd.prog) (w := w) (base := base) (spare := spare) (held := held) (n := 1) (cs := [.int .i64 c, .int .i64 e]) (y0 := (.lit (.int .i64 c), [])) (y1 := (.lit (.int .i64 e), [])) Tryd.underlying23 (by simp [k2])
    (by simpa [k1] using i0 c w2) (by simpa [k1] using i0 e w3)
  have r3 := trod_struct2_mk (enc := enc) (P := Tryd.prog) (w := w) (base := base) (spare := spare) (held := held) (n := 2) (cs := [.int .i64 a, .int .i64 b, .int .i64 c, .int .i64 e]) Tryd.underlying35 (by simp [k4])
    (by simpa [k2] using r1) (by simpa [k2] using r2)
  exact ⟨3, by simpa [Value.cells] using r3⟩
end Go.Proofs.YtfbcdfoohpkfeaaDoor
