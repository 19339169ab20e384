/- Part 11 of the texts beneath a law of layer 1: SpC, RfA, RfMul, RfSh, Plain3, RfWord, RfWalk, RfDivA, RfDivB, RfDivC, RfGcd, RfW, RfI, RfWM, RfQ, RfIs, RfAll, RfRaA, RfRaB, RfHalf, RfRat, RfTold, RfOf, RfQCmp, RfCmpD, RatCmp. -/
import Derived.Test.YtfbcdfoohpkfeaaDoorCs10
import Derived.BigQuiet
import Derived.Deep.QuietTactic
import Derived.Laws.Bits64b
import Derived.Deep.CutBlock
import Derived.Deep.DeepCutAuto
/- The least span around numbers, what two spans share, products, rounding outward. -/
namespace Go.Proofs.YtfbcdfoohpkfeaaDoor
open Go.RowKit

namespace Sb
theorem own_ne {w W : World} {bs : List Ent} (h : Own w bs W) (i j : Nat) {a b : Nat} (hi : (bs.map Prod.fst)[i]? = some a) (hj : (bs.map Prod.fst)[j]? = some b) (hij : i < j) : a ≠ b := fun e => by
  obtain ⟨hi', ei⟩ := List.getElem?_eq_some_iff.1 hi
  obtain ⟨hj', ej⟩ := List.getElem?_eq_some_iff.1 hj
  have := (List.nodup_iff_pairwise_ne.1 h.nd)
  exact (List.pairwise_iff_getElem.1 this i j hi' hj' hij) (by rw [ei, ej, e])
set_option maxRecDepth 100000 in
set_option maxHeartbeats 16000000 in
theorem c_around {x : Rat} {qs : List Rat} {K : Nat} (sx : Sm K x) (sq : ∀ y ∈ qs, Sm K y) (hm : qs.length ≤ 1000000) (w : World) (u0 u1 : Value) (h0 : AggT [.q x] w u0) (h1 : SlT 48 qs.length (qs.map .q) w u1) :
    Calls Tryd.prog 46 #[u0, u1] w (RetT (AggT [.q (minL x qs), .q (maxL x qs)]) w) := by
  obtain ⟨b0, rfl, hbx⟩ := h1
  have HSX := hide sx
  have HSQ := hide sq
  have HLEN := hide hm
  have HBX := hide hbx
  clear sx sq hbx hm
  obtain ⟨s0a, n0a, A0a, c0a, l0a, s0b, n0b, A0b, c0b, l0b, rfl, f0a, f0b⟩ := agg_q h0
  go_enter Tryd.func46, Tryd.ntmps46
  go_upto_region 1 with fail
  have hO := (Own.push (T := 74) (ls := [.v (.int .i64 0), .v (.bool false), .v (.slice none 0 0), .v (.int .i64 0), .v (.bool false), .v (.slice none 0 0), .v (.int .i64 0), .v (.bool false), .v (.slice none 0 0), .v (.int .i64 0), .v (.bool false), .v (.slice none 0 0)]) (cs := [.int .i64 0, .bool false, .slice none 0 0, .int .i64 0, .bool false, .slice none 0 0, .int .i64 0, .bool false, .slice none 0 0, .int .i64 0, .bool false, .slice none 0 0]) (Own.push (T := 48) (ls := [.q x]) (cs := [.int .i64 s0a, .bool n0a, .slice A0a (List.length l0a) c0a, .int .i64 s0b, .bool n0b, .slice A0b (List.length l0b) c0b]) (Own.nil w) (LOk.q f0a f0b rfl) (w.heap.size) rfl) (((LOk.vs w [.int .i64 0, .bool false, .slice none 0 0, .int .i64 0, .bool false, .slice none 0 0, .int .i64 0, .bool false, .slice none 0 0, .int .i64 0, .bool false, .slice none 0 0] rfl) : LOk w [.v (.int .i64 0), .v (.bool false), .v (.slice none 0 0), .v (.int .i64 0), .v (.bool false), .v (.slice none 0 0), .v (.int .i64 0), .v (.bool false), .v (.slice none 0 0), .v (.int .i64 0), .v (.bool false), .v (.slice none 0 0)] [.int .i64 0, .bool false, .slice none 0 0, .int .i64 0, .bool false, .slice none 0 0, .int .i64 0, .bool false, .slice none 0 0, .int .i64 0, .bool false, .slice none 0 0]).below (by repeat (first | exact Below.refl _ _ | refine below_alloc ?_ _))) (w.heap.size + 1) (by simp only [World.size_alloc]))
  generalize (w.alloc (.cells #[.int .i64 s0a, .bool n0a, .slice A0a (List.length l0a) c0a, .int .i64 s0b, .bool n0b, .slice A0b (List.length l0b) c0b] 48)).alloc (.cells #[.int .i64 0, .bool false, .slice none 0 0, .int .i64 0, .bool false, .slice none 0 0, .int .i64 0, .bool false, .slice none 0 0, .int .i64 0, .bool false, .slice none 0 0] 74) = W0 at *
  have HO := hide hO
  clear hO
  go_upto_region 1 with fail
  refine Rg.regionS 8 16 (Rg.pick [AggT [.q x], Rg.EqT (.slice (some ⟨b0, 0, none⟩) qs.length qs.length), TupT [AggT [.q (minL x qs)], AggT [.q (maxL x qs)]], TupT [AggT [.q (minL x qs)], AggT [.q (maxL x qs)]], AggT [.q (minL x qs)], AggT [.q (maxL x qs)], NewB 48 [.v (.int .i64 0), .v (.bool false), .v (.slice none 0 0), .v (.int .i64 0), .v (.bool false), .v (.slice none 0 0)] W0.heap.size, NewB 48 [.v (.int .i64 0), .v (.bool false), .v (.slice none 0 0), .v (.int .i64 0), .v (.bool false), .v (.slice none 0 0)] W0.heap.size]) (OwnG w [(w.heap.size + 1, 74, [.v (.int .i64 0), .v (.bool false), .v (.slice none 0 0), .v (.int .i64 0), .v (.bool false), .v (.slice none 0 0), .v (.int .i64 0), .v (.bool false), .v (.slice none 0 0), .v (.int .i64 0), .v (.bool false), .v (.slice none 0 0)]), (w.heap.size, 48, [.q x])] W0) Bel [6, 7] (by kernel_rfl) rfl (Rg.Stabs.pick ⟨stab_agg _, Rg.stab_eq _, stab_tup ⟨(stab_agg _), (stab_agg _), trivial⟩, stab_tup ⟨(stab_agg _), (stab_agg _), trivial⟩, stab_agg _, stab_agg _, stab_new _ _ _, stab_new _ _ _, trivial⟩) (OwnG.begin (unhide HO))
    (Rg.steps_cons (Rg.plain rfl (s_load (b := w.heap.size) (off := 0) (TB := 48) (pre := []) (mid := [.q x]) (post := []) load_q rfl (Rg.argF (by kernel_rfl) rfl) (fun W h => OwnG.box (List.Mem.tail _ (List.Mem.head _)) h) rfl rfl rfl))
      (Rg.steps_cons (Rg.plain rfl (s_move rfl (Rg.argF (by kernel_rfl) rfl)))
      (Rg.steps_cons (Rg.plain rfl (s_call2 Tryd.func74 (by kernel_rfl) rfl OwnG.step (Rg.argT 0 (by kernel_rfl)) (Rg.argT 1 (by kernel_rfl)) (fun W v0 v1 hG h0 h1 => c_outmost (unhide HSX) (unhide HSQ) (unhide HLEN) W _ _ h0 (by cases h1; exact ⟨b0, rfl, (unhide HBX).below hG.1.bel⟩))))
      (Rg.steps_cons (Rg.plain rfl (s_move rfl (Rg.argT 2 (by kernel_rfl))))
      (Rg.steps_cons (Rg.plain rfl (s_extT (ts := [AggT [.q (minL x qs)], AggT [.q (maxL x qs)]]) rfl (Rg.argT 3 (by kernel_rfl)) (of_decide_eq_true rfl) rfl))
      (Rg.steps_cons (Rg.plain rfl (s_extT (ts := [AggT [.q (minL x qs)], AggT [.q (maxL x qs)]]) rfl (Rg.argT 3 (by kernel_rfl)) (of_decide_eq_true rfl) rfl))
      (Rg.steps_cons (Rg.plain rfl (s_alloc new_q rfl OwnG.step OwnG.size rfl (new_lt (by intro j hj; simp at hj; (repeat' (first | (rcases hj with rfl | hj))) <;> first | (subst hj; exact ⟨_, _, _, rfl⟩) | exact ⟨_, _, _, rfl⟩))))
      (Rg.steps_cons (Rg.plain rfl (s_alloc new_q rfl OwnG.step OwnG.size rfl (new_lt (by intro j hj; simp at hj; (repeat' (first | (rcases hj with rfl | hj))) <;> first | (subst hj; exact ⟨_, _, _, rfl⟩) | exact ⟨_, _, _, rfl⟩))))
      Rg.steps_nil)))))))) ?_
  intro v1 V1 hG1 hv1 hne1
  simp only [Rg.puts, List.take_succ_cons, List.take_zero, List.drop_succ_cons, List.drop_zero, Act.put, List.setIfInBounds_toArray, List.set_cons_zero, List.set_cons_succ]
  have e1 : v1 1 = .slice (some ⟨b0, 0, none⟩) qs.length qs.length := hv1 1 (by decide)
  obtain ⟨b1_6, e6, hge6, hz6⟩ := (show NewB 48 [.v (.int .i64 0), .v (.bool false), .v (.slice none 0 0), .v (.int .i64 0), .v (.bool false), .v (.slice none 0 0)] W0.heap.size V1 (v1 6) from hv1 6 (by decide))
  obtain ⟨b1_7, e7, hge7, hz7⟩ := (show NewB 48 [.v (.int .i64 0), .v (.bool false), .v (.slice none 0 0), .v (.int .i64 0), .v (.bool false), .v (.slice none 0 0)] W0.heap.size V1 (v1 7) from hv1 7 (by decide))
  simp only [e1, e6, e7]
  have hO := hG1.1
  have hnn : b1_7 ≠ b1_6 := fun h => hne1 7 6 rfl rfl (by decide) (by decide) (by decide) rfl rfl (by rw [e6, e7, h])
  replace hO := Own.add2 (unhide HO) hG1.2 hge6 hz6 hge7 hz7 hnn
  clear hnn hge6 hz6 hge7 hz7
  refine tl_store (xs := [(b1_7, 48, [.v (.int .i64 0), .v (.bool false), .v (.slice none 0 0), .v (.int .i64 0), .v (.bool false), .v (.slice none 0 0)])]) (ys := [(w.heap.size + 1, 74, [.v (.int .i64 0), .v (.bool false), .v (.slice none 0 0), .v (.int .i64 0), .v (.bool false), .v (.slice none 0 0), .v (.int .i64 0), .v (.bool false), .v (.slice none 0 0), .v (.int .i64 0), .v (.bool false), .v (.slice none 0 0)]), (w.heap.size, 48, [.q x])]) (pre := []) (old := [.v (.int .i64 0), .v (.bool false), .v (.slice none 0 0), .v (.int .i64 0), .v (.bool false), .v (.slice none 0 0)]) (new := [.q (minL x qs)]) (post := []) (b := b1_6) (off := 0) store_q rfl (show AggT [.q (minL x qs)] V1 (v1 4) from hv1 4 (by decide)) hO rfl rfl rfl ?_
  intro U1_0 hO0 hk0
  replace hO : Own w [(b1_7, 48, [.v (.int .i64 0), .v (.bool false), .v (.slice none 0 0), .v (.int .i64 0), .v (.bool false), .v (.slice none 0 0)]), (b1_6, 48, [.q (minL x qs)]), (w.heap.size + 1, 74, [.v (.int .i64 0), .v (.bool false), .v (.slice none 0 0), .v (.int .i64 0), .v (.bool false), .v (.slice none 0 0), .v (.int .i64 0), .v (.bool false), .v (.slice none 0 0), .v (.int .i64 0), .v (.bool false), .v (.slice none 0 0)]), (w.heap.size, 48, [.q x])] U1_0 := hO0
  clear hO0
  refine tl_store (xs := []) (ys := [(b1_6, 48, [.q (minL x qs)]), (w.heap.size + 1, 74, [.v (.int .i64 0), .v (.bool false), .v (.slice none 0 0), .v (.int .i64 0), .v (.bool false), .v (.slice none 0 0), .v (.int .i64 0), .v (.bool false), .v (.slice none 0 0), .v (.int .i64 0), .v (.bool false), .v (.slice none 0 0)]), (w.heap.size, 48, [.q x])]) (pre := []) (old := [.v (.int .i64 0), .v (.bool false), .v (.slice none 0 0), .v (.int .i64 0), .v (.bool false), .v (.slice none 0 0)]) (new := [.q (maxL x qs)]) (post := []) (b := b1_7) (off := 0) store_q rfl (hk0 _ _ (show AggT [.q (maxL x qs)] V1 (v1 5) from hv1 5 (by decide))) hO rfl rfl rfl ?_
  intro U1_1 hO1 hk1
  replace hO : Own w [(b1_7, 48, [.q (maxL x qs)]), (b1_6, 48, [.q (minL x qs)]), (w.heap.size + 1, 74, [.v (.int .i64 0), .v (.bool false), .v (.slice none 0 0), .v (.int .i64 0), .v (.bool false), .v (.slice none 0 0), .v (.int .i64 0), .v (.bool false), .v (.slice none 0 0), .v (.int .i64 0), .v (.bool false), .v (.slice none 0 0)]), (w.heap.size, 48, [.q x])] U1_1 := hO1
  clear hO1
  clear HO
  have HO := hide hO
  clear hO hG1 hv1 hne1 hk0 hk1
  try clear e1 e6 e7
  go_upto_region 2 with fail
  refine Rg.regionS 3 16 (Rg.pick [AggT [.q (minL x qs)], AggT [.q (maxL x qs)], AggT [.q (minL x qs), .q (maxL x qs)]]) (OwnG w [(b1_7, 48, [.q (maxL x qs)]), (b1_6, 48, [.q (minL x qs)]), (w.heap.size + 1, 74, [.v (.int .i64 0), .v (.bool false), .v (.slice none 0 0), .v (.int .i64 0), .v (.bool false), .v (.slice none 0 0), .v (.int .i64 0), .v (.bool false), .v (.slice none 0 0), .v (.int .i64 0), .v (.bool false), .v (.slice none 0 0)]), (w.heap.size, 48, [.q x])] U1_1) Bel [] (by kernel_rfl) rfl (Rg.Stabs.pick ⟨stab_agg _, stab_agg _, stab_agg _, trivial⟩) (OwnG.begin (unhide HO))
    (Rg.steps_cons (Rg.plain rfl (s_load (b := b1_6) (off := 0) (TB := 48) (pre := []) (mid := [.q (minL x qs)]) (post := []) load_q rfl (Rg.argF (by kernel_rfl) rfl) (fun W h => OwnG.box (List.Mem.tail _ (List.Mem.head _)) h) rfl rfl rfl))
      (Rg.steps_cons (Rg.plain rfl (s_load (b := b1_7) (off := 0) (TB := 48) (pre := []) (mid := [.q (maxL x qs)]) (post := []) load_q rfl (Rg.argF (by kernel_rfl) rfl) (fun W h => OwnG.box (List.Mem.head _) h) rfl rfl rfl))
      (Rg.steps_cons (Rg.plain rfl (s_build2 build_e rfl (Rg.argT 0 (by kernel_rfl)) (Rg.argT 1 (by kernel_rfl)) rfl rfl rfl))
      Rg.steps_nil))) ?_
  intro v2 V2 hG2 hv2 hne2
  simp only [Rg.puts, List.take_succ_cons, List.take_zero, List.drop_succ_cons, List.drop_zero, Act.put, List.setIfInBounds_toArray, List.set_cons_zero, List.set_cons_succ]
  have hO := hG2.1
  refine tl_store (xs := [(b1_7, 48, [.q (maxL x qs)]), (b1_6, 48, [.q (minL x qs)])]) (ys := [(w.heap.size, 48, [.q x])]) (pre := []) (old := [.v (.int .i64 0), .v (.bool false), .v (.slice none 0 0), .v (.int .i64 0), .v (.bool false), .v (.slice none 0 0), .v (.int .i64 0), .v (.bool false), .v (.slice none 0 0), .v (.int .i64 0), .v (.bool false), .v (.slice none 0 0)]) (new := [.q (minL x qs), .q (maxL x qs)]) (post := []) (b := w.heap.size + 1) (off := 0) store_e rfl (show AggT [.q (minL x qs), .q (maxL x qs)] V2 (v2 2) from hv2 2 (by decide)) hO rfl rfl rfl ?_
  intro U2_0 hO0 hk0
  replace hO : Own w [(b1_7, 48, [.q (maxL x qs)]), (b1_6, 48, [.q (minL x qs)]), (w.heap.size + 1, 74, [.q (minL x qs), .q (maxL x qs)]), (w.heap.size, 48, [.q x])] U2_0 := hO0
  clear hO0
  clear HO
  have HO := hide hO
  clear hO hG2 hv2 hne2 hk0
  go_wp2_with fail
  exact end_c Tryd.results46 loadv_e rfl (unhide HO) (List.Mem.tail _ (List.Mem.tail _ (List.Mem.head _))) rfl rfl
set_option maxRecDepth 100000 in
set_option maxHeartbeats 16000000 in
theorem c_meet {x y a b : Rat} {K : Nat} (sx : Sm K x) (sy : Sm K y) (sa : Sm K a) (sb : Sm K b) (w : World) (u0 : Value) (h0 : AggT [.q x, .q y] w u0) (u1 : Value) (h1 : AggT [.q a, .q b] w u1) :
    Calls Tryd.prog 48 #[u0, u1] w (RetT (TupT [AggT [.q (maxL x [a]), .q (minL y [b])], Rg.EqT (.bool (decide (sgn ((maxL x [a]).num * (minL y [b]).den - (minL y [b]).num * (maxL x [a]).den) ≤ 0)))]) w) := by
  have HS := hide (And.intro sx (And.intro sy (And.intro sa sb)))
  clear sx sy sa sb
  obtain ⟨s0a, n0a, A0a, c0a, l0a, s0b, n0b, A0b, c0b, l0b, s0c, n0c, A0c, c0c, l0c, s0d, n0d, A0d, c0d, l0d, rfl, f0a, f0b, f0c, f0d⟩ := agg_qq h0
  obtain ⟨s1a, n1a, A1a, c1a, l1a, s1b, n1b, A1b, c1b, l1b, s1c, n1c, A1c, c1c, l1c, s1d, n1d, A1d, c1d, l1d, rfl, f1a, f1b, f1c, f1d⟩ := agg_qq h1
  go_enter Tryd.func48, Tryd.ntmps48
  go_upto_region 1 with fail
  have hO := (Own.push (T := 74) (ls := [.v (.int .i64 0), .v (.bool false), .v (.slice none 0 0), .v (.int .i64 0), .v (.bool false), .v (.slice none 0 0), .v (.int .i64 0), .v (.bool false), .v (.slice none 0 0), .v (.int .i64 0), .v (.bool false), .v (.slice none 0 0)]) (cs := [.int .i64 0, .bool false, .slice none 0 0, .int .i64 0, .bool false, .slice none 0 0, .int .i64 0, .bool false, .slice none 0 0, .int .i64 0, .bool false, .slice none 0 0]) (Own.push (T := 74) (ls := [.q a, .q b]) (cs := [.int .i64 s1a, .bool n1a, .slice A1a (List.length l1a) c1a, .int .i64 s1b, .bool n1b, .slice A1b (List.length l1b) c1b, .int .i64 s1c, .bool n1c, .slice A1c (List.length l1c) c1c, .int .i64 s1d, .bool n1d, .slice A1d (List.length l1d) c1d]) (Own.push (T := 74) (ls := [.q x, .q y]) (cs := [.int .i64 s0a, .bool n0a, .slice A0a (List.length l0a) c0a, .int .i64 s0b, .bool n0b, .slice A0b (List.length l0b) c0b, .int .i64 s0c, .bool n0c, .slice A0c (List.length l0c) c0c, .int .i64 s0d, .bool n0d, .slice A0d (List.length l0d) c0d]) (Own.nil w) (LOk.q f0a f0b (LOk.q f0c f0d rfl)) (w.heap.size) rfl) (((LOk.q f1a f1b (LOk.q f1c f1d rfl)) : LOk w [.q a, .q b] [.int .i64 s1a, .bool n1a, .slice A1a (List.length l1a) c1a, .int .i64 s1b, .bool n1b, .slice A1b (List.length l1b) c1b, .int .i64 s1c, .bool n1c, .slice A1c (List.length l1c) c1c, .int .i64 s1d, .bool n1d, .slice A1d (List.length l1d) c1d]).below (by repeat (first | exact Below.refl _ _ | refine below_alloc ?_ _))) (w.heap.size + 1) (by simp only [World.size_alloc])) (((LOk.vs w [.int .i64 0, .bool false, .slice none 0 0, .int .i64 0, .bool false, .slice none 0 0, .int .i64 0, .bool false, .slice none 0 0, .int .i64 0, .bool false, .slice none 0 0] rfl) : LOk w [.v (.int .i64 0), .v (.bool false), .v (.slice none 0 0), .v (.int .i64 0), .v (.bool false), .v (.slice none 0 0), .v (.int .i64 0), .v (.bool false), .v (.slice none 0 0), .v (.int .i64 0), .v (.bool false), .v (.slice none 0 0)] [.int .i64 0, .bool false, .slice none 0 0, .int .i64 0, .bool false, .slice none 0 0, .int .i64 0, .bool false, .slice none 0 0, .int .i64 0, .bool false, .slice none 0 0]).below (by repeat (first | exact Below.refl _ _ | refine below_alloc ?_ _))) (w.heap.size + 2) (by simp only [World.size_alloc]))
  generalize ((w.alloc (.cells #[.int .i64 s0a, .bool n0a, .slice A0a (List.length l0a) c0a, .int .i64 s0b, .bool n0b, .slice A0b (List.length l0b) c0b, .int .i64 s0c, .bool n0c, .slice A0c (List.length l0c) c0c, .int .i64 s0d, .bool n0d, .slice A0d (List.length l0d) c0d] 74)).alloc (.cells #[.int .i64 s1a, .bool n1a, .slice A1a (List.length l1a) c1a, .int .i64 s1b, .bool n1b, .slice A1b (List.length l1b) c1b, .int .i64 s1c, .bool n1c, .slice A1c (List.length l1c) c1c, .int .i64 s1d, .bool n1d, .slice A1d (List.length l1d) c1d] 74)).alloc (.cells #[.int .i64 0, .bool false, .slice none 0 0, .int .i64 0, .bool false, .slice none 0 0, .int .i64 0, .bool false, .slice none 0 0, .int .i64 0, .bool false, .slice none 0 0] 74) = W0 at *
  have HO := hide hO
  clear hO
  go_upto_region 1 with fail
  refine Rg.regionS 11 35 (Rg.pick [Rg.EqT (.pointer (some ⟨w.heap.size, 0, none⟩)), AggT [.q x], Rg.EqT (.pointer (some ⟨w.heap.size + 1, 0, none⟩)), AggT [.q a], SlT 48 1 [.q a], TupT [AggT [.q (minL x [a])], AggT [.q (maxL x [a])]], TupT [AggT [.q (minL x [a])], AggT [.q (maxL x [a])]], AggT [.q (minL x [a])], AggT [.q (maxL x [a])], NewB 48 [.v (.int .i64 0), .v (.bool false), .v (.slice none 0 0), .v (.int .i64 0), .v (.bool false), .v (.slice none 0 0)] W0.heap.size, NewB 48 [.v (.int .i64 0), .v (.bool false), .v (.slice none 0 0), .v (.int .i64 0), .v (.bool false), .v (.slice none 0 0)] W0.heap.size]) (OwnG w [(w.heap.size + 2, 74, [.v (.int .i64 0), .v (.bool false), .v (.slice none 0 0), .v (.int .i64 0), .v (.bool false), .v (.slice none 0 0), .v (.int .i64 0), .v (.bool false), .v (.slice none 0 0), .v (.int .i64 0), .v (.bool false), .v (.slice none 0 0)]), (w.heap.size + 1, 74, [.q a, .q b]), (w.heap.size, 74, [.q x, .q y])] W0) Bel [9, 10] (by kernel_rfl) rfl (Rg.Stabs.pick ⟨Rg.stab_eq _, stab_agg _, Rg.stab_eq _, stab_agg _, stab_sl _ _ _, stab_tup ⟨(stab_agg _), (stab_agg _), trivial⟩, stab_tup ⟨(stab_agg _), (stab_agg _), trivial⟩, stab_agg _, stab_agg _, stab_new _ _ _, stab_new _ _ _, trivial⟩) (OwnG.begin (unhide HO))
    (Rg.steps_cons (Rg.plain rfl (s_addr_e0 (b := w.heap.size) (off := 0) rfl (Rg.argF (by kernel_rfl) rfl) rfl rfl))
      (Rg.steps_cons (Rg.plain rfl (s_load (b := w.heap.size) (off := 0) (TB := 74) (pre := []) (mid := [.q x]) (post := [.q y]) load_q rfl (Rg.argT 0 (by kernel_rfl)) (fun W h => OwnG.box (List.Mem.tail _ (List.Mem.tail _ (List.Mem.head _))) h) rfl rfl rfl))
      (Rg.steps_cons (Rg.plain rfl (s_addr_e0 (b := w.heap.size + 1) (off := 0) rfl (Rg.argF (by kernel_rfl) rfl) rfl rfl))
      (Rg.steps_cons (Rg.plain rfl (s_load (b := w.heap.size + 1) (off := 0) (TB := 74) (pre := []) (mid := [.q a]) (post := [.q b]) load_q rfl (Rg.argT 2 (by kernel_rfl)) (fun W h => OwnG.box (List.Mem.tail _ (List.Mem.head _)) h) rfl rfl rfl))
      (Rg.steps_cons (Rg.plain rfl (s_buildsl (ps := [(0, .tmp 14)]) (gs := [[.q a]]) buildsl_q1 rfl OwnG.step rfl (ArgsOk.cons (Rg.argT 3 (by kernel_rfl)) rfl ArgsOk.nil) rfl))
      (Rg.steps_cons (Rg.plain rfl (s_call2 Tryd.func74 (by kernel_rfl) rfl OwnG.step (Rg.argT 1 (by kernel_rfl)) (Rg.argT 4 (by kernel_rfl)) (fun W v0 v1 hG h0 h1 => c_outmost (qs := [a]) (unhide HS).1 (by intro z hz; rw [List.mem_singleton.1 hz]; exact (unhide HS).2.2.1) (by simp) W _ _ h0 h1)))
      (Rg.steps_cons (Rg.plain rfl (s_move rfl (Rg.argT 5 (by kernel_rfl))))
      (Rg.steps_cons (Rg.plain rfl (s_extT (ts := [AggT [.q (minL x [a])], AggT [.q (maxL x [a])]]) rfl (Rg.argT 6 (by kernel_rfl)) (of_decide_eq_true rfl) rfl))
      (Rg.steps_cons (Rg.plain rfl (s_extT (ts := [AggT [.q (minL x [a])], AggT [.q (maxL x [a])]]) rfl (Rg.argT 6 (by kernel_rfl)) (of_decide_eq_true rfl) rfl))
      (Rg.steps_cons (Rg.plain rfl (s_alloc new_q rfl OwnG.step OwnG.size rfl (new_lt (by intro j hj; simp at hj; (repeat' (first | (rcases hj with rfl | hj))) <;> first | (subst hj; exact ⟨_, _, _, rfl⟩) | exact ⟨_, _, _, rfl⟩))))
      (Rg.steps_cons (Rg.plain rfl (s_alloc new_q rfl OwnG.step OwnG.size rfl (new_lt (by intro j hj; simp at hj; (repeat' (first | (rcases hj with rfl | hj))) <;> first | (subst hj; exact ⟨_, _, _, rfl⟩) | exact ⟨_, _, _, rfl⟩))))
      Rg.steps_nil))))))))))) ?_
  intro v1 V1 hG1 hv1 hne1
  simp only [Rg.puts, List.take_succ_cons, List.take_zero, List.drop_succ_cons, List.drop_zero, Act.put, List.setIfInBounds_toArray, List.set_cons_zero, List.set_cons_succ]
  have e0 : v1 0 = .pointer (some ⟨w.heap.size, 0, none⟩) := hv1 0 (by decide)
  have e2 : v1 2 = .pointer (some ⟨w.heap.size + 1, 0, none⟩) := hv1 2 (by decide)
  obtain ⟨b1_9, e9, hge9, hz9⟩ := (show NewB 48 [.v (.int .i64 0), .v (.bool false), .v (.slice none 0 0), .v (.int .i64 0), .v (.bool false), .v (.slice none 0 0)] W0.heap.size V1 (v1 9) from hv1 9 (by decide))
  obtain ⟨b1_10, e10, hge10, hz10⟩ := (show NewB 48 [.v (.int .i64 0), .v (.bool false), .v (.slice none 0 0), .v (.int .i64 0), .v (.bool false), .v (.slice none 0 0)] W0.heap.size V1 (v1 10) from hv1 10 (by decide))
  simp only [e0, e2, e9, e10]
  have hO := hG1.1
  have hnn : b1_10 ≠ b1_9 := fun h => hne1 10 9 rfl rfl (by decide) (by decide) (by decide) rfl rfl (by rw [e9, e10, h])
  replace hO := Own.add2 (unhide HO) hG1.2 hge9 hz9 hge10 hz10 hnn
  clear hnn hge9 hz9 hge10 hz10
  refine tl_store (xs := [(b1_10, 48, [.v (.int .i64 0), .v (.bool false), .v (.slice none 0 0), .v (.int .i64 0), .v (.bool false), .v (.slice none 0 0)])]) (ys := [(w.heap.size + 2, 74, [.v (.int .i64 0), .v (.bool false), .v (.slice none 0 0), .v (.int .i64 0), .v (.bool false), .v (.slice none 0 0), .v (.int .i64 0), .v (.bool false), .v (.slice none 0 0), .v (.int .i64 0), .v (.bool false), .v (.slice none 0 0)]), (w.heap.size + 1, 74, [.q a, .q b]), (w.heap.size, 74, [.q x, .q y])]) (pre := []) (old := [.v (.int .i64 0), .v (.bool false), .v (.slice none 0 0), .v (.int .i64 0), .v (.bool false), .v (.slice none 0 0)]) (new := [.q (minL x [a])]) (post := []) (b := b1_9) (off := 0) store_q rfl (show AggT [.q (minL x [a])] V1 (v1 7) from hv1 7 (by decide)) hO rfl rfl rfl ?_
  intro U1_0 hO0 hk0
  replace hO : Own w [(b1_10, 48, [.v (.int .i64 0), .v (.bool false), .v (.slice none 0 0), .v (.int .i64 0), .v (.bool false), .v (.slice none 0 0)]), (b1_9, 48, [.q (minL x [a])]), (w.heap.size + 2, 74, [.v (.int .i64 0), .v (.bool false), .v (.slice none 0 0), .v (.int .i64 0), .v (.bool false), .v (.slice none 0 0), .v (.int .i64 0), .v (.bool false), .v (.slice none 0 0), .v (.int .i64 0), .v (.bool false), .v (.slice none 0 0)]), (w.heap.size + 1, 74, [.q a, .q b]), (w.heap.size, 74, [.q x, .q y])] U1_0 := hO0
  clear hO0
  refine tl_store (xs := []) (ys := [(b1_9, 48, [.q (minL x [a])]), (w.heap.size + 2, 74, [.v (.int .i64 0), .v (.bool false), .v (.slice none 0 0), .v (.int .i64 0), .v (.bool false), .v (.slice none 0 0), .v (.int .i64 0), .v (.bool false), .v (.slice none 0 0), .v (.int .i64 0), .v (.bool false), .v (.slice none 0 0)]), (w.heap.size + 1, 74, [.q a, .q b]), (w.heap.size, 74, [.q x, .q y])]) (pre := []) (old := [.v (.int .i64 0), .v (.bool false), .v (.slice none 0 0), .v (.int .i64 0), .v (.bool false), .v (.slice none 0 0)]) (new := [.q (maxL x [a])]) (post := []) (b := b1_10) (off := 0) store_q rfl (hk0 _ _ (show AggT [.q (maxL x [a])] V1 (v1 8) from hv1 8 (by decide))) hO rfl rfl rfl ?_
  intro U1_1 hO1 hk1
  replace hO : Own w [(b1_10, 48, [.q (maxL x [a])]), (b1_9, 48, [.q (minL x [a])]), (w.heap.size + 2, 74, [.v (.int .i64 0), .v (.bool false), .v (.slice none 0 0), .v (.int .i64 0), .v (.bool false), .v (.slice none 0 0), .v (.int .i64 0), .v (.bool false), .v (.slice none 0 0), .v (.int .i64 0), .v (.bool false), .v (.slice none 0 0)]), (w.heap.size + 1, 74, [.q a, .q b]), (w.heap.size, 74, [.q x, .q y])] U1_1 := hO1
  clear hO1
  clear HO
  have HO := hide hO
  clear hO hG1 hv1 hne1 hk0 hk1
  try clear e0 e2 e9 e10
  go_upto_region 2 with fail
  refine Rg.regionS 11 35 (Rg.pick [Rg.EqT (.pointer (some ⟨w.heap.size, 6, none⟩)), AggT [.q y], Rg.EqT (.pointer (some ⟨w.heap.size + 1, 6, none⟩)), AggT [.q b], SlT 48 1 [.q b], TupT [AggT [.q (minL y [b])], AggT [.q (maxL y [b])]], TupT [AggT [.q (minL y [b])], AggT [.q (maxL y [b])]], AggT [.q (minL y [b])], AggT [.q (maxL y [b])], NewB 48 [.v (.int .i64 0), .v (.bool false), .v (.slice none 0 0), .v (.int .i64 0), .v (.bool false), .v (.slice none 0 0)] U1_1.heap.size, NewB 48 [.v (.int .i64 0), .v (.bool false), .v (.slice none 0 0), .v (.int .i64 0), .v (.bool false), .v (.slice none 0 0)] U1_1.heap.size]) (OwnG w [(b1_10, 48, [.q (maxL x [a])]), (b1_9, 48, [.q (minL x [a])]), (w.heap.size + 2, 74, [.v (.int .i64 0), .v (.bool false), .v (.slice none 0 0), .v (.int .i64 0), .v (.bool false), .v (.slice none 0 0), .v (.int .i64 0), .v (.bool false), .v (.slice none 0 0), .v (.int .i64 0), .v (.bool false), .v (.slice none 0 0)]), (w.heap.size + 1, 74, [.q a, .q b]), (w.heap.size, 74, [.q x, .q y])] U1_1) Bel [9, 10] (by kernel_rfl) rfl (Rg.Stabs.pick ⟨Rg.stab_eq _, stab_agg _, Rg.stab_eq _, stab_agg _, stab_sl _ _ _, stab_tup ⟨(stab_agg _), (stab_agg _), trivial⟩, stab_tup ⟨(stab_agg _), (stab_agg _), trivial⟩, stab_agg _, stab_agg _, stab_new _ _ _, stab_new _ _ _, trivial⟩) (OwnG.begin (unhide HO))
    (Rg.steps_cons (Rg.plain rfl (s_addr_e1 (b := w.heap.size) (off := 0) rfl (Rg.argF (by kernel_rfl) rfl) rfl rfl))
      (Rg.steps_cons (Rg.plain rfl (s_load (b := w.heap.size) (off := 6) (TB := 74) (pre := [.q x]) (mid := [.q y]) (post := []) load_q rfl (Rg.argT 0 (by kernel_rfl)) (fun W h => OwnG.box (List.Mem.tail _ (List.Mem.tail _ (List.Mem.tail _ (List.Mem.tail _ (List.Mem.head _))))) h) rfl rfl rfl))
      (Rg.steps_cons (Rg.plain rfl (s_addr_e1 (b := w.heap.size + 1) (off := 0) rfl (Rg.argF (by kernel_rfl) rfl) rfl rfl))
      (Rg.steps_cons (Rg.plain rfl (s_load (b := w.heap.size + 1) (off := 6) (TB := 74) (pre := [.q a]) (mid := [.q b]) (post := []) load_q rfl (Rg.argT 2 (by kernel_rfl)) (fun W h => OwnG.box (List.Mem.tail _ (List.Mem.tail _ (List.Mem.tail _ (List.Mem.head _)))) h) rfl rfl rfl))
      (Rg.steps_cons (Rg.plain rfl (s_buildsl (ps := [(0, .tmp 23)]) (gs := [[.q b]]) buildsl_q1 rfl OwnG.step rfl (ArgsOk.cons (Rg.argT 3 (by kernel_rfl)) rfl ArgsOk.nil) rfl))
      (Rg.steps_cons (Rg.plain rfl (s_call2 Tryd.func74 (by kernel_rfl) rfl OwnG.step (Rg.argT 1 (by kernel_rfl)) (Rg.argT 4 (by kernel_rfl)) (fun W v0 v1 hG h0 h1 => c_outmost (qs := [b]) (unhide HS).2.1 (by intro z hz; rw [List.mem_singleton.1 hz]; exact (unhide HS).2.2.2) (by simp) W _ _ h0 h1)))
      (Rg.steps_cons (Rg.plain rfl (s_move rfl (Rg.argT 5 (by kernel_rfl))))
      (Rg.steps_cons (Rg.plain rfl (s_extT (ts := [AggT [.q (minL y [b])], AggT [.q (maxL y [b])]]) rfl (Rg.argT 6 (by kernel_rfl)) (of_decide_eq_true rfl) rfl))
      (Rg.steps_cons (Rg.plain rfl (s_extT (ts := [AggT [.q (minL y [b])], AggT [.q (maxL y [b])]]) rfl (Rg.argT 6 (by kernel_rfl)) (of_decide_eq_true rfl) rfl))
      (Rg.steps_cons (Rg.plain rfl (s_alloc new_q rfl OwnG.step OwnG.size rfl (new_lt (by intro j hj; simp at hj; (repeat' (first | (rcases hj with rfl | hj))) <;> first | (subst hj; exact ⟨_, _, _, rfl⟩) | exact ⟨_, _, _, rfl⟩))))
      (Rg.steps_cons (Rg.plain rfl (s_alloc new_q rfl OwnG.step OwnG.size rfl (new_lt (by intro j hj; simp at hj; (repeat' (first | (rcases hj with rfl | hj))) <;> first | (subst hj; exact ⟨_, _, _, rfl⟩) | exact ⟨_, _, _, rfl⟩))))
      Rg.steps_nil))))))))))) ?_
  intro v2 V2 hG2 hv2 hne2
  simp only [Rg.puts, List.take_succ_cons, List.take_zero, List.drop_succ_cons, List.drop_zero, Act.put, List.setIfInBounds_toArray, List.set_cons_zero, List.set_cons_succ]
  have e0 : v2 0 = .pointer (some ⟨w.heap.size, 6, none⟩) := hv2 0 (by decide)
  have e2 : v2 2 = .pointer (some ⟨w.heap.size + 1, 6, none⟩) := hv2 2 (by decide)
  obtain ⟨b2_9, e9, hge9, hz9⟩ := (show NewB 48 [.v (.int .i64 0), .v (.bool false), .v (.slice none 0 0), .v (.int .i64 0), .v (.bool false), .v (.slice none 0 0)] U1_1.heap.size V2 (v2 9) from hv2 9 (by decide))
  obtain ⟨b2_10, e10, hge10, hz10⟩ := (show NewB 48 [.v (.int .i64 0), .v (.bool false), .v (.slice none 0 0), .v (.int .i64 0), .v (.bool false), .v (.slice none 0 0)] U1_1.heap.size V2 (v2 10) from hv2 10 (by decide))
  simp only [e0, e2, e9, e10]
  have hO := hG2.1
  have hnn : b2_10 ≠ b2_9 := fun h => hne2 10 9 rfl rfl (by decide) (by decide) (by decide) rfl rfl (by rw [e9, e10, h])
  replace hO := Own.add2 (unhide HO) hG2.2 hge9 hz9 hge10 hz10 hnn
  clear hnn hge9 hz9 hge10 hz10
  refine tl_store (xs := [(b2_10, 48, [.v (.int .i64 0), .v (.bool false), .v (.slice none 0 0), .v (.int .i64 0), .v (.bool false), .v (.slice none 0 0)])]) (ys := [(b1_10, 48, [.q (maxL x [a])]), (b1_9, 48, [.q (minL x [a])]), (w.heap.size + 2, 74, [.v (.int .i64 0), .v (.bool false), .v (.slice none 0 0), .v (.int .i64 0), .v (.bool false), .v (.slice none 0 0), .v (.int .i64 0), .v (.bool false), .v (.slice none 0 0), .v (.int .i64 0), .v (.bool false), .v (.slice none 0 0)]), (w.heap.size + 1, 74, [.q a, .q b]), (w.heap.size, 74, [.q x, .q y])]) (pre := []) (old := [.v (.int .i64 0), .v (.bool false), .v (.slice none 0 0), .v (.int .i64 0), .v (.bool false), .v (.slice none 0 0)]) (new := [.q (minL y [b])]) (post := []) (b := b2_9) (off := 0) store_q rfl (show AggT [.q (minL y [b])] V2 (v2 7) from hv2 7 (by decide)) hO rfl rfl rfl ?_
  intro U2_0 hO0 hk0
  replace hO : Own w [(b2_10, 48, [.v (.int .i64 0), .v (.bool false), .v (.slice none 0 0), .v (.int .i64 0), .v (.bool false), .v (.slice none 0 0)]), (b2_9, 48, [.q (minL y [b])]), (b1_10, 48, [.q (maxL x [a])]), (b1_9, 48, [.q (minL x [a])]), (w.heap.size + 2, 74, [.v (.int .i64 0), .v (.bool false), .v (.slice none 0 0), .v (.int .i64 0), .v (.bool false), .v (.slice none 0 0), .v (.int .i64 0), .v (.bool false), .v (.slice none 0 0), .v (.int .i64 0), .v (.bool false), .v (.slice none 0 0)]), (w.heap.size + 1, 74, [.q a, .q b]), (w.heap.size, 74, [.q x, .q y])] U2_0 := hO0
  clear hO0
  refine tl_store (xs := []) (ys := [(b2_9, 48, [.q (minL y [b])]), (b1_10, 48, [.q (maxL x [a])]), (b1_9, 48, [.q (minL x [a])]), (w.heap.size + 2, 74, [.v (.int .i64 0), .v (.bool false), .v (.slice none 0 0), .v (.int .i64 0), .v (.bool false), .v (.slice none 0 0), .v (.int .i64 0), .v (.bool false), .v (.slice none 0 0), .v (.int .i64 0), .v (.bool false), .v (.slice none 0 0)]), (w.heap.size + 1, 74, [.q a, .q b]), (w.heap.size, 74, [.q x, .q y])]) (pre := []) (old := [.v (.int .i64 0), .v (.bool false), .v (.slice none 0 0), .v (.int .i64 0), .v (.bool false), .v (.slice none 0 0)]) (new := [.q (maxL y [b])]) (post := []) (b := b2_10) (off := 0) store_q rfl (hk0 _ _ (show AggT [.q (maxL y [b])] V2 (v2 8) from hv2 8 (by decide))) hO rfl rfl rfl ?_
  intro U2_1 hO1 hk1
  replace hO : Own w [(b2_10, 48, [.q (maxL y [b])]), (b2_9, 48, [.q (minL y [b])]), (b1_10, 48, [.q (maxL x [a])]), (b1_9, 48, [.q (minL x [a])]), (w.heap.size + 2, 74, [.v (.int .i64 0), .v (.bool false), .v (.slice none 0 0), .v (.int .i64 0), .v (.bool false), .v (.slice none 0 0), .v (.int .i64 0), .v (.bool false), .v (.slice none 0 0), .v (.int .i64 0), .v (.bool false), .v (.slice none 0 0)]), (w.heap.size + 1, 74, [.q a, .q b]), (w.heap.size, 74, [.q x, .q y])] U2_1 := hO1
  clear hO1
  clear HO
  have HO := hide hO
  clear hO hG2 hv2 hne2 hk0 hk1
  try clear e0 e2 e9 e10
  go_upto_region 3 with fail
  refine Rg.region 9 35 (Rg.pick [AggT [.q (maxL x [a])], AggT [.q (minL y [b])], AggT [.q (maxL x [a]), .q (minL y [b])], AggT [.q (maxL x [a])], AggT [.q (minL y [b])], Rg.EqT (.int .i64 (sgn ((maxL x [a]).num * (minL y [b]).den - (minL y [b]).num * (maxL x [a]).den))), Rg.EqT (.bool (decide (sgn ((maxL x [a]).num * (minL y [b]).den - (minL y [b]).num * (maxL x [a]).den) ≤ 0))), StT (w.heap.size + 2, 74, [.q (maxL x [a]), .q (minL y [b])]), Rg.EqT (.bool (decide (sgn ((maxL x [a]).num * (minL y [b]).den - (minL y [b]).num * (maxL x [a]).den) ≤ 0)))]) (GS w [(b2_10, 48, [.q (maxL y [b])]), (b2_9, 48, [.q (minL y [b])]), (b1_10, 48, [.q (maxL x [a])]), (b1_9, 48, [.q (minL x [a])]), (w.heap.size + 2, 74, [.v (.int .i64 0), .v (.bool false), .v (.slice none 0 0), .v (.int .i64 0), .v (.bool false), .v (.slice none 0 0), .v (.int .i64 0), .v (.bool false), .v (.slice none 0 0), .v (.int .i64 0), .v (.bool false), .v (.slice none 0 0)]), (w.heap.size + 1, 74, [.q a, .q b]), (w.heap.size, 74, [.q x, .q y])] (w.heap.size + 2, 74, [.q (maxL x [a]), .q (minL y [b])]) (w.heap.size + 2, 74, [.q (maxL x [a]), .q (minL y [b])])) (ES (w.heap.size + 2, 74, [.q (maxL x [a]), .q (minL y [b])]) (w.heap.size + 2, 74, [.q (maxL x [a]), .q (minL y [b])])) [] (by kernel_rfl) (by kernel_rfl) rfl (Rg.Stabs.pick ⟨(stabS_agg _), (stabS_agg _), (stabS_agg _), (stabS_agg _), (stabS_agg _), (stabS_eq _), (stabS_eq _), (stabS_st (.inr rfl) (.inl rfl)), (stabS_eq _), trivial⟩) (GS.start (unhide HO))
    (Rg.steps_cons (Rg.plain rfl (step_mono (s_load (b := b1_10) (off := 0) (TB := 48) (pre := []) (mid := [.q (maxL x [a])]) (post := []) load_q rfl (Rg.argF (by kernel_rfl) rfl) (fun W h => GS.get (List.Mem.tail _ (List.Mem.tail _ (List.Mem.head _))) (fun h => absurd (show (w.heap.size + 2 : Nat) = b1_10 from h) (by first | omega | (intro h; exact (fun h => own_ne (unhide HO) 2 4 rfl rfl (by decide) h.symm) h))) (fun h => absurd (show (w.heap.size + 2 : Nat) = b1_10 from h) (by first | omega | (intro h; exact (fun h => own_ne (unhide HO) 2 4 rfl rfl (by decide) h.symm) h))) h) rfl rfl rfl)))
      (Rg.steps_cons (Rg.plain rfl (step_mono (s_load (b := b2_9) (off := 0) (TB := 48) (pre := []) (mid := [.q (minL y [b])]) (post := []) load_q rfl (Rg.argF (by kernel_rfl) rfl) (fun W h => GS.get (List.Mem.tail _ (List.Mem.head _)) (fun h => absurd (show (w.heap.size + 2 : Nat) = b2_9 from h) (by first | omega | (intro h; exact (fun h => own_ne (unhide HO) 1 4 rfl rfl (by decide) h.symm) h))) (fun h => absurd (show (w.heap.size + 2 : Nat) = b2_9 from h) (by first | omega | (intro h; exact (fun h => own_ne (unhide HO) 1 4 rfl rfl (by decide) h.symm) h))) h) rfl rfl rfl)))
      (Rg.steps_cons (Rg.plain rfl (step_mono (s_build2 build_e rfl (Rg.argT 0 (by kernel_rfl)) (Rg.argT 1 (by kernel_rfl)) rfl rfl rfl)))
      (Rg.steps_cons (Rg.plain rfl (step_mono (s_load (b := b1_10) (off := 0) (TB := 48) (pre := []) (mid := [.q (maxL x [a])]) (post := []) load_q rfl (Rg.argF (by kernel_rfl) rfl) (fun W h => GS.get (List.Mem.tail _ (List.Mem.tail _ (List.Mem.head _))) (fun h => absurd (show (w.heap.size + 2 : Nat) = b1_10 from h) (by first | omega | (intro h; exact (fun h => own_ne (unhide HO) 2 4 rfl rfl (by decide) h.symm) h))) (fun h => absurd (show (w.heap.size + 2 : Nat) = b1_10 from h) (by first | omega | (intro h; exact (fun h => own_ne (unhide HO) 2 4 rfl rfl (by decide) h.symm) h))) h) rfl rfl rfl)))
      (Rg.steps_cons (Rg.plain rfl (step_mono (s_load (b := b2_9) (off := 0) (TB := 48) (pre := []) (mid := [.q (minL y [b])]) (post := []) load_q rfl (Rg.argF (by kernel_rfl) rfl) (fun W h => GS.get (List.Mem.tail _ (List.Mem.head _)) (fun h => absurd (show (w.heap.size + 2 : Nat) = b2_9 from h) (by first | omega | (intro h; exact (fun h => own_ne (unhide HO) 1 4 rfl rfl (by decide) h.symm) h))) (fun h => absurd (show (w.heap.size + 2 : Nat) = b2_9 from h) (by first | omega | (intro h; exact (fun h => own_ne (unhide HO) 1 4 rfl rfl (by decide) h.symm) h))) h) rfl rfl rfl)))
      (Rg.steps_cons (Rg.plain rfl (step_mono (s_call2 Tryd.func28 (by kernel_rfl) rfl GS.step (Rg.argT 3 (by kernel_rfl)) (Rg.argT 4 (by kernel_rfl)) (fun W v0 v1 hG h0 h1 => c_cmp (maxL_sm (unhide HS).1 (by intro z hz; rw [List.mem_singleton.1 hz]; exact (unhide HS).2.2.1)) (minL_sm (unhide HS).2.1 (by intro z hz; rw [List.mem_singleton.1 hz]; exact (unhide HS).2.2.2)) h0 h1))))
      (Rg.steps_cons (Rg.plain rfl (step_mono (s_leq rfl (Rg.argT 5 (by kernel_rfl)) (Rg.argC _) rfl rfl)))
      (Rg.steps_cons (Rg.plain rfl (s_storeS (b := w.heap.size + 2) (old := [.v (.int .i64 0), .v (.bool false), .v (.slice none 0 0), .v (.int .i64 0), .v (.bool false), .v (.slice none 0 0), .v (.int .i64 0), .v (.bool false), .v (.slice none 0 0), .v (.int .i64 0), .v (.bool false), .v (.slice none 0 0)]) (new := [.q (maxL x [a]), .q (minL y [b])]) store_e rfl (Rg.argF (by kernel_rfl) rfl) (Rg.argT 2 (by kernel_rfl)) (List.Mem.tail _ (List.Mem.tail _ (List.Mem.tail _ (List.Mem.tail _ (List.Mem.head _))))) (unhide HO).nd (.inl rfl) (.inr rfl) rfl rfl rfl))
      (Rg.steps_cons (Rg.plain rfl (step_mono (s_assign rfl (Rg.argT 6 (by kernel_rfl)))))
      Rg.steps_nil))))))))) ?_
  intro v3 V3 hG3 hv3 hne3
  simp only [Rg.puts, List.take_succ_cons, List.take_zero, List.drop_succ_cons, List.drop_zero, Act.put, List.setIfInBounds_toArray, List.set_cons_zero, List.set_cons_succ]
  have e5 : v3 5 = .int .i64 (sgn ((maxL x [a]).num * (minL y [b]).den - (minL y [b]).num * (maxL x [a]).den)) := hv3 5 (by decide)
  have e6 : v3 6 = .bool (decide (sgn ((maxL x [a]).num * (minL y [b]).den - (minL y [b]).num * (maxL x [a]).den) ≤ 0)) := hv3 6 (by decide)
  have e8 : v3 8 = .bool (decide (sgn ((maxL x [a]).num * (minL y [b]).den - (minL y [b]).num * (maxL x [a]).den) ≤ 0)) := hv3 8 (by decide)
  simp only [e5, e6, e8]
  have hO : Own w [(b2_10, 48, [.q (maxL y [b])]), (b2_9, 48, [.q (minL y [b])]), (b1_10, 48, [.q (maxL x [a])]), (b1_9, 48, [.q (minL x [a])]), (w.heap.size + 2, 74, [.q (maxL x [a]), .q (minL y [b])]), (w.heap.size + 1, 74, [.q a, .q b]), (w.heap.size, 74, [.q x, .q y])] V3 := by
    refine ⟨hG3.bel, (unhide HO).nd, fun b T ls hm => ?_⟩
    rcases List.mem_cons.1 hm with e | hm
    · cases e; exact ⟨(hG3.box _ _ _ (List.Mem.head _)).1, GS.get (List.Mem.head _) (fun h => absurd (show (w.heap.size + 2 : Nat) = b2_10 from h) (by first | omega | (intro h; exact (fun h => own_ne (unhide HO) 0 4 rfl rfl (by decide) h.symm) h))) (fun h => absurd (show (w.heap.size + 2 : Nat) = b2_10 from h) (by first | omega | (intro h; exact (fun h => own_ne (unhide HO) 0 4 rfl rfl (by decide) h.symm) h))) hG3⟩
    rcases List.mem_cons.1 hm with e | hm
    · cases e; exact ⟨(hG3.box _ _ _ (List.Mem.tail _ (List.Mem.head _))).1, GS.get (List.Mem.tail _ (List.Mem.head _)) (fun h => absurd (show (w.heap.size + 2 : Nat) = b2_9 from h) (by first | omega | (intro h; exact (fun h => own_ne (unhide HO) 1 4 rfl rfl (by decide) h.symm) h))) (fun h => absurd (show (w.heap.size + 2 : Nat) = b2_9 from h) (by first | omega | (intro h; exact (fun h => own_ne (unhide HO) 1 4 rfl rfl (by decide) h.symm) h))) hG3⟩
    rcases List.mem_cons.1 hm with e | hm
    · cases e; exact ⟨(hG3.box _ _ _ (List.Mem.tail _ (List.Mem.tail _ (List.Mem.head _)))).1, GS.get (List.Mem.tail _ (List.Mem.tail _ (List.Mem.head _))) (fun h => absurd (show (w.heap.size + 2 : Nat) = b1_10 from h) (by first | omega | (intro h; exact (fun h => own_ne (unhide HO) 2 4 rfl rfl (by decide) h.symm) h))) (fun h => absurd (show (w.heap.size + 2 : Nat) = b1_10 from h) (by first | omega | (intro h; exact (fun h => own_ne (unhide HO) 2 4 rfl rfl (by decide) h.symm) h))) hG3⟩
    rcases List.mem_cons.1 hm with e | hm
    · cases e; exact ⟨(hG3.box _ _ _ (List.Mem.tail _ (List.Mem.tail _ (List.Mem.tail _ (List.Mem.head _))))).1, GS.get (List.Mem.tail _ (List.Mem.tail _ (List.Mem.tail _ (List.Mem.head _)))) (fun h => absurd (show (w.heap.size + 2 : Nat) = b1_9 from h) (by first | omega | (intro h; exact (fun h => own_ne (unhide HO) 3 4 rfl rfl (by decide) h.symm) h))) (fun h => absurd (show (w.heap.size + 2 : Nat) = b1_9 from h) (by first | omega | (intro h; exact (fun h => own_ne (unhide HO) 3 4 rfl rfl (by decide) h.symm) h))) hG3⟩
    rcases List.mem_cons.1 hm with e | hm
    · cases e; exact ⟨(hG3.box _ _ _ (List.Mem.tail _ (List.Mem.tail _ (List.Mem.tail _ (List.Mem.tail _ (List.Mem.head _)))))).1, hv3 7 (by decide)⟩
    rcases List.mem_cons.1 hm with e | hm
    · cases e; exact ⟨(hG3.box _ _ _ (List.Mem.tail _ (List.Mem.tail _ (List.Mem.tail _ (List.Mem.tail _ (List.Mem.tail _ (List.Mem.head _))))))).1, GS.get (List.Mem.tail _ (List.Mem.tail _ (List.Mem.tail _ (List.Mem.tail _ (List.Mem.tail _ (List.Mem.head _)))))) (fun h => absurd (show (w.heap.size + 2 : Nat) = w.heap.size + 1 from h) (by first | omega | (intro h; exact (own_ne (unhide HO) 4 5 rfl rfl (by decide)) h))) (fun h => absurd (show (w.heap.size + 2 : Nat) = w.heap.size + 1 from h) (by first | omega | (intro h; exact (own_ne (unhide HO) 4 5 rfl rfl (by decide)) h))) hG3⟩
    rcases List.mem_cons.1 hm with e | hm
    · cases e; exact ⟨(hG3.box _ _ _ (List.Mem.tail _ (List.Mem.tail _ (List.Mem.tail _ (List.Mem.tail _ (List.Mem.tail _ (List.Mem.tail _ (List.Mem.head _)))))))).1, GS.get (List.Mem.tail _ (List.Mem.tail _ (List.Mem.tail _ (List.Mem.tail _ (List.Mem.tail _ (List.Mem.tail _ (List.Mem.head _))))))) (fun h => absurd (show (w.heap.size + 2 : Nat) = w.heap.size from h) (by first | omega | (intro h; exact (own_ne (unhide HO) 4 6 rfl rfl (by decide)) h))) (fun h => absurd (show (w.heap.size + 2 : Nat) = w.heap.size from h) (by first | omega | (intro h; exact (own_ne (unhide HO) 4 6 rfl rfl (by decide)) h))) hG3⟩
    cases hm
  clear HO
  have HO := hide hO
  clear hO hG3 hv3 hne3
  try clear e5 e6 e8
  go_wp2_with fail
  exact end_ct Tryd.results48 loadv_e rfl rfl (unhide HO) (List.Mem.tail _ (List.Mem.tail _ (List.Mem.tail _ (List.Mem.tail _ (List.Mem.head _))))) rfl rfl
theorem times_sm {x y a b : Rat} {K : Nat} (sx : Sm K x) (sy : Sm K y) (sa : Sm K a) (sb : Sm K b) (hK : K + K ≤ 1000000) (w : World) (hT : Tab w) : Sm (K + K) (x * a) ∧ ∀ z ∈ [x * b, y * a, y * b], Sm (K + K) z := by
  refine ⟨sx.mul sa hK w hT, fun z hz => ?_⟩
  simp only [List.mem_cons, List.not_mem_nil, or_false] at hz
  rcases hz with rfl | rfl | rfl
  · exact sx.mul sb hK w hT
  · exact sy.mul sa hK w hT
  · exact sy.mul sb hK w hT
set_option maxRecDepth 100000 in
set_option maxHeartbeats 16000000 in
theorem c_times {x y a b : Rat} {K : Nat} (sx : Sm K x) (sy : Sm K y) (sa : Sm K a) (sb : Sm K b) (hK : K + K ≤ 1000000) (w : World) (hT : Tab w) (u0 : Value) (h0 : AggT [.q x, .q y] w u0) (u1 : Value) (h1 : AggT [.q a, .q b] w u1) :
    Calls Tryd.prog 73 #[u0, u1] w (RetT (AggT [.q (minL (x * a) [x * b, y * a, y * b]), .q (maxL (x * a) [x * b, y * a, y * b])]) w) := by
  have HS := hide (And.intro sx (And.intro sy (And.intro sa (And.intro sb hK))))
  have HP := hide (times_sm sx sy sa sb hK w hT)
  have HT := hide hT
  clear sx sy sa sb hK hT
  obtain ⟨s0a, n0a, A0a, c0a, l0a, s0b, n0b, A0b, c0b, l0b, s0c, n0c, A0c, c0c, l0c, s0d, n0d, A0d, c0d, l0d, rfl, f0a, f0b, f0c, f0d⟩ := agg_qq h0
  obtain ⟨s1a, n1a, A1a, c1a, l1a, s1b, n1b, A1b, c1b, l1b, s1c, n1c, A1c, c1c, l1c, s1d, n1d, A1d, c1d, l1d, rfl, f1a, f1b, f1c, f1d⟩ := agg_qq h1
  go_enter Tryd.func73, Tryd.ntmps73
  go_upto_region 1 with fail
  have hO := (Own.push (T := 74) (ls := [.v (.int .i64 0), .v (.bool false), .v (.slice none 0 0), .v (.int .i64 0), .v (.bool false), .v (.slice none 0 0), .v (.int .i64 0), .v (.bool false), .v (.slice none 0 0), .v (.int .i64 0), .v (.bool false), .v (.slice none 0 0)]) (cs := [.int .i64 0, .bool false, .slice none 0 0, .int .i64 0, .bool false, .slice none 0 0, .int .i64 0, .bool false, .slice none 0 0, .int .i64 0, .bool false, .slice none 0 0]) (Own.push (T := 74) (ls := [.q a, .q b]) (cs := [.int .i64 s1a, .bool n1a, .slice A1a (List.length l1a) c1a, .int .i64 s1b, .bool n1b, .slice A1b (List.length l1b) c1b, .int .i64 s1c, .bool n1c, .slice A1c (List.length l1c) c1c, .int .i64 s1d, .bool n1d, .slice A1d (List.length l1d) c1d]) (Own.push (T := 74) (ls := [.q x, .q y]) (cs := [.int .i64 s0a, .bool n0a, .slice A0a (List.length l0a) c0a, .int .i64 s0b, .bool n0b, .slice A0b (List.length l0b) c0b, .int .i64 s0c, .bool n0c, .slice A0c (List.length l0c) c0c, .int .i64 s0d, .bool n0d, .slice A0d (List.length l0d) c0d]) (Own.nil w) (LOk.q f0a f0b (LOk.q f0c f0d rfl)) (w.heap.size) rfl) (((LOk.q f1a f1b (LOk.q f1c f1d rfl)) : LOk w [.q a, .q b] [.int .i64 s1a, .bool n1a, .slice A1a (List.length l1a) c1a, .int .i64 s1b, .bool n1b, .slice A1b (List.length l1b) c1b, .int .i64 s1c, .bool n1c, .slice A1c (List.length l1c) c1c, .int .i64 s1d, .bool n1d, .slice A1d (List.length l1d) c1d]).below (by repeat (first | exact Below.refl _ _ | refine below_alloc ?_ _))) (w.heap.size + 1) (by simp only [World.size_alloc])) (((LOk.vs w [.int .i64 0, .bool false, .slice none 0 0, .int .i64 0, .bool false, .slice none 0 0, .int .i64 0, .bool false, .slice none 0 0, .int .i64 0, .bool false, .slice none 0 0] rfl) : LOk w [.v (.int .i64 0), .v (.bool false), .v (.slice none 0 0), .v (.int .i64 0), .v (.bool false), .v (.slice none 0 0), .v (.int .i64 0), .v (.bool false), .v (.slice none 0 0), .v (.int .i64 0), .v (.bool false), .v (.slice none 0 0)] [.int .i64 0, .bool false, .slice none 0 0, .int .i64 0, .bool false, .slice none 0 0, .int .i64 0, .bool false, .slice none 0 0, .int .i64 0, .bool false, .slice none 0 0]).below (by repeat (first | exact Below.refl _ _ | refine below_alloc ?_ _))) (w.heap.size + 2) (by simp only [World.size_alloc]))
  generalize ((w.alloc (.cells #[.int .i64 s0a, .bool n0a, .slice A0a (List.length l0a) c0a, .int .i64 s0b, .bool n0b, .slice A0b (List.length l0b) c0b, .int .i64 s0c, .bool n0c, .slice A0c (List.length l0c) c0c, .int .i64 s0d, .bool n0d, .slice A0d (List.length l0d) c0d] 74)).alloc (.cells #[.int .i64 s1a, .bool n1a, .slice A1a (List.length l1a) c1a, .int .i64 s1b, .bool n1b, .slice A1b (List.length l1b) c1b, .int .i64 s1c, .bool n1c, .slice A1c (List.length l1c) c1c, .int .i64 s1d, .bool n1d, .slice A1d (List.length l1d) c1d] 74)).alloc (.cells #[.int .i64 0, .bool false, .slice none 0 0, .int .i64 0, .bool false, .slice none 0 0, .int .i64 0, .bool false, .slice none 0 0, .int .i64 0, .bool false, .slice none 0 0] 74) = W0 at *
  have HO := hide hO
  clear hO
  go_upto_region 1 with fail
  refine Rg.region 22 27 (Rg.pick [Rg.EqT (.pointer (some ⟨w.heap.size, 0, none⟩)), AggT [.q x], Rg.EqT (.pointer (some ⟨w.heap.size + 1, 0, none⟩)), AggT [.q a], AggT [.q (x * a)], Rg.EqT (.pointer (some ⟨w.heap.size, 0, none⟩)), AggT [.q x], Rg.EqT (.pointer (some ⟨w.heap.size + 1, 6, none⟩)), AggT [.q b], AggT [.q (x * b)], Rg.EqT (.pointer (some ⟨w.heap.size, 6, none⟩)), AggT [.q y], Rg.EqT (.pointer (some ⟨w.heap.size + 1, 0, none⟩)), AggT [.q a], AggT [.q (y * a)], Rg.EqT (.pointer (some ⟨w.heap.size, 6, none⟩)), AggT [.q y], Rg.EqT (.pointer (some ⟨w.heap.size + 1, 6, none⟩)), AggT [.q b], AggT [.q (y * b)], SlT 48 3 [.q (x * b), .q (y * a), .q (y * b)], AggT [.q (minL (x * a) [x * b, y * a, y * b]), .q (maxL (x * a) [x * b, y * a, y * b])]]) (OwnG w [(w.heap.size + 2, 74, [.v (.int .i64 0), .v (.bool false), .v (.slice none 0 0), .v (.int .i64 0), .v (.bool false), .v (.slice none 0 0), .v (.int .i64 0), .v (.bool false), .v (.slice none 0 0), .v (.int .i64 0), .v (.bool false), .v (.slice none 0 0)]), (w.heap.size + 1, 74, [.q a, .q b]), (w.heap.size, 74, [.q x, .q y])] W0) Bel [] (by kernel_rfl) (by kernel_rfl) rfl (Rg.Stabs.pick ⟨Rg.stab_eq _, stab_agg _, Rg.stab_eq _, stab_agg _, stab_agg _, Rg.stab_eq _, stab_agg _, Rg.stab_eq _, stab_agg _, stab_agg _, Rg.stab_eq _, stab_agg _, Rg.stab_eq _, stab_agg _, stab_agg _, Rg.stab_eq _, stab_agg _, Rg.stab_eq _, stab_agg _, stab_agg _, stab_sl _ _ _, stab_agg _, trivial⟩) (OwnG.start (unhide HO))
    (Rg.steps_cons (Rg.plain rfl (s_addr_e0 (b := w.heap.size) (off := 0) rfl (Rg.argF (by kernel_rfl) rfl) rfl rfl))
      (Rg.steps_cons (Rg.plain rfl (s_load (b := w.heap.size) (off := 0) (TB := 74) (pre := []) (mid := [.q x]) (post := [.q y]) load_q rfl (Rg.argT 0 (by kernel_rfl)) (fun W h => OwnG.box (List.Mem.tail _ (List.Mem.tail _ (List.Mem.head _))) h) rfl rfl rfl))
      (Rg.steps_cons (Rg.plain rfl (s_addr_e0 (b := w.heap.size + 1) (off := 0) rfl (Rg.argF (by kernel_rfl) rfl) rfl rfl))
      (Rg.steps_cons (Rg.plain rfl (s_load (b := w.heap.size + 1) (off := 0) (TB := 74) (pre := []) (mid := [.q a]) (post := [.q b]) load_q rfl (Rg.argT 2 (by kernel_rfl)) (fun W h => OwnG.box (List.Mem.tail _ (List.Mem.head _)) h) rfl rfl rfl))
      (Rg.steps_cons (Rg.plain rfl (s_call2 Tryd.func39 (by kernel_rfl) rfl OwnG.step (Rg.argT 1 (by kernel_rfl)) (Rg.argT 3 (by kernel_rfl)) (fun W v0 v1 hG h0 h1 => c_mul ((unhide HT).below hG.bel) (unhide HS).1 (unhide HS).2.2.1 h0 h1)))
      (Rg.steps_cons (Rg.plain rfl (s_addr_e0 (b := w.heap.size) (off := 0) rfl (Rg.argF (by kernel_rfl) rfl) rfl rfl))
      (Rg.steps_cons (Rg.plain rfl (s_load (b := w.heap.size) (off := 0) (TB := 74) (pre := []) (mid := [.q x]) (post := [.q y]) load_q rfl (Rg.argT 5 (by kernel_rfl)) (fun W h => OwnG.box (List.Mem.tail _ (List.Mem.tail _ (List.Mem.head _))) h) rfl rfl rfl))
      (Rg.steps_cons (Rg.plain rfl (s_addr_e1 (b := w.heap.size + 1) (off := 0) rfl (Rg.argF (by kernel_rfl) rfl) rfl rfl))
      (Rg.steps_cons (Rg.plain rfl (s_load (b := w.heap.size + 1) (off := 6) (TB := 74) (pre := [.q a]) (mid := [.q b]) (post := []) load_q rfl (Rg.argT 7 (by kernel_rfl)) (fun W h => OwnG.box (List.Mem.tail _ (List.Mem.head _)) h) rfl rfl rfl))
      (Rg.steps_cons (Rg.plain rfl (s_call2 Tryd.func39 (by kernel_rfl) rfl OwnG.step (Rg.argT 6 (by kernel_rfl)) (Rg.argT 8 (by kernel_rfl)) (fun W v0 v1 hG h0 h1 => c_mul ((unhide HT).below hG.bel) (unhide HS).1 (unhide HS).2.2.2.1 h0 h1)))
      (Rg.steps_cons (Rg.plain rfl (s_addr_e1 (b := w.heap.size) (off := 0) rfl (Rg.argF (by kernel_rfl) rfl) rfl rfl))
      (Rg.steps_cons (Rg.plain rfl (s_load (b := w.heap.size) (off := 6) (TB := 74) (pre := [.q x]) (mid := [.q y]) (post := []) load_q rfl (Rg.argT 10 (by kernel_rfl)) (fun W h => OwnG.box (List.Mem.tail _ (List.Mem.tail _ (List.Mem.head _))) h) rfl rfl rfl))
      (Rg.steps_cons (Rg.plain rfl (s_addr_e0 (b := w.heap.size + 1) (off := 0) rfl (Rg.argF (by kernel_rfl) rfl) rfl rfl))
      (Rg.steps_cons (Rg.plain rfl (s_load (b := w.heap.size + 1) (off := 0) (TB := 74) (pre := []) (mid := [.q a]) (post := [.q b]) load_q rfl (Rg.argT 12 (by kernel_rfl)) (fun W h => OwnG.box (List.Mem.tail _ (List.Mem.head _)) h) rfl rfl rfl))
      (Rg.steps_cons (Rg.plain rfl (s_call2 Tryd.func39 (by kernel_rfl) rfl OwnG.step (Rg.argT 11 (by kernel_rfl)) (Rg.argT 13 (by kernel_rfl)) (fun W v0 v1 hG h0 h1 => c_mul ((unhide HT).below hG.bel) (unhide HS).2.1 (unhide HS).2.2.1 h0 h1)))
      (Rg.steps_cons (Rg.plain rfl (s_addr_e1 (b := w.heap.size) (off := 0) rfl (Rg.argF (by kernel_rfl) rfl) rfl rfl))
      (Rg.steps_cons (Rg.plain rfl (s_load (b := w.heap.size) (off := 6) (TB := 74) (pre := [.q x]) (mid := [.q y]) (post := []) load_q rfl (Rg.argT 15 (by kernel_rfl)) (fun W h => OwnG.box (List.Mem.tail _ (List.Mem.tail _ (List.Mem.head _))) h) rfl rfl rfl))
      (Rg.steps_cons (Rg.plain rfl (s_addr_e1 (b := w.heap.size + 1) (off := 0) rfl (Rg.argF (by kernel_rfl) rfl) rfl rfl))
      (Rg.steps_cons (Rg.plain rfl (s_load (b := w.heap.size + 1) (off := 6) (TB := 74) (pre := [.q a]) (mid := [.q b]) (post := []) load_q rfl (Rg.argT 17 (by kernel_rfl)) (fun W h => OwnG.box (List.Mem.tail _ (List.Mem.head _)) h) rfl rfl rfl))
      (Rg.steps_cons (Rg.plain rfl (s_call2 Tryd.func39 (by kernel_rfl) rfl OwnG.step (Rg.argT 16 (by kernel_rfl)) (Rg.argT 18 (by kernel_rfl)) (fun W v0 v1 hG h0 h1 => c_mul ((unhide HT).below hG.bel) (unhide HS).2.1 (unhide HS).2.2.2.1 h0 h1)))
      (Rg.steps_cons (Rg.plain rfl (s_buildsl (ps := [(0, .tmp 14), (1, .tmp 19), (2, .tmp 24)]) (gs := [[.q (x * b)], [.q (y * a)], [.q (y * b)]]) buildsl_q3 rfl OwnG.step rfl (ArgsOk.cons (Rg.argT 9 (by kernel_rfl)) rfl (ArgsOk.cons (Rg.argT 14 (by kernel_rfl)) rfl (ArgsOk.cons (Rg.argT 19 (by kernel_rfl)) rfl ArgsOk.nil))) rfl))
      (Rg.steps_cons (Rg.plain rfl (s_call2 Tryd.func46 (by kernel_rfl) rfl OwnG.step (Rg.argT 4 (by kernel_rfl)) (Rg.argT 20 (by kernel_rfl)) (fun W v0 v1 hG h0 h1 => c_around (qs := [x * b, y * a, y * b]) (unhide HP).1 (unhide HP).2 (by simp) W _ _ h0 h1)))
      Rg.steps_nil)))))))))))))))))))))) ?_
  intro v1 V1 hG1 hv1 hne1
  simp only [Rg.puts, List.take_succ_cons, List.take_zero, List.drop_succ_cons, List.drop_zero, Act.put, List.setIfInBounds_toArray, List.set_cons_zero, List.set_cons_succ]
  have e0 : v1 0 = .pointer (some ⟨w.heap.size, 0, none⟩) := hv1 0 (by decide)
  have e2 : v1 2 = .pointer (some ⟨w.heap.size + 1, 0, none⟩) := hv1 2 (by decide)
  have e5 : v1 5 = .pointer (some ⟨w.heap.size, 0, none⟩) := hv1 5 (by decide)
  have e7 : v1 7 = .pointer (some ⟨w.heap.size + 1, 6, none⟩) := hv1 7 (by decide)
  have e10 : v1 10 = .pointer (some ⟨w.heap.size, 6, none⟩) := hv1 10 (by decide)
  have e12 : v1 12 = .pointer (some ⟨w.heap.size + 1, 0, none⟩) := hv1 12 (by decide)
  have e15 : v1 15 = .pointer (some ⟨w.heap.size, 6, none⟩) := hv1 15 (by decide)
  have e17 : v1 17 = .pointer (some ⟨w.heap.size + 1, 6, none⟩) := hv1 17 (by decide)
  simp only [e0, e2, e5, e7, e10, e12, e15, e17]
  have hO := hG1.1
  refine tl_store (xs := []) (ys := [(w.heap.size + 1, 74, [.q a, .q b]), (w.heap.size, 74, [.q x, .q y])]) (pre := []) (old := [.v (.int .i64 0), .v (.bool false), .v (.slice none 0 0), .v (.int .i64 0), .v (.bool false), .v (.slice none 0 0), .v (.int .i64 0), .v (.bool false), .v (.slice none 0 0), .v (.int .i64 0), .v (.bool false), .v (.slice none 0 0)]) (new := [.q (minL (x * a) [x * b, y * a, y * b]), .q (maxL (x * a) [x * b, y * a, y * b])]) (post := []) (b := w.heap.size + 2) (off := 0) store_e rfl (show AggT [.q (minL (x * a) [x * b, y * a, y * b]), .q (maxL (x * a) [x * b, y * a, y * b])] V1 (v1 21) from hv1 21 (by decide)) hO rfl rfl rfl ?_
  intro U1_0 hO0 hk0
  replace hO : Own w [(w.heap.size + 2, 74, [.q (minL (x * a) [x * b, y * a, y * b]), .q (maxL (x * a) [x * b, y * a, y * b])]), (w.heap.size + 1, 74, [.q a, .q b]), (w.heap.size, 74, [.q x, .q y])] U1_0 := hO0
  clear hO0
  clear HO
  have HO := hide hO
  clear hO hG1 hv1 hne1 hk0
  try clear e0 e2 e5 e7 e10 e12 e15 e17
  go_wp2_with fail
  exact end_c Tryd.results73 loadv_e rfl (unhide HO) (List.Mem.head _) rfl rfl
/-- The greatest multiple of 1/g that is at most x, and the least one that is at least y. -/
def downQ (x : Rat) (g : Int) : Rat := Rat.divInt ((x * Rat.divInt g 1).num / ((x * Rat.divInt g 1).den : Int)) g
def upQ (y : Rat) (g : Int) : Rat := Rat.divInt (-((-(y * Rat.divInt g 1)).num / ((-(y * Rat.divInt g 1)).den : Int))) g
structure OutF (x y : Rat) (g : Int) (K : Nat) : Prop where
  g1 : 1 ≤ g
  g2 : g ≤ 1000000
  g0 : g ≠ 0
  sx : Sm (K + 1) x
  sy : Sm (K + 1) y
  sg : Sm (K + 1) (Rat.divInt g 1)
  sxg : Sm (K + 1 + K + 1) (x * Rat.divInt g 1)
  syg : Sm (K + 1 + K + 1) (-(y * Rat.divInt g 1))
  zx : Wd.Sz B64 (K + 1 + (K + 1)) ((x * Rat.divInt g 1).num / ((x * Rat.divInt g 1).den : Int))
  zy : Wd.Sz B64 (K + 1 + (K + 1)) (-((-(y * Rat.divInt g 1)).num / ((-(y * Rat.divInt g 1)).den : Int)))
  zg : Wd.Sz B64 (K + 1 + (K + 1)) g
  hK : K + 1 + (K + 1) ≤ 1000000
theorem sz_ediv {K : Nat} {a : Int} (h : Wd.Sz B64 K a) (b : Int) : Wd.Sz B64 K (a / b) := h.le (Int.natAbs_ediv_le_natAbs a b)
theorem sm_int {g : Int} (g1 : -1000000000000 ≤ g) (g2 : g ≤ 1000000000000) : Sm 1 (Rat.divInt g 1) := ⟨⟨by rw [(Wd.one_parts g).1]; exact Wd.Sz.of_le (by rw [B64_eq]; omega) B64_pos (Nat.le_refl _), by rw [(Wd.one_parts g).2]; exact Wd.Sz.of_le (by rw [B64_eq]; omega) B64_pos (Nat.le_refl _)⟩, by omega⟩
theorem outF {x y : Rat} {g : Int} {K : Nat} (sx : Sm (K + 1) x) (sy : Sm (K + 1) y) (g1 : 1 ≤ g) (g2 : g ≤ 1000000) (hK : K + 1 + (K + 1) ≤ 1000000) (w : World) (hT : Tab w) : OutF x y g K := by
  have sg : Sm (K + 1) (Rat.divInt g 1) := (sm_int (by omega) (by omega)).mono (by omega) (by omega)
  have s1 := sx.mul sg hK w hT
  have s2 := (sy.mul sg hK w hT).neg
  exact ⟨g1, g2, by omega, sx, sy, sg, s1, s2, sz_ediv s1.1.1 _, (sz_ediv s2.1.1 _).neg, (Wd.Sz.of_le (by rw [B64_eq]; omega) B64_pos (by omega)), hK⟩
set_option maxRecDepth 100000 in
set_option maxHeartbeats 16000000 in
theorem c_outward {x y : Rat} {g : Int} {K : Nat} (sx : Sm (K + 1) x) (sy : Sm (K + 1) y) (g1 : 1 ≤ g) (g2 : g ≤ 1000000) (hK : K + 1 + (K + 1) ≤ 1000000) (w : World) (hT : Tab w) (u0 : Value) (h0 : AggT [.q x, .q y] w u0) :
    Calls Tryd.prog 101 #[u0, .int .i64 g] w (RetT (AggT [.q (downQ x g), .q (upQ y g)]) w) := by
  have HR := hide (outF sx sy g1 g2 hK w hT)
  have HT := hide hT
  clear sx sy g1 g2 hK hT
  obtain ⟨s0a, n0a, A0a, c0a, l0a, s0b, n0b, A0b, c0b, l0b, s0c, n0c, A0c, c0c, l0c, s0d, n0d, A0d, c0d, l0d, rfl, f0a, f0b, f0c, f0d⟩ := agg_qq h0
  go_enter Tryd.func101, Tryd.ntmps101
  go_upto_region 1 with fail
  have hO := (Own.push (T := 74) (ls := [.v (.int .i64 0), .v (.bool false), .v (.slice none 0 0), .v (.int .i64 0), .v (.bool false), .v (.slice none 0 0), .v (.int .i64 0), .v (.bool false), .v (.slice none 0 0), .v (.int .i64 0), .v (.bool false), .v (.slice none 0 0)]) (cs := [.int .i64 0, .bool false, .slice none 0 0, .int .i64 0, .bool false, .slice none 0 0, .int .i64 0, .bool false, .slice none 0 0, .int .i64 0, .bool false, .slice none 0 0]) (Own.push (T := 74) (ls := [.q x, .q y]) (cs := [.int .i64 s0a, .bool n0a, .slice A0a (List.length l0a) c0a, .int .i64 s0b, .bool n0b, .slice A0b (List.length l0b) c0b, .int .i64 s0c, .bool n0c, .slice A0c (List.length l0c) c0c, .int .i64 s0d, .bool n0d, .slice A0d (List.length l0d) c0d]) (Own.nil w) (LOk.q f0a f0b (LOk.q f0c f0d rfl)) (w.heap.size) rfl) (((LOk.vs w [.int .i64 0, .bool false, .slice none 0 0, .int .i64 0, .bool false, .slice none 0 0, .int .i64 0, .bool false, .slice none 0 0, .int .i64 0, .bool false, .slice none 0 0] rfl) : LOk w [.v (.int .i64 0), .v (.bool false), .v (.slice none 0 0), .v (.int .i64 0), .v (.bool false), .v (.slice none 0 0), .v (.int .i64 0), .v (.bool false), .v (.slice none 0 0), .v (.int .i64 0), .v (.bool false), .v (.slice none 0 0)] [.int .i64 0, .bool false, .slice none 0 0, .int .i64 0, .bool false, .slice none 0 0, .int .i64 0, .bool false, .slice none 0 0, .int .i64 0, .bool false, .slice none 0 0]).below (by repeat (first | exact Below.refl _ _ | refine below_alloc ?_ _))) (w.heap.size + 1) (by simp only [World.size_alloc]))
  generalize (w.alloc (.cells #[.int .i64 s0a, .bool n0a, .slice A0a (List.length l0a) c0a, .int .i64 s0b, .bool n0b, .slice A0b (List.length l0b) c0b, .int .i64 s0c, .bool n0c, .slice A0c (List.length l0c) c0c, .int .i64 s0d, .bool n0d, .slice A0d (List.length l0d) c0d] 74)).alloc (.cells #[.int .i64 0, .bool false, .slice none 0 0, .int .i64 0, .bool false, .slice none 0 0, .int .i64 0, .bool false, .slice none 0 0, .int .i64 0, .bool false, .slice none 0 0] 74) = W0 at *
  have HO := hide hO
  clear hO
  go_upto_region 1 with fail
  refine Rg.regionS 6 30 (Rg.pick [Rg.EqT (.int .i64 g), AggT [.q (Rat.divInt g 1)], Rg.EqT (.int .i64 g), AggT [.z g], NewB 48 [.v (.int .i64 0), .v (.bool false), .v (.slice none 0 0), .v (.int .i64 0), .v (.bool false), .v (.slice none 0 0)] W0.heap.size, NewB 46 [.v (.int .i64 0), .v (.bool false), .v (.slice none 0 0)] W0.heap.size]) (OwnG w [(w.heap.size + 1, 74, [.v (.int .i64 0), .v (.bool false), .v (.slice none 0 0), .v (.int .i64 0), .v (.bool false), .v (.slice none 0 0), .v (.int .i64 0), .v (.bool false), .v (.slice none 0 0), .v (.int .i64 0), .v (.bool false), .v (.slice none 0 0)]), (w.heap.size, 74, [.q x, .q y])] W0) Bel [4, 5] (by kernel_rfl) rfl (Rg.Stabs.pick ⟨Rg.stab_eq _, stab_agg _, Rg.stab_eq _, stab_agg _, stab_new _ _ _, stab_new _ _ _, trivial⟩) (OwnG.begin (unhide HO))
    (Rg.steps_cons (Rg.plain rfl (s_move rfl (Rg.argF (by kernel_rfl) rfl)))
      (Rg.steps_cons (Rg.plain rfl (s_call1 Tryd.func71 (by kernel_rfl) rfl OwnG.step (Rg.argT 0 (by kernel_rfl)) (fun W v0 hG h0 => by cases h0; exact c_whole g (by have := (unhide HR).g1; omega) (by have := (unhide HR).g2; omega) W)))
      (Rg.steps_cons (Rg.plain rfl (s_move rfl (Rg.argF (by kernel_rfl) rfl)))
      (Rg.steps_cons (Rg.plain rfl (s_call1 Tryd.func22 (by kernel_rfl) rfl OwnG.step (Rg.argT 2 (by kernel_rfl)) (fun W v0 hG h0 => by cases h0; exact c_newi g (by have := (unhide HR).g1; omega) (by have := (unhide HR).g2; omega) W)))
      (Rg.steps_cons (Rg.plain rfl (s_alloc new_q rfl OwnG.step OwnG.size rfl (new_lt (by intro j hj; simp at hj; (repeat' (first | (rcases hj with rfl | hj))) <;> first | (subst hj; exact ⟨_, _, _, rfl⟩) | exact ⟨_, _, _, rfl⟩))))
      (Rg.steps_cons (Rg.plain rfl (s_alloc new_z rfl OwnG.step OwnG.size rfl (new_lt (by intro j hj; simp at hj; (repeat' (first | (rcases hj with rfl | hj))) <;> first | (subst hj; exact ⟨_, _, _, rfl⟩) | exact ⟨_, _, _, rfl⟩))))
      Rg.steps_nil)))))) ?_
  intro v1 V1 hG1 hv1 hne1
  simp only [Rg.puts, List.take_succ_cons, List.take_zero, List.drop_succ_cons, List.drop_zero, Act.put, List.setIfInBounds_toArray, List.set_cons_zero, List.set_cons_succ]
  have e0 : v1 0 = .int .i64 g := hv1 0 (by decide)
  have e2 : v1 2 = .int .i64 g := hv1 2 (by decide)
  obtain ⟨b1_4, e4, hge4, hz4⟩ := (show NewB 48 [.v (.int .i64 0), .v (.bool false), .v (.slice none 0 0), .v (.int .i64 0), .v (.bool false), .v (.slice none 0 0)] W0.heap.size V1 (v1 4) from hv1 4 (by decide))
  obtain ⟨b1_5, e5, hge5, hz5⟩ := (show NewB 46 [.v (.int .i64 0), .v (.bool false), .v (.slice none 0 0)] W0.heap.size V1 (v1 5) from hv1 5 (by decide))
  simp only [e0, e2, e4, e5]
  have hO := hG1.1
  have hnn : b1_5 ≠ b1_4 := fun h => hne1 5 4 rfl rfl (by decide) (by decide) (by decide) rfl rfl (by rw [e4, e5, h])
  replace hO := Own.add2 (unhide HO) hG1.2 hge4 hz4 hge5 hz5 hnn
  clear hnn hge4 hz4 hge5 hz5
  refine tl_store (xs := [(b1_5, 46, [.v (.int .i64 0), .v (.bool false), .v (.slice none 0 0)])]) (ys := [(w.heap.size + 1, 74, [.v (.int .i64 0), .v (.bool false), .v (.slice none 0 0), .v (.int .i64 0), .v (.bool false), .v (.slice none 0 0), .v (.int .i64 0), .v (.bool false), .v (.slice none 0 0), .v (.int .i64 0), .v (.bool false), .v (.slice none 0 0)]), (w.heap.size, 74, [.q x, .q y])]) (pre := []) (old := [.v (.int .i64 0), .v (.bool false), .v (.slice none 0 0), .v (.int .i64 0), .v (.bool false), .v (.slice none 0 0)]) (new := [.q (Rat.divInt g 1)]) (post := []) (b := b1_4) (off := 0) store_q rfl (show AggT [.q (Rat.divInt g 1)] V1 (v1 1) from hv1 1 (by decide)) hO rfl rfl rfl ?_
  intro U1_0 hO0 hk0
  replace hO : Own w [(b1_5, 46, [.v (.int .i64 0), .v (.bool false), .v (.slice none 0 0)]), (b1_4, 48, [.q (Rat.divInt g 1)]), (w.heap.size + 1, 74, [.v (.int .i64 0), .v (.bool false), .v (.slice none 0 0), .v (.int .i64 0), .v (.bool false), .v (.slice none 0 0), .v (.int .i64 0), .v (.bool false), .v (.slice none 0 0), .v (.int .i64 0), .v (.bool false), .v (.slice none 0 0)]), (w.heap.size, 74, [.q x, .q y])] U1_0 := hO0
  clear hO0
  refine tl_store (xs := []) (ys := [(b1_4, 48, [.q (Rat.divInt g 1)]), (w.heap.size + 1, 74, [.v (.int .i64 0), .v (.bool false), .v (.slice none 0 0), .v (.int .i64 0), .v (.bool false), .v (.slice none 0 0), .v (.int .i64 0), .v (.bool false), .v (.slice none 0 0), .v (.int .i64 0), .v (.bool false), .v (.slice none 0 0)]), (w.heap.size, 74, [.q x, .q y])]) (pre := []) (old := [.v (.int .i64 0), .v (.bool false), .v (.slice none 0 0)]) (new := [.z g]) (post := []) (b := b1_5) (off := 0) store_z rfl (hk0 _ _ (show AggT [.z g] V1 (v1 3) from hv1 3 (by decide))) hO rfl rfl rfl ?_
  intro U1_1 hO1 hk1
  replace hO : Own w [(b1_5, 46, [.z g]), (b1_4, 48, [.q (Rat.divInt g 1)]), (w.heap.size + 1, 74, [.v (.int .i64 0), .v (.bool false), .v (.slice none 0 0), .v (.int .i64 0), .v (.bool false), .v (.slice none 0 0), .v (.int .i64 0), .v (.bool false), .v (.slice none 0 0), .v (.int .i64 0), .v (.bool false), .v (.slice none 0 0)]), (w.heap.size, 74, [.q x, .q y])] U1_1 := hO1
  clear hO1
  clear HO
  have HO := hide hO
  clear hO hG1 hv1 hne1 hk0 hk1
  try clear e0 e2 e4 e5
  go_upto_region 2 with fail
  refine Rg.region 8 30 (Rg.pick [Rg.EqT (.pointer (some ⟨w.heap.size, 0, none⟩)), AggT [.q x], AggT [.q (Rat.divInt g 1)], AggT [.q (x * Rat.divInt g 1)], AggT [.z ((x * Rat.divInt g 1).num / ((x * Rat.divInt g 1).den : Int))], AggT [.z g], AggT [.q (downQ x g)], Rg.EqT (.pointer (some ⟨w.heap.size, 0, none⟩))]) (OwnG w [(b1_5, 46, [.z g]), (b1_4, 48, [.q (Rat.divInt g 1)]), (w.heap.size + 1, 74, [.v (.int .i64 0), .v (.bool false), .v (.slice none 0 0), .v (.int .i64 0), .v (.bool false), .v (.slice none 0 0), .v (.int .i64 0), .v (.bool false), .v (.slice none 0 0), .v (.int .i64 0), .v (.bool false), .v (.slice none 0 0)]), (w.heap.size, 74, [.q x, .q y])] U1_1) Bel [] (by kernel_rfl) (by kernel_rfl) rfl (Rg.Stabs.pick ⟨Rg.stab_eq _, stab_agg _, stab_agg _, stab_agg _, stab_agg _, stab_agg _, stab_agg _, Rg.stab_eq _, trivial⟩) (OwnG.start (unhide HO))
    (Rg.steps_cons (Rg.plain rfl (s_addr_e0 (b := w.heap.size) (off := 0) rfl (Rg.argF (by kernel_rfl) rfl) rfl rfl))
      (Rg.steps_cons (Rg.plain rfl (s_load (b := w.heap.size) (off := 0) (TB := 74) (pre := []) (mid := [.q x]) (post := [.q y]) load_q rfl (Rg.argT 0 (by kernel_rfl)) (fun W h => OwnG.box (List.Mem.tail _ (List.Mem.tail _ (List.Mem.tail _ (List.Mem.head _)))) h) rfl rfl rfl))
      (Rg.steps_cons (Rg.plain rfl (s_load (b := b1_4) (off := 0) (TB := 48) (pre := []) (mid := [.q (Rat.divInt g 1)]) (post := []) load_q rfl (Rg.argF (by kernel_rfl) rfl) (fun W h => OwnG.box (List.Mem.tail _ (List.Mem.head _)) h) rfl rfl rfl))
      (Rg.steps_cons (Rg.plain rfl (s_call2 Tryd.func39 (by kernel_rfl) rfl OwnG.step (Rg.argT 1 (by kernel_rfl)) (Rg.argT 2 (by kernel_rfl)) (fun W v0 v1 hG h0 h1 => c_mul ((unhide HT).below hG.bel) (unhide HR).sx (unhide HR).sg h0 h1)))
      (Rg.steps_cons (Rg.plain rfl (s_call1 Tryd.func118 (by kernel_rfl) rfl OwnG.step (Rg.argT 3 (by kernel_rfl)) (fun W v0 hG h0 => c_floor (unhide HR).sxg W _ h0)))
      (Rg.steps_cons (Rg.plain rfl (s_load (b := b1_5) (off := 0) (TB := 46) (pre := []) (mid := [.z g]) (post := []) load_z rfl (Rg.argF (by kernel_rfl) rfl) (fun W h => OwnG.box (List.Mem.head _) h) rfl rfl rfl))
      (Rg.steps_cons (Rg.plain rfl (s_call2 Tryd.func21 (by kernel_rfl) rfl OwnG.step (Rg.argT 4 (by kernel_rfl)) (Rg.argT 5 (by kernel_rfl)) (fun W v0 v1 hG h0 h1 => c_newr ((unhide HT).below hG.bel) (unhide HR).g0 (unhide HR).zx (unhide HR).zg (unhide HR).hK h0 h1)))
      (Rg.steps_cons (Rg.plain rfl (s_addr_e0 (b := w.heap.size) (off := 0) rfl (Rg.argF (by kernel_rfl) rfl) rfl rfl))
      Rg.steps_nil)))))))) ?_
  intro v2 V2 hG2 hv2 hne2
  simp only [Rg.puts, List.take_succ_cons, List.take_zero, List.drop_succ_cons, List.drop_zero, Act.put, List.setIfInBounds_toArray, List.set_cons_zero, List.set_cons_succ]
  have e0 : v2 0 = .pointer (some ⟨w.heap.size, 0, none⟩) := hv2 0 (by decide)
  have e7 : v2 7 = .pointer (some ⟨w.heap.size, 0, none⟩) := hv2 7 (by decide)
  simp only [e0, e7]
  have hO := hG2.1
  refine tl_store (xs := [(b1_5, 46, [.z g]), (b1_4, 48, [.q (Rat.divInt g 1)]), (w.heap.size + 1, 74, [.v (.int .i64 0), .v (.bool false), .v (.slice none 0 0), .v (.int .i64 0), .v (.bool false), .v (.slice none 0 0), .v (.int .i64 0), .v (.bool false), .v (.slice none 0 0), .v (.int .i64 0), .v (.bool false), .v (.slice none 0 0)])]) (ys := []) (pre := []) (old := [.q x]) (new := [.q (downQ x g)]) (post := [.q y]) (b := w.heap.size) (off := 0) store_q rfl (show AggT [.q (downQ x g)] V2 (v2 6) from hv2 6 (by decide)) hO rfl rfl rfl ?_
  intro U2_0 hO0 hk0
  replace hO : Own w [(b1_5, 46, [.z g]), (b1_4, 48, [.q (Rat.divInt g 1)]), (w.heap.size + 1, 74, [.v (.int .i64 0), .v (.bool false), .v (.slice none 0 0), .v (.int .i64 0), .v (.bool false), .v (.slice none 0 0), .v (.int .i64 0), .v (.bool false), .v (.slice none 0 0), .v (.int .i64 0), .v (.bool false), .v (.slice none 0 0)]), (w.heap.size, 74, [.q (downQ x g), .q y])] U2_0 := hO0
  clear hO0
  clear HO
  have HO := hide hO
  clear hO hG2 hv2 hne2 hk0
  try clear e0 e7
  go_upto_region 3 with fail
  refine Rg.region 10 30 (Rg.pick [Rg.EqT (.pointer (some ⟨w.heap.size, 6, none⟩)), AggT [.q y], AggT [.q (Rat.divInt g 1)], AggT [.q (y * Rat.divInt g 1)], AggT [.q (-(y * Rat.divInt g 1))], AggT [.z ((-(y * Rat.divInt g 1)).num / ((-(y * Rat.divInt g 1)).den : Int))], AggT [.z (-((-(y * Rat.divInt g 1)).num / ((-(y * Rat.divInt g 1)).den : Int)))], AggT [.z g], AggT [.q (upQ y g)], Rg.EqT (.pointer (some ⟨w.heap.size, 6, none⟩))]) (OwnG w [(b1_5, 46, [.z g]), (b1_4, 48, [.q (Rat.divInt g 1)]), (w.heap.size + 1, 74, [.v (.int .i64 0), .v (.bool false), .v (.slice none 0 0), .v (.int .i64 0), .v (.bool false), .v (.slice none 0 0), .v (.int .i64 0), .v (.bool false), .v (.slice none 0 0), .v (.int .i64 0), .v (.bool false), .v (.slice none 0 0)]), (w.heap.size, 74, [.q (downQ x g), .q y])] U2_0) Bel [] (by kernel_rfl) (by kernel_rfl) rfl (Rg.Stabs.pick ⟨Rg.stab_eq _, stab_agg _, stab_agg _, stab_agg _, stab_agg _, stab_agg _, stab_agg _, stab_agg _, stab_agg _, Rg.stab_eq _, trivial⟩) (OwnG.start (unhide HO))
    (Rg.steps_cons (Rg.plain rfl (s_addr_e1 (b := w.heap.size) (off := 0) rfl (Rg.argF (by kernel_rfl) rfl) rfl rfl))
      (Rg.steps_cons (Rg.plain rfl (s_load (b := w.heap.size) (off := 6) (TB := 74) (pre := [.q (downQ x g)]) (mid := [.q y]) (post := []) load_q rfl (Rg.argT 0 (by kernel_rfl)) (fun W h => OwnG.box (List.Mem.tail _ (List.Mem.tail _ (List.Mem.tail _ (List.Mem.head _)))) h) rfl rfl rfl))
      (Rg.steps_cons (Rg.plain rfl (s_load (b := b1_4) (off := 0) (TB := 48) (pre := []) (mid := [.q (Rat.divInt g 1)]) (post := []) load_q rfl (Rg.argF (by kernel_rfl) rfl) (fun W h => OwnG.box (List.Mem.tail _ (List.Mem.head _)) h) rfl rfl rfl))
      (Rg.steps_cons (Rg.plain rfl (s_call2 Tryd.func39 (by kernel_rfl) rfl OwnG.step (Rg.argT 1 (by kernel_rfl)) (Rg.argT 2 (by kernel_rfl)) (fun W v0 v1 hG h0 h1 => c_mul ((unhide HT).below hG.bel) (unhide HR).sy (unhide HR).sg h0 h1)))
      (Rg.steps_cons (Rg.plain rfl (s_call1 Tryd.func69 (by kernel_rfl) rfl OwnG.step (Rg.argT 3 (by kernel_rfl)) (fun W v0 hG h0 => c_neg h0)))
      (Rg.steps_cons (Rg.plain rfl (s_call1 Tryd.func118 (by kernel_rfl) rfl OwnG.step (Rg.argT 4 (by kernel_rfl)) (fun W v0 hG h0 => c_floor (unhide HR).syg W _ h0)))
      (Rg.steps_cons (Rg.plain rfl (s_call1 Tryd.func51 (by kernel_rfl) rfl OwnG.step (Rg.argT 5 (by kernel_rfl)) (fun W v0 hG h0 => c_ineg h0)))
      (Rg.steps_cons (Rg.plain rfl (s_load (b := b1_5) (off := 0) (TB := 46) (pre := []) (mid := [.z g]) (post := []) load_z rfl (Rg.argF (by kernel_rfl) rfl) (fun W h => OwnG.box (List.Mem.head _) h) rfl rfl rfl))
      (Rg.steps_cons (Rg.plain rfl (s_call2 Tryd.func21 (by kernel_rfl) rfl OwnG.step (Rg.argT 6 (by kernel_rfl)) (Rg.argT 7 (by kernel_rfl)) (fun W v0 v1 hG h0 h1 => c_newr ((unhide HT).below hG.bel) (unhide HR).g0 (unhide HR).zy (unhide HR).zg (unhide HR).hK h0 h1)))
      (Rg.steps_cons (Rg.plain rfl (s_addr_e1 (b := w.heap.size) (off := 0) rfl (Rg.argF (by kernel_rfl) rfl) rfl rfl))
      Rg.steps_nil)))))))))) ?_
  intro v3 V3 hG3 hv3 hne3
  simp only [Rg.puts, List.take_succ_cons, List.take_zero, List.drop_succ_cons, List.drop_zero, Act.put, List.setIfInBounds_toArray, List.set_cons_zero, List.set_cons_succ]
  have e0 : v3 0 = .pointer (some ⟨w.heap.size, 6, none⟩) := hv3 0 (by decide)
  have e9 : v3 9 = .pointer (some ⟨w.heap.size, 6, none⟩) := hv3 9 (by decide)
  simp only [e0, e9]
  have hO := hG3.1
  refine tl_store (xs := [(b1_5, 46, [.z g]), (b1_4, 48, [.q (Rat.divInt g 1)]), (w.heap.size + 1, 74, [.v (.int .i64 0), .v (.bool false), .v (.slice none 0 0), .v (.int .i64 0), .v (.bool false), .v (.slice none 0 0), .v (.int .i64 0), .v (.bool false), .v (.slice none 0 0), .v (.int .i64 0), .v (.bool false), .v (.slice none 0 0)])]) (ys := []) (pre := [.q (downQ x g)]) (old := [.q y]) (new := [.q (upQ y g)]) (post := []) (b := w.heap.size) (off := 6) store_q rfl (show AggT [.q (upQ y g)] V3 (v3 8) from hv3 8 (by decide)) hO rfl rfl rfl ?_
  intro U3_0 hO0 hk0
  replace hO : Own w [(b1_5, 46, [.z g]), (b1_4, 48, [.q (Rat.divInt g 1)]), (w.heap.size + 1, 74, [.v (.int .i64 0), .v (.bool false), .v (.slice none 0 0), .v (.int .i64 0), .v (.bool false), .v (.slice none 0 0), .v (.int .i64 0), .v (.bool false), .v (.slice none 0 0), .v (.int .i64 0), .v (.bool false), .v (.slice none 0 0)]), (w.heap.size, 74, [.q (downQ x g), .q (upQ y g)])] U3_0 := hO0
  clear hO0
  clear HO
  have HO := hide hO
  clear hO hG3 hv3 hne3 hk0
  try clear e0 e9
  go_upto_region 4 with fail
  refine Rg.regionS 1 30 (Rg.pick [AggT [.q (downQ x g), .q (upQ y g)]]) (OwnG w [(b1_5, 46, [.z g]), (b1_4, 48, [.q (Rat.divInt g 1)]), (w.heap.size + 1, 74, [.v (.int .i64 0), .v (.bool false), .v (.slice none 0 0), .v (.int .i64 0), .v (.bool false), .v (.slice none 0 0), .v (.int .i64 0), .v (.bool false), .v (.slice none 0 0), .v (.int .i64 0), .v (.bool false), .v (.slice none 0 0)]), (w.heap.size, 74, [.q (downQ x g), .q (upQ y g)])] U3_0) Bel [] (by kernel_rfl) rfl (Rg.Stabs.pick ⟨stab_agg _, trivial⟩) (OwnG.begin (unhide HO))
    (Rg.steps_cons (Rg.plain rfl (s_load (b := w.heap.size) (off := 0) (TB := 74) (pre := []) (mid := [.q (downQ x g), .q (upQ y g)]) (post := []) load_e rfl (Rg.argF (by kernel_rfl) rfl) (fun W h => OwnG.box (List.Mem.tail _ (List.Mem.tail _ (List.Mem.tail _ (List.Mem.head _)))) h) rfl rfl rfl))
      Rg.steps_nil) ?_
  intro v4 V4 hG4 hv4 hne4
  simp only [Rg.puts, List.take_succ_cons, List.take_zero, List.drop_succ_cons, List.drop_zero, Act.put, List.setIfInBounds_toArray, List.set_cons_zero, List.set_cons_succ]
  have hO := hG4.1
  refine tl_store (xs := [(b1_5, 46, [.z g]), (b1_4, 48, [.q (Rat.divInt g 1)])]) (ys := [(w.heap.size, 74, [.q (downQ x g), .q (upQ y g)])]) (pre := []) (old := [.v (.int .i64 0), .v (.bool false), .v (.slice none 0 0), .v (.int .i64 0), .v (.bool false), .v (.slice none 0 0), .v (.int .i64 0), .v (.bool false), .v (.slice none 0 0), .v (.int .i64 0), .v (.bool false), .v (.slice none 0 0)]) (new := [.q (downQ x g), .q (upQ y g)]) (post := []) (b := w.heap.size + 1) (off := 0) store_e rfl (show AggT [.q (downQ x g), .q (upQ y g)] V4 (v4 0) from hv4 0 (by decide)) hO rfl rfl rfl ?_
  intro U4_0 hO0 hk0
  replace hO : Own w [(b1_5, 46, [.z g]), (b1_4, 48, [.q (Rat.divInt g 1)]), (w.heap.size + 1, 74, [.q (downQ x g), .q (upQ y g)]), (w.heap.size, 74, [.q (downQ x g), .q (upQ y g)])] U4_0 := hO0
  clear hO0
  clear HO
  have HO := hide hO
  clear hO hG4 hv4 hne4 hk0
  go_wp2_with fail
  exact end_c Tryd.results101 loadv_e rfl (unhide HO) (List.Mem.tail _ (List.Mem.tail _ (List.Mem.head _))) rfl rfl
end Sb

end Go.Proofs.YtfbcdfoohpkfeaaDoor
/- The reference's amounts in words of 32 bits: their memory; trimming; order. -/
namespace Go.Proofs.YtfbcdfoohpkfeaaDoor
open Go.RowKit

structure NatT (w : World) (A : Option Addr) (cap : Nat) (l : List Nat) (n : Nat) : Prop where
  ws : Ws .u32 w w.heap.size A l
  cap1 : l.length ≤ cap
  cap2 : cap ≤ 9223372036854775807
  lt : ∀ x ∈ l, x < B32
  norm : Wd.Norm l
  val : Wd.val B32 l = n

theorem NatT.below {w w' : World} {A : Option Addr} {cap : Nat} {l : List Nat} {n : Nat} (h : NatT w A cap l n) (hb : Below w.heap.size w w') : NatT w' A cap l n :=
  ⟨(h.ws.below hb).more hb.size, h.cap1, h.cap2, h.lt, h.norm, h.val⟩
theorem NatT.len {w : World} {A : Option Addr} {cap : Nat} {l : List Nat} {n k : Nat} (h : NatT w A cap l n) (hn : n < B32 ^ k) : l.length ≤ k :=
  Wd.norm_len B32_pos l h.norm k (by rw [h.val]; exact hn)
theorem NatT.nil_ (w : World) (cap : Nat) (hc : cap ≤ 9223372036854775807) : NatT w none cap [] 0 := ⟨Ws.nil_, by simp, hc, by simp, .inl rfl, rfl⟩
theorem NatT.lt_pow {w : World} {A : Option Addr} {cap : Nat} {l : List Nat} {n : Nat} (h : NatT w A cap l n) : n < B32 ^ l.length := by
  rw [← h.val]; exact Wd.val_lt l h.lt

theorem NatT.of_trim {w : World} {b cap : Nat} {T : TypeId} {zs : List Nat} {k : Nat} (hz : ZB .u32 w b T zs) (hlt : ∀ x ∈ zs, x < B32) (ht : Wd.IsTrim zs (zs.take k)) (hk : k ≤ zs.length) (hc : zs.length ≤ cap) (hc2 : cap ≤ 9223372036854775807) :
    NatT w (some ⟨b, 0, none⟩) cap (zs.take k) (Wd.val B32 zs) :=
  ⟨(hz.ws0 _ hz.lt).take_ k, by simp; omega, hc2, fun x hx => hlt x (List.mem_of_mem_take hx), ht.norm, ht.val _⟩

theorem World.drewN_drewN (w : World) (a b : Nat) : (w.drewN a).drewN b = w.drewN (a + b) := by
  simp [World.drewN, Nat.add_assoc]
end Go.Proofs.YtfbcdfoohpkfeaaDoor
/- The reference: products of amounts. -/
namespace Go.Proofs.YtfbcdfoohpkfeaaDoor
open Go.RowKit

end Go.Proofs.YtfbcdfoohpkfeaaDoor
/- The reference: an amount by some bits to the left. -/
namespace Go.Proofs.YtfbcdfoohpkfeaaDoor
open Go.RowKit

end Go.Proofs.YtfbcdfoohpkfeaaDoor
/- Plain mathematics of one word of a long quotient, guessed from three words and two. -/
namespace Go.Proofs.YtfbcdfoohpkfeaaDoor
namespace Wd

/-- The guess: q * top + r is the head; the word that is sought is at most q. -/
structure WInv (B top head Q q r : Nat) : Prop where
  eq : q * top + r = head
  ge : Q ≤ q
  lt : q < B
theorem WInv.step {B top next head d Q q r : Nat} (hQ : Q * (top * B + next) ≤ head * B + d) (h : WInv B top head Q q r) (hlt : r * B + d < q * next) : 1 ≤ q ∧ WInv B top head Q (q - 1) (r + top) := by
  have h1 : Q < q := by
    rcases Nat.lt_or_ge Q q with h1 | h1
    · exact h1
    · have h2 : q * (top * B + next) ≤ Q * (top * B + next) := Nat.mul_le_mul_right _ h1
      have h3 : q * (top * B + next) = q * top * B + q * next := by rw [Nat.mul_add, Nat.mul_assoc]
      have h4 : head * B = q * top * B + r * B := by rw [← h.eq, Nat.add_mul]
      omega
  have he := h.eq
  obtain ⟨p, rfl⟩ : ∃ p, q = p + 1 := ⟨q - 1, by omega⟩
  refine ⟨by omega, ⟨?_, by omega, by have := h.lt; omega⟩⟩
  rw [Nat.add_sub_cancel]
  rw [Nat.add_mul, Nat.one_mul] at he
  omega
theorem WInv.fits {B top next head d Q q r : Nat} (hn : next < B) (h : WInv B top head Q q r) (hs : B ≤ r ∨ q * next ≤ r * B + d) : q * (top * B + next) ≤ head * B + d := by
  have h3 : q * (top * B + next) = q * top * B + q * next := by rw [Nat.mul_add, Nat.mul_assoc]
  have h4 : head * B = q * top * B + r * B := by rw [← h.eq, Nat.add_mul]
  have h5 : q * next ≤ r * B + d := by
    rcases hs with h1 | h1
    · have h6 : q * next ≤ B * B := Nat.mul_le_mul (Nat.le_of_lt h.lt) (Nat.le_of_lt hn)
      have h7 : B * B ≤ r * B := Nat.mul_le_mul_right _ h1
      omega
    · exact h1
  omega
/-- Such a guess is at most one too great. -/
theorem guess_one {B P X Y U3 Yt Q q : Nat} (hP : 0 < P) (hX : U3 * P ≤ X) (hY : Y < (Yt + 1) * P) (hY0 : 0 < Y) (hQ : Q = X / Y) (hq : q * Yt ≤ U3) (hB : q ≤ Yt) : q ≤ Q + 1 := by
  rcases Nat.eq_zero_or_pos q with h | h
  · omega
  obtain ⟨p, rfl⟩ : ∃ p, q = p + 1 := ⟨q - 1, by omega⟩
  suffices p ≤ Q by omega
  rw [hQ, Nat.le_div_iff_mul_le hY0]
  have h1 : p * Y ≤ p * ((Yt + 1) * P) := Nat.mul_le_mul_left _ (Nat.le_of_lt hY)
  have h2 : p * ((Yt + 1) * P) = (p * Yt + p) * P := by rw [← Nat.mul_assoc, Nat.mul_add, Nat.mul_one]
  have h3 : (p * Yt + p) * P ≤ ((p + 1) * Yt) * P := Nat.mul_le_mul_right _ (by rw [Nat.add_mul]; omega)
  have h4 : (p + 1) * Yt * P ≤ U3 * P := Nat.mul_le_mul_right _ hq
  omega

/-- Before place i of the product's taking away: c is carried, b is borrowed. -/
structure WSub (B : Nat) (ul vl zc : List Nat) (q i c b : Nat) : Prop where
  len : zc.length = ul.length
  same : ∀ j, i ≤ j → zc.getD j 0 = ul.getD j 0
  lt : ∀ x ∈ zc, x < B
  eq : val B (zc.take i) + q * val B (vl.take i) = val B (ul.take i) + B ^ i * (c + b)
  c1 : c < B
  b1 : b ≤ 1
theorem WSub.start {B : Nat} (ul vl : List Nat) (q : Nat) (hB : 0 < B) (h : ∀ x ∈ ul, x < B) : WSub B ul vl ul q 0 0 0 := ⟨rfl, fun _ _ => rfl, h, by simp [val], hB, by omega⟩
theorem WSub.step {B : Nat} {ul vl zc : List Nat} {q i c b d b' t : Nat} (h : WSub B ul vl zc q i c b) (hi : i < ul.length) (ht : t = c + q * vl.getD i 0) (htB : t < B * B) (hd : d < B) (hb : b' ≤ 1)
    (e : d + t % B + b = ul.getD i 0 + B * b') : WSub B ul vl (zc.set i d) q (i + 1) (t / B) b' := by
  have hlen := h.len
  have hB : 0 < B := by omega
  refine ⟨by simp [hlen], fun j hj => ?_, mem_set_lt _ _ _ h.lt hd, ?_, ?_, hb⟩
  · rw [set_getD_ne _ _ _ _ (by omega), h.same j (by omega)]
  · rw [set_take_succ _ _ _ (by omega), val_snoc, val_take_succ', val_take_succ', List.length_take, Nat.min_eq_left (by omega), Nat.pow_succ]
    have he := h.eq
    have hdm := Nat.div_add_mod t B
    generalize B ^ i = P at *
    generalize val B (zc.take i) = Z at *
    generalize val B (vl.take i) = V at *
    generalize val B (ul.take i) = U at *
    generalize vl.getD i 0 = y at *
    generalize ul.getD i 0 = x at *
    generalize t / B = hi at *
    generalize t % B = lo at *
    have k1 : P * d + P * lo + P * b = P * x + P * (B * b') := by rw [← Nat.mul_add, ← Nat.mul_add, e, Nat.mul_add]
    have k2 : P * (B * hi) + P * lo = P * c + P * (q * y) := by rw [← Nat.mul_add, hdm, ht, Nat.mul_add]
    rw [Nat.mul_add] at he
    rw [Nat.mul_add, Nat.mul_add, show q * (P * y) = P * (q * y) by simp only [Nat.mul_left_comm], Nat.mul_assoc, Nat.mul_assoc]
    omega
  · rw [Nat.div_lt_iff_lt_mul hB]; exact htB
theorem WSub.done {B : Nat} {ul vl zc : List Nat} {q b : Nat} (h : WSub B ul vl zc q ul.length 0 b) (hv : vl.length ≤ ul.length) : val B zc + q * val B vl = val B ul + B ^ ul.length * b := by
  have e := h.eq
  have hl := h.len
  rwa [val_take_all _ zc _ (by omega), val_take_all _ vl _ hv, val_take_all _ _ _ (Nat.le_refl _), Nat.zero_add] at e
end Wd
end Go.Proofs.YtfbcdfoohpkfeaaDoor
/- The reference: one word of a long quotient. -/
namespace Go.Proofs.YtfbcdfoohpkfeaaDoor
open Go.RowKit

theorem top3 {B : Nat} (hB : 0 < B) (l : List Nat) (n : Nat) (hn : 2 ≤ n) (hl : l.length = n + 1) (hlt : ∀ x ∈ l, x < B) :
    ((l.getD n 0 * B + l.getD (n - 1) 0) * B + l.getD (n - 2) 0) * B ^ (n - 2) ≤ Wd.val B l ∧ Wd.val B l < ((l.getD n 0 * B + l.getD (n - 1) 0) * B + l.getD (n - 2) 0 + 1) * B ^ (n - 2) := by
  have h1 := Wd.val_take_succ B l n (by omega)
  rw [Wd.val_take_all _ _ _ (by omega)] at h1
  have h2 := Wd.val_take_succ B l (n - 1) (by omega)
  rw [show n - 1 + 1 = n by omega] at h2
  have h2' := Wd.val_take_succ B l (n - 2) (by omega)
  rw [show n - 2 + 1 = n - 1 by omega] at h2'
  have h3 := Wd.val_lt (B := B) (l.take (n - 2)) (fun x hx => hlt x (List.mem_of_mem_take hx))
  rw [List.length_take, Nat.min_eq_left (by omega)] at h3
  have e : B ^ n = B ^ (n - 2) * B * B := by rw [← Nat.pow_succ, ← Nat.pow_succ, show (n - 2).succ.succ = n by omega]
  have e' : B ^ (n - 1) = B ^ (n - 2) * B := by rw [← Nat.pow_succ, show (n - 2).succ = n - 1 by omega]
  rw [h1, h2, h2', e, e']
  generalize B ^ (n - 2) = P at *
  generalize l.getD n 0 = a at *
  generalize l.getD (n - 1) 0 = b at *
  generalize l.getD (n - 2) 0 = c at *
  have k1 : ((a * B + b) * B + c) * P = P * B * B * a + P * B * b + P * c := by
    simp only [Nat.add_mul, Nat.mul_add, Nat.mul_comm, Nat.mul_left_comm, Nat.mul_assoc]
  rw [Nat.add_mul _ 1 P, Nat.one_mul, k1]
  omega
theorem top2' {B : Nat} (l : List Nat) (n : Nat) (hn : 2 ≤ n) (hl : l.length = n) (hlt : ∀ x ∈ l, x < B) :
    (l.getD (n - 1) 0 * B + l.getD (n - 2) 0) * B ^ (n - 2) ≤ Wd.val B l ∧ Wd.val B l < (l.getD (n - 1) 0 * B + l.getD (n - 2) 0 + 1) * B ^ (n - 2) := by
  have h2 := Wd.val_take_succ B l (n - 1) (by omega)
  rw [show n - 1 + 1 = n by omega, Wd.val_take_all _ _ _ (by omega)] at h2
  have h2' := Wd.val_take_succ B l (n - 2) (by omega)
  rw [show n - 2 + 1 = n - 1 by omega] at h2'
  have h3 := Wd.val_lt (B := B) (l.take (n - 2)) (fun x hx => hlt x (List.mem_of_mem_take hx))
  rw [List.length_take, Nat.min_eq_left (by omega)] at h3
  have e' : B ^ (n - 1) = B ^ (n - 2) * B := by rw [← Nat.pow_succ, show (n - 2).succ = n - 1 by omega]
  rw [h2, h2', e']
  generalize B ^ (n - 2) = P at *
  generalize l.getD (n - 1) 0 = b at *
  generalize l.getD (n - 2) 0 = c at *
  have k1 : (b * B + c) * P = P * B * b + P * c := by
    simp only [Nat.add_mul, Nat.mul_add, Nat.mul_comm, Nat.mul_left_comm, Nat.mul_assoc]
  rw [Nat.add_mul _ 1 P, Nat.one_mul, k1]
  omega
/-- The guess and what follows from it, before the walk. -/
structure WordPre (ul vl : List Nat) (n : Nat) : Prop where
  n2 : 2 ≤ n
  lenv : vl.length = n
  lenu : ul.length = n + 1
  ltu : ∀ x ∈ ul, x < B32
  ltv : ∀ x ∈ vl, x < B32
  top : vl.getD (n - 1) 0 ≠ 0
  pre : Wd.val B32 ul < B32 * Wd.val B32 vl
theorem WordPre.start {ul vl : List Nat} {n head top : Nat} (h : WordPre ul vl n) (hh : head = ul.getD n 0 * B32 + ul.getD (n - 1) 0) (ht : top = vl.getD (n - 1) 0) :
    Wd.WInv B32 top head (Wd.val B32 ul / Wd.val B32 vl) (min (head / top) 4294967295) (head - min (head / top) 4294967295 * top) ∧ min (head / top) 4294967295 * top ≤ head := by
  have hB : 0 < B32 := by rw [B32_eq]; omega
  have hV := (top2' vl n h.n2 h.lenv h.ltv).1
  have hU := top2 hB ul n (by have := h.n2; omega) h.lenu h.ltu
  have h1 := top1 (B := B32) vl n (by have := h.n2; omega) h.lenv
  rw [← ht] at h1
  rw [← hh] at hU
  have ht0 : 0 < top := by rw [ht]; exact Nat.pos_of_ne_zero h.top
  have hV0 : 0 < Wd.val B32 vl := by
    have h2 : 0 < B32 ^ (n - 1) := Nat.pow_pos hB
    have := Nat.mul_pos ht0 h2; omega
  have hQ : Wd.val B32 ul / Wd.val B32 vl * top ≤ head := Wd.guess_ge h1 hU (Nat.div_mul_le_self _ _)
  have hQB : Wd.val B32 ul / Wd.val B32 vl < B32 := by rw [Nat.div_lt_iff_lt_mul hV0]; exact h.pre
  have hle : min (head / top) 4294967295 * top ≤ head := Nat.le_trans (Nat.mul_le_mul_right _ (Nat.min_le_left _ _)) (Nat.div_mul_le_self _ _)
  refine ⟨⟨Nat.add_sub_of_le hle, ?_, ?_⟩, hle⟩
  · rw [Nat.le_min]
    exact ⟨(Nat.le_div_iff_mul_le ht0).2 hQ, Nat.le_of_lt_succ (by rw [B32_eq] at hQB; exact hQB)⟩
  · exact Nat.lt_of_le_of_lt (Nat.min_le_right (head / top) 4294967295) (by rw [B32_eq]; omega)
theorem WordPre.low {ul vl : List Nat} {n : Nat} (h : WordPre ul vl n) : Wd.val B32 ul / Wd.val B32 vl * (vl.getD (n - 1) 0 * B32 + vl.getD (n - 2) 0) ≤ (ul.getD n 0 * B32 + ul.getD (n - 1) 0) * B32 + ul.getD (n - 2) 0 := by
  have hB : 0 < B32 := by rw [B32_eq]; omega
  exact Wd.guess_ge (top2' vl n h.n2 h.lenv h.ltv).1 (top3 hB ul n h.n2 h.lenu h.ltu).2 (Nat.div_mul_le_self _ _)
theorem WordPre.one {ul vl : List Nat} {n q : Nat} (h : WordPre ul vl n) (hq : q * (vl.getD (n - 1) 0 * B32 + vl.getD (n - 2) 0) ≤ (ul.getD n 0 * B32 + ul.getD (n - 1) 0) * B32 + ul.getD (n - 2) 0) (hlt : q < B32) : q ≤ Wd.val B32 ul / Wd.val B32 vl + 1 := by
  have hB : 0 < B32 := by rw [B32_eq]; omega
  have ht0 : 1 ≤ vl.getD (n - 1) 0 := Nat.pos_of_ne_zero h.top
  have h1 : 1 * B32 ≤ vl.getD (n - 1) 0 * B32 := Nat.mul_le_mul_right _ ht0
  have hV := (top2' vl n h.n2 h.lenv h.ltv)
  have hP : 0 < B32 ^ (n - 2) := Nat.pow_pos hB
  have hV0 : 0 < Wd.val B32 vl := by
    have := Nat.mul_pos (show 0 < vl.getD (n - 1) 0 * B32 + vl.getD (n - 2) 0 by omega) hP; omega
  exact Wd.guess_one (B := B32) hP (top3 hB ul n h.n2 h.lenu h.ltu).1 hV.2 hV0 rfl hq (by omega)
end Go.Proofs.YtfbcdfoohpkfeaaDoor
/- The reference: the walk through one word of a long quotient. -/
namespace Go.Proofs.YtfbcdfoohpkfeaaDoor
open Go.RowKit

end Go.Proofs.YtfbcdfoohpkfeaaDoor
/- The reference: quotient and rest of two amounts: the short ways. -/
namespace Go.Proofs.YtfbcdfoohpkfeaaDoor
open Go.RowKit

end Go.Proofs.YtfbcdfoohpkfeaaDoor
/- The reference: quotient and rest of two amounts: the long way. -/
namespace Go.Proofs.YtfbcdfoohpkfeaaDoor
open Go.RowKit

end Go.Proofs.YtfbcdfoohpkfeaaDoor
/- The reference: quotient and rest of two amounts: the walk of the long way. -/
namespace Go.Proofs.YtfbcdfoohpkfeaaDoor
open Go.RowKit

end Go.Proofs.YtfbcdfoohpkfeaaDoor
/- The reference: quotient and rest in all ways; the greatest common divisor of two amounts. -/
namespace Go.Proofs.YtfbcdfoohpkfeaaDoor
open Go.RowKit

end Go.Proofs.YtfbcdfoohpkfeaaDoor
/- The reference's whole numbers: their memory, signs, products. -/
namespace Go.Proofs.YtfbcdfoohpkfeaaDoor
open Go.RowKit

/-- A block of which no cell is a word of 32 bits. -/
def NoW2 (cs : Array Value) : Prop := ∀ (i : Nat) (n : Int), cs[i]? ≠ some (Value.int .u32 n)
theorem noW2_2 (A : Option Addr) (n c : Nat) (b : Bool) : NoW2 #[.slice A n c, .bool b] := by
  intro i n h
  match i, h with
  | 0, h => simp at h
  | 1, h => simp at h
  | i + 2, h => simp at h
theorem Ws.upto32 {w w' : World} {B g : Nat} {A : Option Addr} {l : List Nat} {T : TypeId} {cs : Array Value} (h : Ws .u32 w B A l) (hg : w.heap[g]? = some (.cells cs T (0, 0))) (hn : NoW2 cs) (hgr : w.grownBy w' (some g)) (hB : B ≤ w.heap.size) : Ws .u32 w' B A l := fun hl => by
  obtain ⟨b, off, rfl, hb, hc⟩ := h hl
  have hne : b ≠ g := by
    rintro rfl
    have := hc 0 hl
    simp only [World.cell?, hg, Option.isSome_none, Bool.false_eq_true, if_false] at this
    exact hn _ _ this
  exact ⟨b, off, rfl, hb, fun j hj => (World.cell?_of_block (hgr.block b (by omega) (fun e => hne (by injection e)))).trans (hc j hj)⟩
theorem NatT.upto {w w' : World} {g : Nat} {A : Option Addr} {cap : Nat} {l : List Nat} {n : Nat} {T : TypeId} {cs : Array Value} (h : NatT w A cap l n) (hg : w.heap[g]? = some (.cells cs T (0, 0))) (hn : NoW2 cs) (hgr : w.grownBy w' (some g)) : NatT w' A cap l n :=
  ⟨(h.ws.upto32 hg hn hgr (Nat.le_refl _)).more hgr.size, h.cap1, h.cap2, h.lt, h.norm, h.val⟩
structure WholeF (w : World) (A : Option Addr) (cap : Nat) (l : List Nat) (m : Bool) (z : Int) : Prop where
  nat : NatT w A cap l z.natAbs
  sign : m = decide (z < 0)
theorem WholeF.below {w w' : World} {A : Option Addr} {cap : Nat} {l : List Nat} {m : Bool} {z : Int} (h : WholeF w A cap l m z) (hb : Below w.heap.size w w') : WholeF w' A cap l m z := ⟨h.nat.below hb, h.sign⟩
theorem WholeF.upto {w w' : World} {g : Nat} {A : Option Addr} {cap : Nat} {l : List Nat} {m : Bool} {z : Int} {T : TypeId} {cs : Array Value} (h : WholeF w A cap l m z) (hg : w.heap[g]? = some (.cells cs T (0, 0))) (hn : NoW2 cs) (hgr : w.grownBy w' (some g)) : WholeF w' A cap l m z := ⟨h.nat.upto hg hn hgr, h.sign⟩

end Go.Proofs.YtfbcdfoohpkfeaaDoor
/- The reference's whole numbers out of ints, and compared. -/
namespace Go.Proofs.YtfbcdfoohpkfeaaDoor
open Go.RowKit

end Go.Proofs.YtfbcdfoohpkfeaaDoor
/- The reference: products of whole numbers. -/
namespace Go.Proofs.YtfbcdfoohpkfeaaDoor
open Go.RowKit

end Go.Proofs.YtfbcdfoohpkfeaaDoor
/- The reference's quotients: their denominators. -/
namespace Go.Proofs.YtfbcdfoohpkfeaaDoor
open Go.RowKit

end Go.Proofs.YtfbcdfoohpkfeaaDoor
/- The reference: which numbers there are. -/
namespace Go.Proofs.YtfbcdfoohpkfeaaDoor
open Go.RowKit

end Go.Proofs.YtfbcdfoohpkfeaaDoor
/- The reference: the error of two numbers. -/
namespace Go.Proofs.YtfbcdfoohpkfeaaDoor
open Go.RowKit

end Go.Proofs.YtfbcdfoohpkfeaaDoor
/- The reference: quotients in lowest terms: the memory, and the mathematics. -/
namespace Go.Proofs.YtfbcdfoohpkfeaaDoor
open Go.RowKit

/-- A box that holds a whole number of the reference. -/
def BoxW (w : World) (b : Nat) (z : Int) : Prop := ∃ A cap l m, w.heap[b]? = some (.cells #[.slice A (List.length l) cap, .bool m] 55 (0, 0)) ∧ WholeF w A cap l m z
theorem BoxW.below {w w' : World} {b : Nat} {z : Int} (h : BoxW w b z) (hb : Below w.heap.size w w') : BoxW w' b z := by
  obtain ⟨A, cap, l, m, h1, h2⟩ := h
  exact ⟨A, cap, l, m, (hb.block _ (lt_of_block h1)).trans h1, h2.below hb⟩
theorem BoxW.lt {w : World} {b : Nat} {z : Int} (h : BoxW w b z) : b < w.heap.size := by
  obtain ⟨A, cap, l, m, h1, _⟩ := h; exact lt_of_block h1
/-- A number put into a box. -/
theorem BoxW.put {w : World} {b : Nat} {z0 z : Int} {A : Option Addr} {cap : Nat} {l : List Nat} {m : Bool} (h : BoxW w b z0) (hf : WholeF w A cap l m z) :
    BoxW ((w.setCell ⟨b, 0, none⟩ (.slice A l.length cap)).setCell ⟨b, 1, none⟩ (.bool m)) b z := by
  obtain ⟨A0, c0, l0, m0, h1, _⟩ := h
  exact ⟨A, cap, l, m, set2_block h1, hf.upto h1 (noW2_2 _ _ _ _) (set2_grown _ _ _ _)⟩
theorem BoxW.other {w : World} {b b' : Nat} {z z' : Int} (u0 u1 : Value) (h : BoxW w b z) (hb : BoxW w b' z') (hne : b ≠ b') : BoxW ((w.setCell ⟨b', 0, none⟩ u0).setCell ⟨b', 1, none⟩ u1) b z := by
  obtain ⟨A, cap, l, m, h1, h2⟩ := h
  obtain ⟨A0, c0, l0, m0, h3, _⟩ := hb
  have hg := set2_grown w b' u0 u1
  exact ⟨A, cap, l, m, (hg.block b (lt_of_block h1) (fun e => hne (by injection e))).trans h1, h2.upto h3 (noW2_2 _ _ _ _) hg⟩
theorem WholeF.put {w : World} {b : Nat} {z z' : Int} {A : Option Addr} {cap : Nat} {l : List Nat} {m : Bool} (u0 u1 : Value) (hf : WholeF w A cap l m z) (hb : BoxW w b z') : WholeF ((w.setCell ⟨b, 0, none⟩ u0).setCell ⟨b, 1, none⟩ u1) A cap l m z := by
  obtain ⟨A0, c0, l0, m0, h1, _⟩ := hb
  exact hf.upto h1 (noW2_2 _ _ _ _) (set2_grown _ _ _ _)

/-- The two boxes and the result's cells of a quotient in the making. -/
structure RaS (w W : World) (n d : Int) : Prop where
  bn : BoxW W w.heap.size n
  bd : BoxW W (w.heap.size + 1) d
  bq : W.heap[w.heap.size + 1 + 1]? = some (.cells #[.slice none 0 0, .bool false, .slice none 0 0, .bool false] 57 (0, 0))
  hb : Below w.heap.size w W
theorem RaS.below {w W W' : World} {n d : Int} (h : RaS w W n d) (hb : Below W.heap.size W W') : RaS w W' n d :=
  ⟨h.bn.below hb, h.bd.below hb, (hb.block _ (lt_of_block h.bq)).trans h.bq, below_step' h.hb hb⟩
/-- Both boxes filled anew, in the order of the statement. -/
theorem RaS.put {w W : World} {n d n' d' : Int} {A1 : Option Addr} {c1 : Nat} {l1 : List Nat} {m1 : Bool} {A2 : Option Addr} {c2 : Nat} {l2 : List Nat} {m2 : Bool} (h : RaS w W n d) (h1 : WholeF W A1 c1 l1 m1 n') (h2 : WholeF W A2 c2 l2 m2 d') :
    RaS w ((((W.setCell ⟨w.heap.size, 0, none⟩ (.slice A1 l1.length c1)).setCell ⟨w.heap.size, 1, none⟩ (.bool m1)).setCell ⟨w.heap.size + 1, 0, none⟩ (.slice A2 l2.length c2)).setCell ⟨w.heap.size + 1, 1, none⟩ (.bool m2)) n' d' := by
  have a1 := h.bn.put h1
  have a2 := h.bd.other (.slice A1 l1.length c1) (.bool m1) h.bn (by omega)
  have a3 := h2.put (.slice A1 l1.length c1) (.bool m1) h.bn
  have g1 := set2_grown W w.heap.size (.slice A1 l1.length c1) (.bool m1)
  generalize ((W.setCell ⟨w.heap.size, 0, none⟩ (.slice A1 l1.length c1)).setCell ⟨w.heap.size, 1, none⟩ (.bool m1)) = W1 at *
  have b1 := a2.put a3
  have b2 := a1.other (.slice A2 l2.length c2) (.bool m2) a2 (by omega)
  have g2 := set2_grown W1 (w.heap.size + 1) (.slice A2 l2.length c2) (.bool m2)
  have q1 := (g1.block _ (lt_of_block h.bq) (fun e => by injection e with e; omega)).trans h.bq
  exact ⟨b2, b1, (g2.block _ (lt_of_block q1) (fun e => by injection e with e; omega)).trans q1,
    (h.hb.grown g1 h.hb.size (fun k hk => by injection hk with hk; omega)).grown g2 (by have := g1.size; have := h.hb.size; omega) (fun k hk => by injection hk with hk; omega)⟩

theorem RaS.keep {w W : World} {n d : Int} (u0 u1 u2 u3 : Value) {A : Option Addr} {cap : Nat} {l : List Nat} {m : Bool} {z : Int} (h : RaS w W n d) (x : WholeF W A cap l m z) :
    WholeF ((((W.setCell ⟨w.heap.size, 0, none⟩ u0).setCell ⟨w.heap.size, 1, none⟩ u1).setCell ⟨w.heap.size + 1, 0, none⟩ u2).setCell ⟨w.heap.size + 1, 1, none⟩ u3) A cap l m z :=
  (x.put u0 u1 h.bn).put u2 u3 (h.bd.other u0 u1 h.bn (by omega))

end Go.Proofs.YtfbcdfoohpkfeaaDoor
/- The reference: quotients in lowest terms: the walk. -/
namespace Go.Proofs.YtfbcdfoohpkfeaaDoor
open Go.RowKit

end Go.Proofs.YtfbcdfoohpkfeaaDoor
/- The reference: the quotient of two ints. -/
namespace Go.Proofs.YtfbcdfoohpkfeaaDoor
open Go.RowKit

end Go.Proofs.YtfbcdfoohpkfeaaDoor
/- The reference: numbers as they are told. -/
namespace Go.Proofs.YtfbcdfoohpkfeaaDoor
open Go.RowKit

end Go.Proofs.YtfbcdfoohpkfeaaDoor
/- The reference: what is told; the number of two ints. -/
namespace Go.Proofs.YtfbcdfoohpkfeaaDoor
open Go.RowKit

end Go.Proofs.YtfbcdfoohpkfeaaDoor
/- The reference: a number, and its order. -/
namespace Go.Proofs.YtfbcdfoohpkfeaaDoor
open Go.RowKit

end Go.Proofs.YtfbcdfoohpkfeaaDoor
/- The reference: the order of numbers. -/
namespace Go.Proofs.YtfbcdfoohpkfeaaDoor
open Go.RowKit

end Go.Proofs.YtfbcdfoohpkfeaaDoor
/- How numbers compare: what is told. -/
namespace Go.Proofs.YtfbcdfoohpkfeaaDoor
open Go.RowKit

/-- What a comparison tells. -/
def cmpC (n1 d1 n2 d2 : Int) : Int := if Wd.okR n1 d1 ∧ Wd.okR n2 d2 then sgn (n1 * d2 - n2 * d1) else 0
def CmpR (w : World) (n1 d1 n2 d2 : Int) (e : Ending) (w' : World) : Prop := e = .returned (.tuple #[.int .i64 (cmpC n1 d1 n2 d2), .int .i64 (fstE n1 d1 n2 d2)]) ∧ Below w.heap.size w w'

end Go.Proofs.YtfbcdfoohpkfeaaDoor
/- How numbers compare. -/
namespace Go.Proofs.YtfbcdfoohpkfeaaDoor
open Go.RowKit

set_option maxRecDepth 100000 in
set_option maxHeartbeats 8000000 in
theorem cmpR_any (n1 d1 n2 d2 : Int) (w : World) (hT : Tab w) :
    Calls Tryd.prog 8 #[.agg #[.int .i64 n1, .int .i64 d1], .agg #[.int .i64 n2, .int .i64 d2]] w fun e w' => CmpR w n1 d1 n2 d2 e w' := by
  have HA := hide (fun g W (hW : Tab W) => first_any n1 d1 n2 d2 g W hW)
  have HT := hide hT
  clear hT
  by_cases ok : Wd.okR n1 d1 ∧ Wd.okR n2 d2
  · have e1 : fstE n1 d1 n2 d2 = 0 := if_pos ok
    have e2 : cmpC n1 d1 n2 d2 = sgn (n1 * d2 - n2 * d1) := if_pos ok
    unfold CmpR
    rw [e1] at HA ⊢
    rw [e2]
    obtain ⟨a1, a2⟩ := Wd.qR_ok ok.1
    obtain ⟨a3, a4⟩ := Wd.qR_ok ok.2
    obtain ⟨⟨r1, r2, r3, r4, rg1⟩, ⟨r5, r6, r7, r8, rg2⟩⟩ := ok
    have hz1 := okR_sz (n := n1) (d := d1) ⟨r1, r2, r3, r4, rg1⟩
    have hz2 := okR_sz (n := n2) (d := d2) ⟨r5, r6, r7, r8, rg2⟩
    have O1 := hide (fun W => rof_any n1 d1 W (by omega) (by omega) (by omega) (by omega))
    have O2 := hide (fun W => rof_any n2 d2 W (by omega) (by omega) (by omega) (by omega))
    have hq := fun (s1 : Int) (neg1 : Bool) (A1 : Option Addr) (c1 : Nat) (l1 : List Nat) (s2 : Int) (neg2 : Bool) (A2 : Option Addr) (c2 : Nat) (l2 : List Nat) (s3 : Int) (neg3 : Bool) (A3 : Option Addr) (c3 : Nat) (l3 : List Nat) (s4 : Int) (neg4 : Bool) (A4 : Option Addr) (c4 : Nat) (l4 : List Nat) (W : World) => opc_cmp W (Wd.qR n1 d1) (Wd.qR n2 d2) hz1 hz2 (by decide) s1 neg1 A1 c1 l1 s2 neg2 A2 c2 l2 s3 neg3 A3 c3 l3 s4 neg4 A4 c4 l4 W (Below.refl _ _)
    obtain ⟨g, hg⟩ : ∃ g, g = sgn (n1 * d2 - n2 * d1) := ⟨_, rfl⟩
    simp only [a1, a2, a3, a4, ← hg] at hq
    rw [← hg]
    have HQ := hide hq
    clear hq hg a1 a2 a3 a4 r1 r2 r3 r4 r5 r6 r7 r8 e1 e2 hz1 hz2 rg1 rg2
    go_enter Tryd.func8, Tryd.ntmps8
    go_wp2_with fail
    obtain ⟨n0, n1_, n2_, hsz, hw0⟩ := three_new w (.cells #[.int .i64 n1, .int .i64 d1] 23) (.cells #[.int .i64 n2, .int .i64 d2] 23) (.cells #[.int .i64 n1, .int .i64 d1, .int .i64 n2, .int .i64 d2] 23)
    generalize (((w.alloc (.cells #[.int .i64 n1, .int .i64 d1] 23)).alloc (.cells #[.int .i64 n2, .int .i64 d2] 23)).alloc (.cells #[.int .i64 n1, .int .i64 d1, .int .i64 n2, .int .i64 d2] 23)) = Wa at *
    refine ((unhide HA) (w.heap.size + 1 + 1) Wa ((unhide HT).below hw0) (lt_of_block n2_) (cells_of n2_ 0) (cells_of n2_ 1) (cells_of n2_ 2) (cells_of n2_ 3)).mono ?_
    rintro e W0 ⟨rfl, hb0⟩
    replace n0 := (hb0.block _ (lt_of_block n0)).trans n0
    replace n1_ := (hb0.block _ (lt_of_block n1_)).trans n1_
    replace hw0 := below_step' hw0 hb0
    have q0 := lt_of_block n0; have q1 := lt_of_block n1_
    have KEEP : ∀ X, Below W0.heap.size W0 X → (fun w' => w'.cell? ⟨w.heap.size, 0, none⟩ = some (.int .i64 n1) ∧ w'.cell? ⟨w.heap.size, 1, none⟩ = some (.int .i64 d1) ∧ w'.cell? ⟨w.heap.size + 1, 0, none⟩ = some (.int .i64 n2) ∧ w'.cell? ⟨w.heap.size + 1, 1, none⟩ = some (.int .i64 d2)) X := fun X hX => ⟨(hX.cell (p := ⟨w.heap.size, 0, none⟩) q0).trans (cells_of n0 0), (hX.cell (p := ⟨w.heap.size, 1, none⟩) q0).trans (cells_of n0 1), (hX.cell (p := ⟨w.heap.size + 1, 0, none⟩) q1).trans (cells_of n1_ 0), (hX.cell (p := ⟨w.heap.size + 1, 1, none⟩) q1).trans (cells_of n1_ 1)⟩
    have HKE := hide KEEP; have HW0 := hide hw0
    clear KEEP n0 n1_ n2_ hsz hb0 hw0 HA
    go_wp2_with fail
    go_region_held3 (fun w' => w'.cell? ⟨w.heap.size, 0, none⟩ = some (.int .i64 n1) ∧ w'.cell? ⟨w.heap.size, 1, none⟩ = some (.int .i64 d1) ∧ w'.cell? ⟨w.heap.size + 1, 0, none⟩ = some (.int .i64 n2) ∧ w'.cell? ⟨w.heap.size + 1, 1, none⟩ = some (.int .i64 d2)) (exact (unhide HKE) _ (by (first | with_reducible assumption | (repeat (first | with_reducible exact Below.refl _ _ | with_reducible assumption | refine Below.drew ?_ | (refine Below.alloc ?_ (by simp <;> omega) _)))))) (first | (go_at_call_of 27 (Value.agg #[.int .i64 n1, .int .i64 d1]); refine ((unhide O1) _).mono ?_; rintro e w' ⟨s1, neg1, A1, c1, l1, s2, neg2, A2, c2, l2, rfl, f1n, f2n, hb⟩; (try (first | replace f3 := IntF.below f3 hb | replace f3 := (IntF.below f3 (Below.drew (Below.refl _ _))).below hb)); (try (first | replace f4 := IntF.below f4 hb | replace f4 := (IntF.below f4 (Below.drew (Below.refl _ _))).below hb)); have f1 := f1n; have f2 := f2n; clear f1n f2n; have hbw := below_step (w := W0) (by (first | with_reducible assumption | (repeat (first | with_reducible exact Below.refl _ _ | with_reducible assumption | refine Below.drew ?_ | (refine Below.alloc ?_ (by simp <;> omega) _))))) hb; obtain ⟨hc, hf⟩ := bcell hbw) | (go_at_call_of 27 (Value.agg #[.int .i64 n2, .int .i64 d2]); refine ((unhide O2) _).mono ?_; rintro e w' ⟨s3, neg3, A3, c3, l3, s4, neg4, A4, c4, l4, rfl, f3n, f4n, hb⟩; (try (first | replace f1 := IntF.below f1 hb | replace f1 := (IntF.below f1 (Below.drew (Below.refl _ _))).below hb)); (try (first | replace f2 := IntF.below f2 hb | replace f2 := (IntF.below f2 (Below.drew (Below.refl _ _))).below hb)); have f3 := f3n; have f4 := f4n; clear f3n f4n; have hbw := below_step (w := W0) (by (first | with_reducible assumption | (repeat (first | with_reducible exact Below.refl _ _ | with_reducible assumption | refine Below.drew ?_ | (refine Below.alloc ?_ (by simp <;> omega) _))))) hb; obtain ⟨hc, hf⟩ := bcell hbw) | (go_at_call 28; refine ((unhide HQ) s1 neg1 A1 c1 l1 s2 neg2 A2 c2 l2 s3 neg3 A3 c3 l3 s4 neg4 A4 c4 l4 _ (by first | exact f1 | exact IntF.below f1 (Below.drew (Below.refl _ _))) (by first | exact f2 | exact IntF.below f2 (Below.drew (Below.refl _ _))) (by first | exact f3 | exact IntF.below f3 (Below.drew (Below.refl _ _))) (by first | exact f4 | exact IntF.below f4 (Below.drew (Below.refl _ _)))).mono ?_; rintro e w' ⟨rfl, hb⟩; have hbw := below_step (w := W0) (by (first | with_reducible assumption | (repeat (first | with_reducible exact Below.refl _ _ | with_reducible assumption | refine Below.drew ?_ | (refine Below.alloc ?_ (by simp <;> omega) _))))) hb))
    all_goals
      have hb9 := below_step' (unhide HW0) hbw
      have HB9 := hide hb9
      clear hb9 hbw
      go_wp2_with fail
      go_ret2
      exact ⟨rfl, unhide HB9⟩
  · have e1 : fstE n1 d1 n2 d2 = 1 := if_neg ok
    have e2 : cmpC n1 d1 n2 d2 = 0 := if_neg ok
    unfold CmpR
    rw [e1] at HA ⊢
    rw [e2]
    clear e1 e2 ok
    go_enter Tryd.func8, Tryd.ntmps8
    go_wp2_with fail
    obtain ⟨n0, n1_, n2_, hsz, hw0⟩ := three_new w (.cells #[.int .i64 n1, .int .i64 d1] 23) (.cells #[.int .i64 n2, .int .i64 d2] 23) (.cells #[.int .i64 n1, .int .i64 d1, .int .i64 n2, .int .i64 d2] 23)
    generalize (((w.alloc (.cells #[.int .i64 n1, .int .i64 d1] 23)).alloc (.cells #[.int .i64 n2, .int .i64 d2] 23)).alloc (.cells #[.int .i64 n1, .int .i64 d1, .int .i64 n2, .int .i64 d2] 23)) = Wa at *
    refine ((unhide HA) (w.heap.size + 1 + 1) Wa ((unhide HT).below hw0) (lt_of_block n2_) (cells_of n2_ 0) (cells_of n2_ 1) (cells_of n2_ 2) (cells_of n2_ 3)).mono ?_
    rintro e W0 ⟨rfl, hb0⟩
    replace hw0 := below_step' hw0 hb0
    clear n0 n1_ n2_ hsz hb0
    go_wp2_with fail
    go_ret2
    exact ⟨rfl, hw0⟩
end Go.Proofs.YtfbcdfoohpkfeaaDoor
