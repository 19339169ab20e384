/- Part 10 of the texts beneath a law of layer 1: SpB. -/
import Derived.Test.YtfbcdfoohpkfeaaDoorCs9
import Derived.BigRegion
/- The least and the greatest number of a row (outmost). -/
namespace Go.Proofs.YtfbcdfoohpkfeaaDoor
open Go.RowKit

namespace Sb
set_option maxRecDepth 100000 in
theorem s_idxQ {Q : Exit → Act → World → Prop} {l : List Oper} {n : Nat} {T : Nat → World → Value → Prop} {G : World → Prop} {al : List Nat} {a0 : Act} {k d : Nat} {ty : TypeId} {pos : String} {af : Array Edge} {gd : Option (Nat × Bool)} {b i m : Nat} {x y : Operand} (hal : al.contains k = false) (hx : Rg.ArgOk l n T a0 k x (Rg.EqT (.slice (some ⟨b, 0, none⟩) m m))) (hy : Rg.ArgOk l n T a0 k y (Rg.EqT (.int .i64 (i : Int)))) (hi : i < m) (hT : T k = Rg.EqT (.pointer (some ⟨b, 6 * i, none⟩))) :
    Rg.Step Tryd.prog Q l n T G Bel al a0 k { dst := some d, op := .indexAddr 110 x y, type := ty, pos := pos, after := af, guard := gd } := by
  intro a w hG hO hN
  have h1 := hx a w hO hN
  have h2 := hy a w hO hN
  have hr : (execOp a.eval { dst := some d, op := .indexAddr 110 x y, type := ty, pos := pos, after := af, guard := gd }).run Tryd.prog w = .ok (.value (.pointer (some ⟨b, 6 * i, none⟩))) w := by
    have h1' : a.eval x = .slice (some ⟨b, 0, none⟩) m m := h1
    have h2' : a.eval y = .int .i64 (i : Int) := h2
    simp only [execOp, h1', h2']
    simp [go_sem, hi, Nat.mul_comm]
  exact wp_value (P := Tryd.prog) hr ⟨_, rfl, hG, Below.refl _ _, by rw [hT]; rfl, fun h => by rw [hal] at h; cases h⟩
set_option maxRecDepth 100000 in
theorem s_idxS {Q : Exit → Act → World → Prop} {l : List Oper} {n : Nat} {T : Nat → World → Value → Prop} {G : World → Prop} {al : List Nat} {a0 : Act} {k d : Nat} {ty : TypeId} {pos : String} {af : Array Edge} {gd : Option (Nat × Bool)} {b i m : Nat} {x y : Operand} (hal : al.contains k = false) (hx : Rg.ArgOk l n T a0 k x (Rg.EqT (.slice (some ⟨b, 0, none⟩) m m))) (hy : Rg.ArgOk l n T a0 k y (Rg.EqT (.int .i64 (i : Int)))) (hi : i < m) (hT : T k = Rg.EqT (.pointer (some ⟨b, 4 * i, none⟩))) :
    Rg.Step Tryd.prog Q l n T G Bel al a0 k { dst := some d, op := .indexAddr 109 x y, type := ty, pos := pos, after := af, guard := gd } := by
  intro a w hG hO hN
  have h1 := hx a w hO hN
  have h2 := hy a w hO hN
  have hr : (execOp a.eval { dst := some d, op := .indexAddr 109 x y, type := ty, pos := pos, after := af, guard := gd }).run Tryd.prog w = .ok (.value (.pointer (some ⟨b, 4 * i, none⟩))) w := by
    have h1' : a.eval x = .slice (some ⟨b, 0, none⟩) m m := h1
    have h2' : a.eval y = .int .i64 (i : Int) := h2
    simp only [execOp, h1', h2']
    simp [go_sem, hi, Nat.mul_comm]
  exact wp_value (P := Tryd.prog) hr ⟨_, rfl, hG, Below.refl _ _, by rw [hT]; rfl, fun h => by rw [hal] at h; cases h⟩

theorem wrapE {n m : Nat} (h1 : n < m) (h2 : m ≤ 1000000) : wrap64 ((n : Int) + 1) = ((n + 1 : Nat) : Int) := (IntWalk.wrap64_in _ (by omega)).trans (by omega)
theorem wrapV {n m : Nat} (h1 : n < m) (h2 : m ≤ 1000000) : Value.int .i64 (wrap64 ((n : Int) + 1)) = Value.int .i64 ((n + 1 : Nat) : Int) := by rw [wrapE h1 h2]
theorem measS {n m : Nat} (h1 : n < m) : m - (intOf (Value.int .i64 ((n + 1 : Nat) : Int))).toNat < m - (intOf (Value.int .i64 (n : Int))).toNat := by
  simp only [intOf]; omega
/-- The least and the greatest of a row, as the code finds them. -/
def minL (x : Rat) (l : List Rat) : Rat := l.foldl (fun a y => if sgn (y.num * a.den - a.num * y.den) < 0 then y else a) x
def maxL (x : Rat) (l : List Rat) : Rat := l.foldl (fun a y => if 0 < sgn (y.num * a.den - a.num * y.den) then y else a) x
theorem minL_snoc (x : Rat) (l : List Rat) (y : Rat) : minL x (l ++ [y]) = if sgn (y.num * (minL x l).den - (minL x l).num * y.den) < 0 then y else minL x l := by
  unfold minL; rw [List.foldl_append]; rfl
theorem maxL_snoc (x : Rat) (l : List Rat) (y : Rat) : maxL x (l ++ [y]) = if 0 < sgn (y.num * (maxL x l).den - (maxL x l).num * y.den) then y else maxL x l := by
  unfold maxL; rw [List.foldl_append]; rfl
theorem minL_sm {K : Nat} : ∀ {l : List Rat} {x : Rat}, Sm K x → (∀ y ∈ l, Sm K y) → Sm K (minL x l)
  | [], _, h, _ => h
  | y :: l, x, h, hl => by
    refine minL_sm (l := l) ?_ (fun z hz => hl z (List.mem_cons_of_mem _ hz))
    show Sm K (if sgn (y.num * x.den - x.num * y.den) < 0 then y else x)
    split
    · exact hl y List.mem_cons_self
    · exact h
theorem maxL_sm {K : Nat} : ∀ {l : List Rat} {x : Rat}, Sm K x → (∀ y ∈ l, Sm K y) → Sm K (maxL x l)
  | [], _, h, _ => h
  | y :: l, x, h, hl => by
    refine maxL_sm (l := l) ?_ (fun z hz => hl z (List.mem_cons_of_mem _ hz))
    show Sm K (if 0 < sgn (y.num * x.den - x.num * y.den) then y else x)
    split
    · exact hl y List.mem_cons_self
    · exact h
theorem lsize_q : ∀ (l : List Rat), lsize (l.map .q) = 6 * l.length
  | [] => rfl
  | x :: l => by rw [List.map_cons, lsize, lsize_q l, List.length_cons]; simp [Leaf.size]; omega
theorem Own.drop {w W : World} {e : Ent} {bs : List Ent} (h : Own w (e :: bs) W) : Own w bs W :=
  ⟨h.bel, (List.nodup_cons.1 h.nd).2, fun b T ls hm => h.box b T ls (List.mem_cons_of_mem _ hm)⟩
set_option maxRecDepth 100000 in
set_option maxHeartbeats 16000000 in
theorem c_outmost {x : Rat} {qs : List Rat} {K : Nat} (sx : Sm K x) (sq : ∀ y ∈ qs, Sm K y) (hm : qs.length ≤ 1000000) (w : World) (u0 u1 : Value) (h0 : AggT [.q x] w u0) (h1 : SlT 48 qs.length (qs.map .q) w u1) :
    Calls Tryd.prog 74 #[u0, u1] w (RetT (TupT [AggT [.q (minL x qs)], AggT [.q (maxL x qs)]]) w) := by
  obtain ⟨b0, rfl, hbx⟩ := h1
  have HSX := hide sx
  have HSQ := hide sq
  have HLEN := hide hm
  have HBX := hide hbx
  clear sx sq hbx hm
  obtain ⟨s0a, n0a, A0a, c0a, l0a, s0b, n0b, A0b, c0b, l0b, rfl, f0a, f0b⟩ := agg_q h0
  go_enter Tryd.func74, Tryd.ntmps74
  go_upto_region 1 with fail
  have hO := (Own.push (T := 48) (ls := [.v (.int .i64 0), .v (.bool false), .v (.slice none 0 0), .v (.int .i64 0), .v (.bool false), .v (.slice none 0 0)]) (cs := [.int .i64 0, .bool false, .slice none 0 0, .int .i64 0, .bool false, .slice none 0 0]) (Own.push (T := 48) (ls := [.v (.int .i64 0), .v (.bool false), .v (.slice none 0 0), .v (.int .i64 0), .v (.bool false), .v (.slice none 0 0)]) (cs := [.int .i64 0, .bool false, .slice none 0 0, .int .i64 0, .bool false, .slice none 0 0]) (Own.push (T := 48) (ls := [.q x]) (cs := [.int .i64 s0a, .bool n0a, .slice A0a (List.length l0a) c0a, .int .i64 s0b, .bool n0b, .slice A0b (List.length l0b) c0b]) (Own.nil w) (LOk.q f0a f0b rfl) (w.heap.size) rfl) (((LOk.vs w [.int .i64 0, .bool false, .slice none 0 0, .int .i64 0, .bool false, .slice none 0 0] rfl) : LOk w [.v (.int .i64 0), .v (.bool false), .v (.slice none 0 0), .v (.int .i64 0), .v (.bool false), .v (.slice none 0 0)] [.int .i64 0, .bool false, .slice none 0 0, .int .i64 0, .bool false, .slice none 0 0]).below (by repeat (first | exact Below.refl _ _ | refine below_alloc ?_ _))) (w.heap.size + 1) (by simp only [World.size_alloc])) (((LOk.vs w [.int .i64 0, .bool false, .slice none 0 0, .int .i64 0, .bool false, .slice none 0 0] rfl) : LOk w [.v (.int .i64 0), .v (.bool false), .v (.slice none 0 0), .v (.int .i64 0), .v (.bool false), .v (.slice none 0 0)] [.int .i64 0, .bool false, .slice none 0 0, .int .i64 0, .bool false, .slice none 0 0]).below (by repeat (first | exact Below.refl _ _ | refine below_alloc ?_ _))) (w.heap.size + 2) (by simp only [World.size_alloc]))
  generalize ((w.alloc (.cells #[.int .i64 s0a, .bool n0a, .slice A0a (List.length l0a) c0a, .int .i64 s0b, .bool n0b, .slice A0b (List.length l0b) c0b] 48)).alloc (.cells #[.int .i64 0, .bool false, .slice none 0 0, .int .i64 0, .bool false, .slice none 0 0] 48)).alloc (.cells #[.int .i64 0, .bool false, .slice none 0 0, .int .i64 0, .bool false, .slice none 0 0] 48) = W0 at *
  have HO := hide hO
  clear hO
  go_upto_region 1 with fail
  refine Rg.region 4 31 (Rg.pick [AggT [.q x], AggT [.q x], StT (w.heap.size + 1, 48, [.q x]), StT (w.heap.size + 2, 48, [.q x])]) (GS w [(w.heap.size + 2, 48, [.v (.int .i64 0), .v (.bool false), .v (.slice none 0 0), .v (.int .i64 0), .v (.bool false), .v (.slice none 0 0)]), (w.heap.size + 1, 48, [.v (.int .i64 0), .v (.bool false), .v (.slice none 0 0), .v (.int .i64 0), .v (.bool false), .v (.slice none 0 0)]), (w.heap.size, 48, [.q x])] (w.heap.size + 1, 48, [.q x]) (w.heap.size + 2, 48, [.q x])) (ES (w.heap.size + 1, 48, [.q x]) (w.heap.size + 2, 48, [.q x])) [] (by kernel_rfl) (by kernel_rfl) rfl (Rg.Stabs.pick ⟨(stabS_agg _), (stabS_agg _), (stabS_st (.inl (by show (w.heap.size + 1 : Nat) ≠ w.heap.size + 2; omega)) (.inl rfl)), (stabS_st (.inl (by show (w.heap.size + 1 : Nat) ≠ w.heap.size + 2; omega)) (.inr rfl)), trivial⟩) (GS.start (unhide HO))
    (Rg.steps_cons (Rg.plain rfl (step_mono (s_load (b := w.heap.size) (off := 0) (TB := 48) (pre := []) (mid := [.q x]) (post := []) load_q rfl (Rg.argF (by kernel_rfl) rfl) (fun W h => GS.get (List.Mem.tail _ (List.Mem.tail _ (List.Mem.head _))) (fun h => absurd (show (w.heap.size + 1 : Nat) = w.heap.size from h) (by first | omega | (intro h; exact _root_.trivial h))) (fun h => absurd (show (w.heap.size + 2 : Nat) = w.heap.size from h) (by first | omega | (intro h; exact _root_.trivial h))) h) rfl rfl rfl)))
      (Rg.steps_cons (Rg.plain rfl (step_mono (s_load (b := w.heap.size) (off := 0) (TB := 48) (pre := []) (mid := [.q x]) (post := []) load_q rfl (Rg.argF (by kernel_rfl) rfl) (fun W h => GS.get (List.Mem.tail _ (List.Mem.tail _ (List.Mem.head _))) (fun h => absurd (show (w.heap.size + 1 : Nat) = w.heap.size from h) (by first | omega | (intro h; exact _root_.trivial h))) (fun h => absurd (show (w.heap.size + 2 : Nat) = w.heap.size from h) (by first | omega | (intro h; exact _root_.trivial h))) h) rfl rfl rfl)))
      (Rg.steps_cons (Rg.plain rfl (s_storeS (b := w.heap.size + 1) (old := [.v (.int .i64 0), .v (.bool false), .v (.slice none 0 0), .v (.int .i64 0), .v (.bool false), .v (.slice none 0 0)]) (new := [.q x]) store_q rfl (Rg.argF (by kernel_rfl) rfl) (Rg.argT 0 (by kernel_rfl)) (List.Mem.tail _ (List.Mem.head _)) (unhide HO).nd (.inl rfl) (.inl (by show (w.heap.size + 1 : Nat) ≠ w.heap.size + 2; omega)) rfl rfl rfl))
      (Rg.steps_cons (Rg.plain rfl (s_storeS (b := w.heap.size + 2) (old := [.v (.int .i64 0), .v (.bool false), .v (.slice none 0 0), .v (.int .i64 0), .v (.bool false), .v (.slice none 0 0)]) (new := [.q x]) store_q rfl (Rg.argF (by kernel_rfl) rfl) (Rg.argT 1 (by kernel_rfl)) (List.Mem.head _) (unhide HO).nd (.inr rfl) (.inl (by show (w.heap.size + 1 : Nat) ≠ w.heap.size + 2; omega)) rfl rfl rfl))
      Rg.steps_nil)))) ?_
  intro v1 V1 hG1 hv1 hne1
  simp only [Rg.puts, List.take_succ_cons, List.take_zero, List.drop_succ_cons, List.drop_zero, Act.put, List.setIfInBounds_toArray, List.set_cons_zero, List.set_cons_succ]
  have hO : Own w [(w.heap.size + 2, 48, [.q x]), (w.heap.size + 1, 48, [.q x]), (w.heap.size, 48, [.q x])] V1 := by
    refine ⟨hG1.bel, (unhide HO).nd, fun b T ls hm => ?_⟩
    rcases List.mem_cons.1 hm with e | hm
    · cases e; exact ⟨(hG1.box _ _ _ (List.Mem.head _)).1, hv1 3 (by decide)⟩
    rcases List.mem_cons.1 hm with e | hm
    · cases e; exact ⟨(hG1.box _ _ _ (List.Mem.tail _ (List.Mem.head _))).1, hv1 2 (by decide)⟩
    rcases List.mem_cons.1 hm with e | hm
    · cases e; exact ⟨(hG1.box _ _ _ (List.Mem.tail _ (List.Mem.tail _ (List.Mem.head _)))).1, GS.get (List.Mem.tail _ (List.Mem.tail _ (List.Mem.head _))) (fun h => absurd (show (w.heap.size + 1 : Nat) = w.heap.size from h) (by first | omega | (intro h; exact _root_.trivial h))) (fun h => absurd (show (w.heap.size + 2 : Nat) = w.heap.size from h) (by first | omega | (intro h; exact _root_.trivial h))) hG1⟩
    cases hm
  clear HO
  have HO := hide hO
  clear hO hG1 hv1 hne1
  go_wp2_with fail
  go_loopw [12] (fun iv wr => ∃ q1 q2 : List Rat, qs = q1 ++ q2 ∧ iv = .int .i64 ((q1.length : Nat) : Int) ∧ Hid (Own w [(w.heap.size + 2, 48, [.q (maxL x q1)]), (w.heap.size + 1, 48, [.q (minL x q1)]), (w.heap.size, 48, [.q x])] wr)) (fun iv _ => qs.length - (intOf iv).toNat)
  case atStart => exact ⟨[], qs, rfl, rfl, HO⟩
  case round =>
    obtain ⟨q1, q2, hqs, rfl, HO⟩ := hrel
    rcases q2 with _ | ⟨y, q2⟩
    · have d1 : decide ((q1.length : Int) < (qs.length : Int)) = false := decide_eq_false (by rw [hqs]; simp)
      rw [List.append_nil] at hqs
      obtain rfl : q1 = qs := hqs.symm
      go_upto_region 3 with fail
      refine Rg.regionS 1 31 (Rg.pick [Rg.EqT (.bool false)]) (OwnG w [(w.heap.size + 2, 48, [.q (maxL x q1)]), (w.heap.size + 1, 48, [.q (minL x q1)]), (w.heap.size, 48, [.q x])] wr) Bel [] (by kernel_rfl) rfl (Rg.Stabs.pick ⟨Rg.stab_eq _, trivial⟩) (OwnG.begin (unhide HO))
        (Rg.steps_cons (Rg.plain rfl (s_lss rfl (Rg.argF (by kernel_rfl) rfl) (Rg.argF (by kernel_rfl) rfl) rfl d1))
          Rg.steps_nil) ?_
      intro v2 V2 hG2 hv2 hne2
      simp only [Rg.puts, List.take_succ_cons, List.take_zero, List.drop_succ_cons, List.drop_zero, Act.put, List.setIfInBounds_toArray, List.set_cons_zero, List.set_cons_succ]
      have e0 : v2 0 = .bool false := hv2 0 (by decide)
      simp only [e0]
      have hO := hG2.1
      clear HO
      have HO := hide hO
      clear hO hG2 hv2 hne2
      try clear e0
      go_upto_region 10 with fail
      refine Rg.region 4 31 (Rg.pick [AggT [.q (minL x q1)], AggT [.q (maxL x q1)], StT (w.heap.size + 1, 48, [.q (minL x q1)]), StT (w.heap.size + 2, 48, [.q (maxL x q1)])]) (GS w [(w.heap.size + 2, 48, [.q (maxL x q1)]), (w.heap.size + 1, 48, [.q (minL x q1)]), (w.heap.size, 48, [.q x])] (w.heap.size + 1, 48, [.q (minL x q1)]) (w.heap.size + 2, 48, [.q (maxL x q1)])) (ES (w.heap.size + 1, 48, [.q (minL x q1)]) (w.heap.size + 2, 48, [.q (maxL x q1)])) [] (by kernel_rfl) (by kernel_rfl) rfl (Rg.Stabs.pick ⟨(stabS_agg _), (stabS_agg _), (stabS_st (.inl (by show (w.heap.size + 1 : Nat) ≠ w.heap.size + 2; omega)) (.inl rfl)), (stabS_st (.inl (by show (w.heap.size + 1 : Nat) ≠ w.heap.size + 2; omega)) (.inr rfl)), trivial⟩) (GS.start (unhide HO))
        (Rg.steps_cons (Rg.plain rfl (step_mono (s_load (b := w.heap.size + 1) (off := 0) (TB := 48) (pre := []) (mid := [.q (minL x q1)]) (post := []) load_q rfl (Rg.argF (by kernel_rfl) rfl) (fun W h => GS.get (List.Mem.tail _ (List.Mem.head _)) (fun _ => rfl) (fun h => absurd (show (w.heap.size + 2 : Nat) = w.heap.size + 1 from h) (by first | omega | (intro h; exact _root_.trivial h))) h) rfl rfl rfl)))
          (Rg.steps_cons (Rg.plain rfl (step_mono (s_load (b := w.heap.size + 2) (off := 0) (TB := 48) (pre := []) (mid := [.q (maxL x q1)]) (post := []) load_q rfl (Rg.argF (by kernel_rfl) rfl) (fun W h => GS.get (List.Mem.head _) (fun h => absurd (show (w.heap.size + 1 : Nat) = w.heap.size + 2 from h) (by first | omega | (intro h; exact _root_.trivial h))) (fun _ => rfl) h) rfl rfl rfl)))
          (Rg.steps_cons (Rg.plain rfl (s_storeS (b := w.heap.size + 1) (old := [.q (minL x q1)]) (new := [.q (minL x q1)]) store_q rfl (Rg.argF (by kernel_rfl) rfl) (Rg.argT 0 (by kernel_rfl)) (List.Mem.tail _ (List.Mem.head _)) (unhide HO).nd (.inl rfl) (.inl (by show (w.heap.size + 1 : Nat) ≠ w.heap.size + 2; omega)) rfl rfl rfl))
          (Rg.steps_cons (Rg.plain rfl (s_storeS (b := w.heap.size + 2) (old := [.q (maxL x q1)]) (new := [.q (maxL x q1)]) store_q rfl (Rg.argF (by kernel_rfl) rfl) (Rg.argT 1 (by kernel_rfl)) (List.Mem.head _) (unhide HO).nd (.inr rfl) (.inl (by show (w.heap.size + 1 : Nat) ≠ w.heap.size + 2; omega)) rfl rfl rfl))
          Rg.steps_nil)))) ?_
      intro v3 V3 hG3 hv3 hne3
      simp only [Rg.puts, List.take_succ_cons, List.take_zero, List.drop_succ_cons, List.drop_zero, Act.put, List.setIfInBounds_toArray, List.set_cons_zero, List.set_cons_succ]
      have hO : Own w [(w.heap.size + 2, 48, [.q (maxL x q1)]), (w.heap.size + 1, 48, [.q (minL x q1)]), (w.heap.size, 48, [.q x])] V3 := by
        refine ⟨hG3.bel, (unhide HO).nd, fun b T ls hm => ?_⟩
        rcases List.mem_cons.1 hm with e | hm
        · cases e; exact ⟨(hG3.box _ _ _ (List.Mem.head _)).1, hv3 3 (by decide)⟩
        rcases List.mem_cons.1 hm with e | hm
        · cases e; exact ⟨(hG3.box _ _ _ (List.Mem.tail _ (List.Mem.head _))).1, hv3 2 (by decide)⟩
        rcases List.mem_cons.1 hm with e | hm
        · cases e; exact ⟨(hG3.box _ _ _ (List.Mem.tail _ (List.Mem.tail _ (List.Mem.head _)))).1, GS.get (List.Mem.tail _ (List.Mem.tail _ (List.Mem.head _))) (fun h => absurd (show (w.heap.size + 1 : Nat) = w.heap.size from h) (by first | omega | (intro h; exact _root_.trivial h))) (fun h => absurd (show (w.heap.size + 2 : Nat) = w.heap.size from h) (by first | omega | (intro h; exact _root_.trivial h))) hG3⟩
        cases hm
      clear HO
      have HO := hide hO
      clear hO hG3 hv3 hne3
      go_wp2_with fail
      exact end_cc Tryd.results74 loadv_q loadv_q rfl rfl (unhide HO) (List.Mem.tail _ (List.Mem.head _)) (List.Mem.head _) rfl rfl rfl
    · have d1 : decide ((q1.length : Int) < (qs.length : Int)) = true := decide_eq_true (by rw [hqs]; simp; omega)
      have HLT := hide (show q1.length < qs.length by rw [hqs]; simp)
      have HQS := hide hqs
      have HY := hide ((unhide HSQ) y (by rw [hqs]; simp))
      have HSQ1 := hide (fun z (hz : z ∈ q1) => (unhide HSQ) z (by rw [hqs]; exact List.mem_append_left _ hz))
      have hB := (unhide HBX)
      rw [hqs, List.map_append, List.map_cons] at hB
      have HB := hide hB
      clear hB hqs
      go_upto_region 3 with fail
      refine Rg.regionS 1 31 (Rg.pick [Rg.EqT (.bool true)]) (OwnG w [(w.heap.size + 2, 48, [.q (maxL x q1)]), (w.heap.size + 1, 48, [.q (minL x q1)]), (w.heap.size, 48, [.q x])] wr) Bel [] (by kernel_rfl) rfl (Rg.Stabs.pick ⟨Rg.stab_eq _, trivial⟩) (OwnG.begin (unhide HO))
        (Rg.steps_cons (Rg.plain rfl (s_lss rfl (Rg.argF (by kernel_rfl) rfl) (Rg.argF (by kernel_rfl) rfl) rfl d1))
          Rg.steps_nil) ?_
      intro v2 V2 hG2 hv2 hne2
      simp only [Rg.puts, List.take_succ_cons, List.take_zero, List.drop_succ_cons, List.drop_zero, Act.put, List.setIfInBounds_toArray, List.set_cons_zero, List.set_cons_succ]
      have e0 : v2 0 = .bool true := hv2 0 (by decide)
      simp only [e0]
      have hO := hG2.1
      clear HO
      have HO := hide hO
      clear hO hG2 hv2 hne2
      try clear e0
      clear d1
      go_upto_region 4 with fail
      refine Rg.regionS 3 31 (Rg.pick [Rg.EqT (.pointer (some ⟨b0, 6 * q1.length, none⟩)), AggT [.q y], NewB 48 [.v (.int .i64 0), .v (.bool false), .v (.slice none 0 0), .v (.int .i64 0), .v (.bool false), .v (.slice none 0 0)] V2.heap.size]) (OwnG w [(w.heap.size + 2, 48, [.q (maxL x q1)]), (w.heap.size + 1, 48, [.q (minL x q1)]), (w.heap.size, 48, [.q x])] V2) Bel [2] (by kernel_rfl) rfl (Rg.Stabs.pick ⟨Rg.stab_eq _, stab_agg _, stab_new _ _ _, trivial⟩) (OwnG.begin (unhide HO))
        (Rg.steps_cons (Rg.plain rfl (s_idxQ (i := q1.length) (m := qs.length) rfl (Rg.argF (by kernel_rfl) rfl) (Rg.argF (by kernel_rfl) rfl) (unhide HLT) rfl))
          (Rg.steps_cons (Rg.plain rfl (s_load (b := b0) (off := 6 * q1.length) (TB := 48) (pre := q1.map .q) (mid := [.q y]) (post := q2.map .q) load_q rfl (Rg.argT 0 (by kernel_rfl)) (fun W h => (unhide HB).below h.1.bel) (lsize_q q1) rfl rfl))
          (Rg.steps_cons (Rg.plain rfl (s_alloc new_q rfl OwnG.step OwnG.size rfl (new_lt (by intro j hj; simp at hj; (repeat' (first | (rcases hj with rfl | hj))) <;> first | (subst hj; exact ⟨_, _, _, rfl⟩) | exact ⟨_, _, _, rfl⟩))))
          Rg.steps_nil))) ?_
      intro v3 V3 hG3 hv3 hne3
      simp only [Rg.puts, List.take_succ_cons, List.take_zero, List.drop_succ_cons, List.drop_zero, Act.put, List.setIfInBounds_toArray, List.set_cons_zero, List.set_cons_succ]
      have e0 : v3 0 = .pointer (some ⟨b0, 6 * q1.length, none⟩) := hv3 0 (by decide)
      obtain ⟨b3_2, e2, hge2, hz2⟩ := (show NewB 48 [.v (.int .i64 0), .v (.bool false), .v (.slice none 0 0), .v (.int .i64 0), .v (.bool false), .v (.slice none 0 0)] V2.heap.size V3 (v3 2) from hv3 2 (by decide))
      simp only [e0, e2]
      have hO := hG3.1
      replace hO := Own.add (unhide HO) hG3.2 hge2 hz2
      clear hge2 hz2
      refine tl_store (xs := []) (ys := [(w.heap.size + 2, 48, [.q (maxL x q1)]), (w.heap.size + 1, 48, [.q (minL x q1)]), (w.heap.size, 48, [.q x])]) (pre := []) (old := [.v (.int .i64 0), .v (.bool false), .v (.slice none 0 0), .v (.int .i64 0), .v (.bool false), .v (.slice none 0 0)]) (new := [.q y]) (post := []) (b := b3_2) (off := 0) store_q rfl (show AggT [.q y] V3 (v3 1) from hv3 1 (by decide)) hO rfl rfl rfl ?_
      intro U3_0 hO0 hk0
      replace hO : Own w [(b3_2, 48, [.q y]), (w.heap.size + 2, 48, [.q (maxL x q1)]), (w.heap.size + 1, 48, [.q (minL x q1)]), (w.heap.size, 48, [.q x])] U3_0 := hO0
      clear hO0
      clear HO
      have HO := hide hO
      clear hO hG3 hv3 hne3 hk0
      try clear e0 e2
      by_cases g1 : sgn (y.num * (minL x q1).den - (minL x q1).num * y.den) < 0
      · have d2 : decide (sgn (y.num * (minL x q1).den - (minL x q1).num * y.den) < 0) = true := decide_eq_true g1
        have hm : minL x (q1 ++ [y]) = y := by rw [minL_snoc, if_pos g1]
        have HM := hide hm
        clear g1 hm
        go_upto_region 5 with fail
        refine Rg.regionS 5 31 (Rg.pick [AggT [.q y], IfT 48 [.q y], AggT [.q (minL x q1)], Rg.EqT (.int .i64 (sgn (y.num * (minL x q1).den - (minL x q1).num * y.den))), Rg.EqT (.bool true)]) (OwnG w [(b3_2, 48, [.q y]), (w.heap.size + 2, 48, [.q (maxL x q1)]), (w.heap.size + 1, 48, [.q (minL x q1)]), (w.heap.size, 48, [.q x])] U3_0) Bel [] (by kernel_rfl) rfl (Rg.Stabs.pick ⟨stab_agg _, stab_if _ _, stab_agg _, Rg.stab_eq _, Rg.stab_eq _, trivial⟩) (OwnG.begin (unhide HO))
          (Rg.steps_cons (Rg.plain rfl (s_load (b := b3_2) (off := 0) (TB := 48) (pre := []) (mid := [.q y]) (post := []) load_q rfl (Rg.argF (by kernel_rfl) rfl) (fun W h => OwnG.box (List.Mem.head _) h) rfl rfl rfl))
            (Rg.steps_cons (Rg.plain rfl (s_iface rfl (Rg.argT 0 (by kernel_rfl)) rfl))
            (Rg.steps_cons (Rg.plain rfl (s_load (b := w.heap.size + 1) (off := 0) (TB := 48) (pre := []) (mid := [.q (minL x q1)]) (post := []) load_q rfl (Rg.argF (by kernel_rfl) rfl) (fun W h => OwnG.box (List.Mem.tail _ (List.Mem.tail _ (List.Mem.head _))) h) rfl rfl rfl))
            (Rg.steps_cons (Rg.plain rfl (s_invoke rfl OwnG.step (Rg.argT 1 (by kernel_rfl)) (Rg.argT 2 (by kernel_rfl)) (fun W v0 v1 hG h0 h1 => c_cmp (unhide HY) (minL_sm (unhide HSX) (unhide HSQ1)) h0 h1)))
            (Rg.steps_cons (Rg.plain rfl (s_lss rfl (Rg.argT 3 (by kernel_rfl)) (Rg.argC _) rfl d2))
            Rg.steps_nil))))) ?_
        intro v4 V4 hG4 hv4 hne4
        simp only [Rg.puts, List.take_succ_cons, List.take_zero, List.drop_succ_cons, List.drop_zero, Act.put, List.setIfInBounds_toArray, List.set_cons_zero, List.set_cons_succ]
        have e3 : v4 3 = .int .i64 (sgn (y.num * (minL x q1).den - (minL x q1).num * y.den)) := hv4 3 (by decide)
        have e4 : v4 4 = .bool true := hv4 4 (by decide)
        simp only [e3, e4]
        have hO := hG4.1
        clear HO
        have HO := hide hO
        clear hO hG4 hv4 hne4
        try clear e3 e4
        clear d2
        go_upto_region 6 with fail
        refine Rg.regionS 1 31 (Rg.pick [AggT [.q y]]) (OwnG w [(b3_2, 48, [.q y]), (w.heap.size + 2, 48, [.q (maxL x q1)]), (w.heap.size + 1, 48, [.q (minL x q1)]), (w.heap.size, 48, [.q x])] V4) Bel [] (by kernel_rfl) rfl (Rg.Stabs.pick ⟨stab_agg _, trivial⟩) (OwnG.begin (unhide HO))
          (Rg.steps_cons (Rg.plain rfl (s_load (b := b3_2) (off := 0) (TB := 48) (pre := []) (mid := [.q y]) (post := []) load_q rfl (Rg.argF (by kernel_rfl) rfl) (fun W h => OwnG.box (List.Mem.head _) h) rfl rfl rfl))
            Rg.steps_nil) ?_
        intro v5 V5 hG5 hv5 hne5
        simp only [Rg.puts, List.take_succ_cons, List.take_zero, List.drop_succ_cons, List.drop_zero, Act.put, List.setIfInBounds_toArray, List.set_cons_zero, List.set_cons_succ]
        have hO := hG5.1
        refine tl_store (xs := [(b3_2, 48, [.q y]), (w.heap.size + 2, 48, [.q (maxL x q1)])]) (ys := [(w.heap.size, 48, [.q x])]) (pre := []) (old := [.q (minL x q1)]) (new := [.q y]) (post := []) (b := w.heap.size + 1) (off := 0) store_q rfl (show AggT [.q y] V5 (v5 0) from hv5 0 (by decide)) hO rfl rfl rfl ?_
        intro U5_0 hO0 hk0
        replace hO : Own w [(b3_2, 48, [.q y]), (w.heap.size + 2, 48, [.q (maxL x q1)]), (w.heap.size + 1, 48, [.q y]), (w.heap.size, 48, [.q x])] U5_0 := hO0
        clear hO0
        clear HO
        have HO := hide hO
        clear hO hG5 hv5 hne5 hk0
        by_cases g3 : 0 < sgn (y.num * (maxL x q1).den - (maxL x q1).num * y.den)
        · have d3 : decide (0 < sgn (y.num * (maxL x q1).den - (maxL x q1).num * y.den)) = true := decide_eq_true g3
          have hx : maxL x (q1 ++ [y]) = y := by rw [maxL_snoc, if_pos g3]
          have HX := hide hx
          clear g3 hx
          go_upto_region 7 with fail
          refine Rg.regionS 5 31 (Rg.pick [AggT [.q y], IfT 48 [.q y], AggT [.q (maxL x q1)], Rg.EqT (.int .i64 (sgn (y.num * (maxL x q1).den - (maxL x q1).num * y.den))), Rg.EqT (.bool true)]) (OwnG w [(b3_2, 48, [.q y]), (w.heap.size + 2, 48, [.q (maxL x q1)]), (w.heap.size + 1, 48, [.q y]), (w.heap.size, 48, [.q x])] U5_0) Bel [] (by kernel_rfl) rfl (Rg.Stabs.pick ⟨stab_agg _, stab_if _ _, stab_agg _, Rg.stab_eq _, Rg.stab_eq _, trivial⟩) (OwnG.begin (unhide HO))
            (Rg.steps_cons (Rg.plain rfl (s_load (b := b3_2) (off := 0) (TB := 48) (pre := []) (mid := [.q y]) (post := []) load_q rfl (Rg.argF (by kernel_rfl) rfl) (fun W h => OwnG.box (List.Mem.head _) h) rfl rfl rfl))
              (Rg.steps_cons (Rg.plain rfl (s_iface rfl (Rg.argT 0 (by kernel_rfl)) rfl))
              (Rg.steps_cons (Rg.plain rfl (s_load (b := w.heap.size + 2) (off := 0) (TB := 48) (pre := []) (mid := [.q (maxL x q1)]) (post := []) load_q rfl (Rg.argF (by kernel_rfl) rfl) (fun W h => OwnG.box (List.Mem.tail _ (List.Mem.head _)) h) rfl rfl rfl))
              (Rg.steps_cons (Rg.plain rfl (s_invoke rfl OwnG.step (Rg.argT 1 (by kernel_rfl)) (Rg.argT 2 (by kernel_rfl)) (fun W v0 v1 hG h0 h1 => c_cmp (unhide HY) (maxL_sm (unhide HSX) (unhide HSQ1)) h0 h1)))
              (Rg.steps_cons (Rg.plain rfl (s_gtr rfl (Rg.argT 3 (by kernel_rfl)) (Rg.argC _) rfl d3))
              Rg.steps_nil))))) ?_
          intro v6 V6 hG6 hv6 hne6
          simp only [Rg.puts, List.take_succ_cons, List.take_zero, List.drop_succ_cons, List.drop_zero, Act.put, List.setIfInBounds_toArray, List.set_cons_zero, List.set_cons_succ]
          have e3 : v6 3 = .int .i64 (sgn (y.num * (maxL x q1).den - (maxL x q1).num * y.den)) := hv6 3 (by decide)
          have e4 : v6 4 = .bool true := hv6 4 (by decide)
          simp only [e3, e4]
          have hO := hG6.1
          clear HO
          have HO := hide hO
          clear hO hG6 hv6 hne6
          try clear e3 e4
          clear d3
          go_upto_region 8 with fail
          refine Rg.regionS 1 31 (Rg.pick [AggT [.q y]]) (OwnG w [(b3_2, 48, [.q y]), (w.heap.size + 2, 48, [.q (maxL x q1)]), (w.heap.size + 1, 48, [.q y]), (w.heap.size, 48, [.q x])] V6) Bel [] (by kernel_rfl) rfl (Rg.Stabs.pick ⟨stab_agg _, trivial⟩) (OwnG.begin (unhide HO))
            (Rg.steps_cons (Rg.plain rfl (s_load (b := b3_2) (off := 0) (TB := 48) (pre := []) (mid := [.q y]) (post := []) load_q rfl (Rg.argF (by kernel_rfl) rfl) (fun W h => OwnG.box (List.Mem.head _) h) rfl rfl rfl))
              Rg.steps_nil) ?_
          intro v7 V7 hG7 hv7 hne7
          simp only [Rg.puts, List.take_succ_cons, List.take_zero, List.drop_succ_cons, List.drop_zero, Act.put, List.setIfInBounds_toArray, List.set_cons_zero, List.set_cons_succ]
          have hO := hG7.1
          refine tl_store (xs := [(b3_2, 48, [.q y])]) (ys := [(w.heap.size + 1, 48, [.q y]), (w.heap.size, 48, [.q x])]) (pre := []) (old := [.q (maxL x q1)]) (new := [.q y]) (post := []) (b := w.heap.size + 2) (off := 0) store_q rfl (show AggT [.q y] V7 (v7 0) from hv7 0 (by decide)) hO rfl rfl rfl ?_
          intro U7_0 hO0 hk0
          replace hO : Own w [(b3_2, 48, [.q y]), (w.heap.size + 2, 48, [.q y]), (w.heap.size + 1, 48, [.q y]), (w.heap.size, 48, [.q x])] U7_0 := hO0
          clear hO0
          clear HO
          have HO := hide hO
          clear hO hG7 hv7 hne7 hk0
          go_wp2_with fail
          go_roundw
          case rel =>
            refine ⟨q1 ++ [y], q2, by rw [unhide HQS]; simp, by have h1 := unhide HLT; have h2 := unhide HLEN; rw [List.length_append, List.length_singleton]; exact wrapV h1 h2, hide ?_⟩
            rw [unhide HM, unhide HX]
            exact (unhide HO).drop
          case measure =>
            have h1 := unhide HLT; have h2 := unhide HLEN
            clear HO HQS HB
            rw [wrapE h1 h2]
            exact measS h1
        · have d3 : decide (0 < sgn (y.num * (maxL x q1).den - (maxL x q1).num * y.den)) = false := decide_eq_false g3
          have hx : maxL x (q1 ++ [y]) = maxL x q1 := by rw [maxL_snoc, if_neg g3]
          have HX := hide hx
          clear g3 hx
          go_upto_region 7 with fail
          refine Rg.regionS 5 31 (Rg.pick [AggT [.q y], IfT 48 [.q y], AggT [.q (maxL x q1)], Rg.EqT (.int .i64 (sgn (y.num * (maxL x q1).den - (maxL x q1).num * y.den))), Rg.EqT (.bool false)]) (OwnG w [(b3_2, 48, [.q y]), (w.heap.size + 2, 48, [.q (maxL x q1)]), (w.heap.size + 1, 48, [.q y]), (w.heap.size, 48, [.q x])] U5_0) Bel [] (by kernel_rfl) rfl (Rg.Stabs.pick ⟨stab_agg _, stab_if _ _, stab_agg _, Rg.stab_eq _, Rg.stab_eq _, trivial⟩) (OwnG.begin (unhide HO))
            (Rg.steps_cons (Rg.plain rfl (s_load (b := b3_2) (off := 0) (TB := 48) (pre := []) (mid := [.q y]) (post := []) load_q rfl (Rg.argF (by kernel_rfl) rfl) (fun W h => OwnG.box (List.Mem.head _) h) rfl rfl rfl))
              (Rg.steps_cons (Rg.plain rfl (s_iface rfl (Rg.argT 0 (by kernel_rfl)) rfl))
              (Rg.steps_cons (Rg.plain rfl (s_load (b := w.heap.size + 2) (off := 0) (TB := 48) (pre := []) (mid := [.q (maxL x q1)]) (post := []) load_q rfl (Rg.argF (by kernel_rfl) rfl) (fun W h => OwnG.box (List.Mem.tail _ (List.Mem.head _)) h) rfl rfl rfl))
              (Rg.steps_cons (Rg.plain rfl (s_invoke rfl OwnG.step (Rg.argT 1 (by kernel_rfl)) (Rg.argT 2 (by kernel_rfl)) (fun W v0 v1 hG h0 h1 => c_cmp (unhide HY) (maxL_sm (unhide HSX) (unhide HSQ1)) h0 h1)))
              (Rg.steps_cons (Rg.plain rfl (s_gtr rfl (Rg.argT 3 (by kernel_rfl)) (Rg.argC _) rfl d3))
              Rg.steps_nil))))) ?_
          intro v6 V6 hG6 hv6 hne6
          simp only [Rg.puts, List.take_succ_cons, List.take_zero, List.drop_succ_cons, List.drop_zero, Act.put, List.setIfInBounds_toArray, List.set_cons_zero, List.set_cons_succ]
          have e3 : v6 3 = .int .i64 (sgn (y.num * (maxL x q1).den - (maxL x q1).num * y.den)) := hv6 3 (by decide)
          have e4 : v6 4 = .bool false := hv6 4 (by decide)
          simp only [e3, e4]
          have hO := hG6.1
          clear HO
          have HO := hide hO
          clear hO hG6 hv6 hne6
          try clear e3 e4
          clear d3
          go_wp2_with fail
          go_roundw
          case rel =>
            refine ⟨q1 ++ [y], q2, by rw [unhide HQS]; simp, by have h1 := unhide HLT; have h2 := unhide HLEN; rw [List.length_append, List.length_singleton]; exact wrapV h1 h2, hide ?_⟩
            rw [unhide HM, unhide HX]
            exact (unhide HO).drop
          case measure =>
            have h1 := unhide HLT; have h2 := unhide HLEN
            clear HO HQS HB
            rw [wrapE h1 h2]
            exact measS h1
      · have d2 : decide (sgn (y.num * (minL x q1).den - (minL x q1).num * y.den) < 0) = false := decide_eq_false g1
        have hm : minL x (q1 ++ [y]) = minL x q1 := by rw [minL_snoc, if_neg g1]
        have HM := hide hm
        clear g1 hm
        go_upto_region 5 with fail
        refine Rg.regionS 5 31 (Rg.pick [AggT [.q y], IfT 48 [.q y], AggT [.q (minL x q1)], Rg.EqT (.int .i64 (sgn (y.num * (minL x q1).den - (minL x q1).num * y.den))), Rg.EqT (.bool false)]) (OwnG w [(b3_2, 48, [.q y]), (w.heap.size + 2, 48, [.q (maxL x q1)]), (w.heap.size + 1, 48, [.q (minL x q1)]), (w.heap.size, 48, [.q x])] U3_0) Bel [] (by kernel_rfl) rfl (Rg.Stabs.pick ⟨stab_agg _, stab_if _ _, stab_agg _, Rg.stab_eq _, Rg.stab_eq _, trivial⟩) (OwnG.begin (unhide HO))
          (Rg.steps_cons (Rg.plain rfl (s_load (b := b3_2) (off := 0) (TB := 48) (pre := []) (mid := [.q y]) (post := []) load_q rfl (Rg.argF (by kernel_rfl) rfl) (fun W h => OwnG.box (List.Mem.head _) h) rfl rfl rfl))
            (Rg.steps_cons (Rg.plain rfl (s_iface rfl (Rg.argT 0 (by kernel_rfl)) rfl))
            (Rg.steps_cons (Rg.plain rfl (s_load (b := w.heap.size + 1) (off := 0) (TB := 48) (pre := []) (mid := [.q (minL x q1)]) (post := []) load_q rfl (Rg.argF (by kernel_rfl) rfl) (fun W h => OwnG.box (List.Mem.tail _ (List.Mem.tail _ (List.Mem.head _))) h) rfl rfl rfl))
            (Rg.steps_cons (Rg.plain rfl (s_invoke rfl OwnG.step (Rg.argT 1 (by kernel_rfl)) (Rg.argT 2 (by kernel_rfl)) (fun W v0 v1 hG h0 h1 => c_cmp (unhide HY) (minL_sm (unhide HSX) (unhide HSQ1)) h0 h1)))
            (Rg.steps_cons (Rg.plain rfl (s_lss rfl (Rg.argT 3 (by kernel_rfl)) (Rg.argC _) rfl d2))
            Rg.steps_nil))))) ?_
        intro v4 V4 hG4 hv4 hne4
        simp only [Rg.puts, List.take_succ_cons, List.take_zero, List.drop_succ_cons, List.drop_zero, Act.put, List.setIfInBounds_toArray, List.set_cons_zero, List.set_cons_succ]
        have e3 : v4 3 = .int .i64 (sgn (y.num * (minL x q1).den - (minL x q1).num * y.den)) := hv4 3 (by decide)
        have e4 : v4 4 = .bool false := hv4 4 (by decide)
        simp only [e3, e4]
        have hO := hG4.1
        clear HO
        have HO := hide hO
        clear hO hG4 hv4 hne4
        try clear e3 e4
        clear d2
        by_cases g3 : 0 < sgn (y.num * (maxL x q1).den - (maxL x q1).num * y.den)
        · have d3 : decide (0 < sgn (y.num * (maxL x q1).den - (maxL x q1).num * y.den)) = true := decide_eq_true g3
          have hx : maxL x (q1 ++ [y]) = y := by rw [maxL_snoc, if_pos g3]
          have HX := hide hx
          clear g3 hx
          go_upto_region 7 with fail
          refine Rg.regionS 5 31 (Rg.pick [AggT [.q y], IfT 48 [.q y], AggT [.q (maxL x q1)], Rg.EqT (.int .i64 (sgn (y.num * (maxL x q1).den - (maxL x q1).num * y.den))), Rg.EqT (.bool true)]) (OwnG w [(b3_2, 48, [.q y]), (w.heap.size + 2, 48, [.q (maxL x q1)]), (w.heap.size + 1, 48, [.q (minL x q1)]), (w.heap.size, 48, [.q x])] V4) Bel [] (by kernel_rfl) rfl (Rg.Stabs.pick ⟨stab_agg _, stab_if _ _, stab_agg _, Rg.stab_eq _, Rg.stab_eq _, trivial⟩) (OwnG.begin (unhide HO))
            (Rg.steps_cons (Rg.plain rfl (s_load (b := b3_2) (off := 0) (TB := 48) (pre := []) (mid := [.q y]) (post := []) load_q rfl (Rg.argF (by kernel_rfl) rfl) (fun W h => OwnG.box (List.Mem.head _) h) rfl rfl rfl))
              (Rg.steps_cons (Rg.plain rfl (s_iface rfl (Rg.argT 0 (by kernel_rfl)) rfl))
              (Rg.steps_cons (Rg.plain rfl (s_load (b := w.heap.size + 2) (off := 0) (TB := 48) (pre := []) (mid := [.q (maxL x q1)]) (post := []) load_q rfl (Rg.argF (by kernel_rfl) rfl) (fun W h => OwnG.box (List.Mem.tail _ (List.Mem.head _)) h) rfl rfl rfl))
              (Rg.steps_cons (Rg.plain rfl (s_invoke rfl OwnG.step (Rg.argT 1 (by kernel_rfl)) (Rg.argT 2 (by kernel_rfl)) (fun W v0 v1 hG h0 h1 => c_cmp (unhide HY) (maxL_sm (unhide HSX) (unhide HSQ1)) h0 h1)))
              (Rg.steps_cons (Rg.plain rfl (s_gtr rfl (Rg.argT 3 (by kernel_rfl)) (Rg.argC _) rfl d3))
              Rg.steps_nil))))) ?_
          intro v5 V5 hG5 hv5 hne5
          simp only [Rg.puts, List.take_succ_cons, List.take_zero, List.drop_succ_cons, List.drop_zero, Act.put, List.setIfInBounds_toArray, List.set_cons_zero, List.set_cons_succ]
          have e3 : v5 3 = .int .i64 (sgn (y.num * (maxL x q1).den - (maxL x q1).num * y.den)) := hv5 3 (by decide)
          have e4 : v5 4 = .bool true := hv5 4 (by decide)
          simp only [e3, e4]
          have hO := hG5.1
          clear HO
          have HO := hide hO
          clear hO hG5 hv5 hne5
          try clear e3 e4
          clear d3
          go_upto_region 8 with fail
          refine Rg.regionS 1 31 (Rg.pick [AggT [.q y]]) (OwnG w [(b3_2, 48, [.q y]), (w.heap.size + 2, 48, [.q (maxL x q1)]), (w.heap.size + 1, 48, [.q (minL x q1)]), (w.heap.size, 48, [.q x])] V5) Bel [] (by kernel_rfl) rfl (Rg.Stabs.pick ⟨stab_agg _, trivial⟩) (OwnG.begin (unhide HO))
            (Rg.steps_cons (Rg.plain rfl (s_load (b := b3_2) (off := 0) (TB := 48) (pre := []) (mid := [.q y]) (post := []) load_q rfl (Rg.argF (by kernel_rfl) rfl) (fun W h => OwnG.box (List.Mem.head _) h) rfl rfl rfl))
              Rg.steps_nil) ?_
          intro v6 V6 hG6 hv6 hne6
          simp only [Rg.puts, List.take_succ_cons, List.take_zero, List.drop_succ_cons, List.drop_zero, Act.put, List.setIfInBounds_toArray, List.set_cons_zero, List.set_cons_succ]
          have hO := hG6.1
          refine tl_store (xs := [(b3_2, 48, [.q y])]) (ys := [(w.heap.size + 1, 48, [.q (minL x q1)]), (w.heap.size, 48, [.q x])]) (pre := []) (old := [.q (maxL x q1)]) (new := [.q y]) (post := []) (b := w.heap.size + 2) (off := 0) store_q rfl (show AggT [.q y] V6 (v6 0) from hv6 0 (by decide)) hO rfl rfl rfl ?_
          intro U6_0 hO0 hk0
          replace hO : Own w [(b3_2, 48, [.q y]), (w.heap.size + 2, 48, [.q y]), (w.heap.size + 1, 48, [.q (minL x q1)]), (w.heap.size, 48, [.q x])] U6_0 := hO0
          clear hO0
          clear HO
          have HO := hide hO
          clear hO hG6 hv6 hne6 hk0
          go_wp2_with fail
          go_roundw
          case rel =>
            refine ⟨q1 ++ [y], q2, by rw [unhide HQS]; simp, by have h1 := unhide HLT; have h2 := unhide HLEN; rw [List.length_append, List.length_singleton]; exact wrapV h1 h2, hide ?_⟩
            rw [unhide HM, unhide HX]
            exact (unhide HO).drop
          case measure =>
            have h1 := unhide HLT; have h2 := unhide HLEN
            clear HO HQS HB
            rw [wrapE h1 h2]
            exact measS h1
        · have d3 : decide (0 < sgn (y.num * (maxL x q1).den - (maxL x q1).num * y.den)) = false := decide_eq_false g3
          have hx : maxL x (q1 ++ [y]) = maxL x q1 := by rw [maxL_snoc, if_neg g3]
          have HX := hide hx
          clear g3 hx
          go_upto_region 7 with fail
          refine Rg.regionS 5 31 (Rg.pick [AggT [.q y], IfT 48 [.q y], AggT [.q (maxL x q1)], Rg.EqT (.int .i64 (sgn (y.num * (maxL x q1).den - (maxL x q1).num * y.den))), Rg.EqT (.bool false)]) (OwnG w [(b3_2, 48, [.q y]), (w.heap.size + 2, 48, [.q (maxL x q1)]), (w.heap.size + 1, 48, [.q (minL x q1)]), (w.heap.size, 48, [.q x])] V4) Bel [] (by kernel_rfl) rfl (Rg.Stabs.pick ⟨stab_agg _, stab_if _ _, stab_agg _, Rg.stab_eq _, Rg.stab_eq _, trivial⟩) (OwnG.begin (unhide HO))
            (Rg.steps_cons (Rg.plain rfl (s_load (b := b3_2) (off := 0) (TB := 48) (pre := []) (mid := [.q y]) (post := []) load_q rfl (Rg.argF (by kernel_rfl) rfl) (fun W h => OwnG.box (List.Mem.head _) h) rfl rfl rfl))
              (Rg.steps_cons (Rg.plain rfl (s_iface rfl (Rg.argT 0 (by kernel_rfl)) rfl))
              (Rg.steps_cons (Rg.plain rfl (s_load (b := w.heap.size + 2) (off := 0) (TB := 48) (pre := []) (mid := [.q (maxL x q1)]) (post := []) load_q rfl (Rg.argF (by kernel_rfl) rfl) (fun W h => OwnG.box (List.Mem.tail _ (List.Mem.head _)) h) rfl rfl rfl))
              (Rg.steps_cons (Rg.plain rfl (s_invoke rfl OwnG.step (Rg.argT 1 (by kernel_rfl)) (Rg.argT 2 (by kernel_rfl)) (fun W v0 v1 hG h0 h1 => c_cmp (unhide HY) (maxL_sm (unhide HSX) (unhide HSQ1)) h0 h1)))
              (Rg.steps_cons (Rg.plain rfl (s_gtr rfl (Rg.argT 3 (by kernel_rfl)) (Rg.argC _) rfl d3))
              Rg.steps_nil))))) ?_
          intro v5 V5 hG5 hv5 hne5
          simp only [Rg.puts, List.take_succ_cons, List.take_zero, List.drop_succ_cons, List.drop_zero, Act.put, List.setIfInBounds_toArray, List.set_cons_zero, List.set_cons_succ]
          have e3 : v5 3 = .int .i64 (sgn (y.num * (maxL x q1).den - (maxL x q1).num * y.den)) := hv5 3 (by decide)
          have e4 : v5 4 = .bool false := hv5 4 (by decide)
          simp only [e3, e4]
          have hO := hG5.1
          clear HO
          have HO := hide hO
          clear hO hG5 hv5 hne5
          try clear e3 e4
          clear d3
          go_wp2_with fail
          go_roundw
          case rel =>
            refine ⟨q1 ++ [y], q2, by rw [unhide HQS]; simp, by have h1 := unhide HLT; have h2 := unhide HLEN; rw [List.length_append, List.length_singleton]; exact wrapV h1 h2, hide ?_⟩
            rw [unhide HM, unhide HX]
            exact (unhide HO).drop
          case measure =>
            have h1 := unhide HLT; have h2 := unhide HLEN
            clear HO HQS HB
            rw [wrapE h1 h2]
            exact measS h1
end Sb

end Go.Proofs.YtfbcdfoohpkfeaaDoor
