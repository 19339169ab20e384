/- Part 12 of the texts beneath a law of layer 1: LsW, NbW, NearV, NearW, PsA. -/
import Derived.Test.YtadclbankpmebaaDoorCe11
import Derived.Deep.DeepCutAuto
/- The law of the simplest and the nearest number: its walk. -/
namespace Go.Proofs.YtadclbankpmebaaDoor
open Go.RowKit

/-- Function F makes of the numbers x and y the number q. -/
def Op2Q (F : Nat) (x y q : Rat) : Prop := ∀ (A1 : Option Addr) (c1 : Nat) (l1 : List Nat) (m1 : Bool) (A2 : Option Addr) (c2 : Nat) (l2 : List Nat) (m2 : Bool) (A3 : Option Addr) (c3 : Nat) (l3 : List Nat) (m3 : Bool) (A4 : Option Addr) (c4 : Nat) (l4 : List Nat) (m4 : Bool) (W : World), WholeF W A1 c1 l1 m1 x.num → WholeF W A2 c2 l2 m2 (x.den : Int) → WholeF W A3 c3 l3 m3 y.num → WholeF W A4 c4 l4 m4 (y.den : Int) → Calls Tryd.prog F #[(Value.agg #[.slice A1 l1.length c1, .bool m1, .slice A2 l2.length c2, .bool m2]), (Value.agg #[.slice A3 l3.length c3, .bool m3, .slice A4 l4.length c4, .bool m4])] W fun e w' => QR W q e w'
/-- .. of the number x the number q. -/
def Op1Q (F : Nat) (x q : Rat) : Prop := ∀ (A1 : Option Addr) (c1 : Nat) (l1 : List Nat) (m1 : Bool) (A2 : Option Addr) (c2 : Nat) (l2 : List Nat) (m2 : Bool) (W : World), WholeF W A1 c1 l1 m1 x.num → WholeF W A2 c2 l2 m2 (x.den : Int) → Calls Tryd.prog F #[(Value.agg #[.slice A1 l1.length c1, .bool m1, .slice A2 l2.length c2, .bool m2])] W fun e w' => QR W q e w'
/-- Cmp tells o of the numbers x and y. -/
def OpCQ (x y : Rat) (o : Int) : Prop := ∀ (A1 : Option Addr) (c1 : Nat) (l1 : List Nat) (m1 : Bool) (A2 : Option Addr) (c2 : Nat) (l2 : List Nat) (m2 : Bool) (A3 : Option Addr) (c3 : Nat) (l3 : List Nat) (m3 : Bool) (A4 : Option Addr) (c4 : Nat) (l4 : List Nat) (m4 : Bool) (W : World), WholeF W A1 c1 l1 m1 x.num → WholeF W A2 c2 l2 m2 (x.den : Int) → WholeF W A3 c3 l3 m3 y.num → WholeF W A4 c4 l4 m4 (y.den : Int) → Calls Tryd.prog 16 #[(Value.agg #[.slice A1 l1.length c1, .bool m1, .slice A2 l2.length c2, .bool m2]), (Value.agg #[.slice A3 l3.length c3, .bool m3, .slice A4 l4.length c4, .bool m4])] W fun e w' => e = .returned (.int .i64 o) ∧ Below W.heap.size W w'
/-- What the law asks of the nearest number. -/
def FinC (n1 d1 d nn nd : Int) (q : Rat) : Prop := ∃ (a x p p' r r' : Rat) (o : Int), nd ≤ d ∧ o ≤ 0 ∧ (∀ W, Calls Tryd.prog 17 #[(Value.agg #[.int .i64 n1, .int .i64 d1])] W fun e w' => QR W x e w') ∧ (∀ W, Calls Tryd.prog 17 #[(Value.agg #[.int .i64 nn, .int .i64 nd])] W fun e w' => QR W a e w') ∧
  Op2Q 20 a x p ∧ Op1Q 21 p p' ∧ Op2Q 20 q x r ∧ Op1Q 21 r r' ∧ OpCQ p' r' o

set_option maxRecDepth 100000 in
set_option maxHeartbeats 16000000 in
theorem ls_out0 (n1 d1 n2 d2 n d : Int) (w : World) (hT : Tab w) (h0 : d < 1) :
    Calls Tryd.prog 4 #[(Value.agg #[.int .i64 n1, .int .i64 d1]), (Value.agg #[.int .i64 n2, .int .i64 d2]), .int .i64 n, .int .i64 d] w fun e w' => e = .returned (.bool true) ∧ Below w.heap.size w w' := by
  have HT := hide hT; have HKN := hide known_any
  have q0 : decide (d < 1) = true := decide_eq_true h0
  clear h0
  clear hT
  go_enter Tryd.func4, Tryd.ntmps4
  go_wp2_with fail
  obtain ⟨n0_, n1_, hsz, hw0⟩ := two_new w (.cells #[.int .i64 n1, .int .i64 d1] 23) (.cells #[.int .i64 n2, .int .i64 d2] 23)
  generalize ((w.alloc (.cells #[.int .i64 n1, .int .i64 d1] 23)).alloc (.cells #[.int .i64 n2, .int .i64 d2] 23)) = W0 at *
  clear hsz n0_ n1_
  refine ((unhide HKN) _ ((unhide HT).below hw0)).mono ?_
  rintro e V3 ⟨rfl, hb⟩
  have hb9 := below_step' hw0 hb
  clear hb
  go_wp2_with fail
  all_goals first | go_ret | skip
  exact ⟨rfl, hb9⟩

set_option maxRecDepth 100000 in
set_option maxHeartbeats 16000000 in
theorem ls_out1 (n1 d1 n2 d2 n d : Int) (w : World) (hT : Tab w) (h0 : ¬ d < 1) (h1 : 1000000000000 < d) :
    Calls Tryd.prog 4 #[(Value.agg #[.int .i64 n1, .int .i64 d1]), (Value.agg #[.int .i64 n2, .int .i64 d2]), .int .i64 n, .int .i64 d] w fun e w' => e = .returned (.bool true) ∧ Below w.heap.size w w' := by
  have HT := hide hT; have HKN := hide known_any
  have q0 : decide (d < 1) = false := decide_eq_false h0
  have q1 : decide (1000000000000 < d) = true := decide_eq_true h1
  clear h0 h1
  clear hT
  go_enter Tryd.func4, Tryd.ntmps4
  go_wp2_with fail
  obtain ⟨n0_, n1_, hsz, hw0⟩ := two_new w (.cells #[.int .i64 n1, .int .i64 d1] 23) (.cells #[.int .i64 n2, .int .i64 d2] 23)
  generalize ((w.alloc (.cells #[.int .i64 n1, .int .i64 d1] 23)).alloc (.cells #[.int .i64 n2, .int .i64 d2] 23)) = W0 at *
  clear hsz n0_ n1_
  refine ((unhide HKN) _ ((unhide HT).below hw0)).mono ?_
  rintro e V3 ⟨rfl, hb⟩
  have hb9 := below_step' hw0 hb
  clear hb
  go_wp2_with fail
  all_goals first | go_ret | skip
  exact ⟨rfl, hb9⟩

set_option maxRecDepth 100000 in
set_option maxHeartbeats 16000000 in
theorem ls_out2 (n1 d1 n2 d2 n d : Int) (w : World) (hT : Tab w) (h0 : ¬ d < 1) (h1 : ¬ 1000000000000 < d) (h2 : n < -1000000000000) :
    Calls Tryd.prog 4 #[(Value.agg #[.int .i64 n1, .int .i64 d1]), (Value.agg #[.int .i64 n2, .int .i64 d2]), .int .i64 n, .int .i64 d] w fun e w' => e = .returned (.bool true) ∧ Below w.heap.size w w' := by
  have HT := hide hT; have HKN := hide known_any
  have q0 : decide (d < 1) = false := decide_eq_false h0
  have q1 : decide (1000000000000 < d) = false := decide_eq_false h1
  have q2 : decide (n < -1000000000000) = true := decide_eq_true h2
  clear h0 h1 h2
  clear hT
  go_enter Tryd.func4, Tryd.ntmps4
  go_wp2_with fail
  obtain ⟨n0_, n1_, hsz, hw0⟩ := two_new w (.cells #[.int .i64 n1, .int .i64 d1] 23) (.cells #[.int .i64 n2, .int .i64 d2] 23)
  generalize ((w.alloc (.cells #[.int .i64 n1, .int .i64 d1] 23)).alloc (.cells #[.int .i64 n2, .int .i64 d2] 23)) = W0 at *
  clear hsz n0_ n1_
  refine ((unhide HKN) _ ((unhide HT).below hw0)).mono ?_
  rintro e V3 ⟨rfl, hb⟩
  have hb9 := below_step' hw0 hb
  clear hb
  go_wp2_with fail
  all_goals first | go_ret | skip
  exact ⟨rfl, hb9⟩

set_option maxRecDepth 100000 in
set_option maxHeartbeats 16000000 in
theorem ls_out3 (n1 d1 n2 d2 n d : Int) (w : World) (hT : Tab w) (h0 : ¬ d < 1) (h1 : ¬ 1000000000000 < d) (h2 : ¬ n < -1000000000000) (h3 : 1000000000000 < n) :
    Calls Tryd.prog 4 #[(Value.agg #[.int .i64 n1, .int .i64 d1]), (Value.agg #[.int .i64 n2, .int .i64 d2]), .int .i64 n, .int .i64 d] w fun e w' => e = .returned (.bool true) ∧ Below w.heap.size w w' := by
  have HT := hide hT; have HKN := hide known_any
  have q0 : decide (d < 1) = false := decide_eq_false h0
  have q1 : decide (1000000000000 < d) = false := decide_eq_false h1
  have q2 : decide (n < -1000000000000) = false := decide_eq_false h2
  have q3 : decide (1000000000000 < n) = true := decide_eq_true h3
  clear h0 h1 h2 h3
  clear hT
  go_enter Tryd.func4, Tryd.ntmps4
  go_wp2_with fail
  obtain ⟨n0_, n1_, hsz, hw0⟩ := two_new w (.cells #[.int .i64 n1, .int .i64 d1] 23) (.cells #[.int .i64 n2, .int .i64 d2] 23)
  generalize ((w.alloc (.cells #[.int .i64 n1, .int .i64 d1] 23)).alloc (.cells #[.int .i64 n2, .int .i64 d2] 23)) = W0 at *
  clear hsz n0_ n1_
  refine ((unhide HKN) _ ((unhide HT).below hw0)).mono ?_
  rintro e V3 ⟨rfl, hb⟩
  have hb9 := below_step' hw0 hb
  clear hb
  go_wp2_with fail
  all_goals first | go_ret | skip
  exact ⟨rfl, hb9⟩

set_option maxRecDepth 100000 in
set_option maxHeartbeats 16000000 in
theorem least_walk (n1 d1 n2 d2 n d tn td te o1 o2 : Int) (q x y : Rat) (cb : Bool) (w : World) (hT : Tab w)
    (b1 : ¬ d < 1) (b2 : ¬ 1000000000000 < d) (b3 : ¬ n < -1000000000000) (b4 : ¬ 1000000000000 < n)
    (c1 : ∀ W, Tab W → Calls Tryd.prog 14 #[(Value.agg #[.int .i64 n1, .int .i64 d1]), (Value.agg #[.int .i64 n2, .int .i64 d2])] W fun e w' => e = .returned (.tuple #[.agg #[.int .i64 tn, .int .i64 td], .int .i64 te]) ∧ Below W.heap.size W w')
    (c2 : ∀ W, Calls Tryd.prog 15 #[.int .i64 n, .int .i64 d] W fun e w' => QR W q e w')
    (c3 : ∀ (A1 : Option Addr) (c1 : Nat) (l1 : List Nat) (m1 : Bool) (A2 : Option Addr) (c2 : Nat) (l2 : List Nat) (m2 : Bool) (W : World), WholeF W A1 c1 l1 m1 q.num → WholeF W A2 c2 l2 m2 (q.den : Int) → Calls Tryd.prog 18 #[(Value.agg #[.slice A1 l1.length c1, .bool m1, .slice A2 l2.length c2, .bool m2])] W fun e w' => RatP W q e w')
    (hway : (te ≠ 0 ∧ cb = false) ∨ (te = 0 ∧ (∀ W, Calls Tryd.prog 17 #[(Value.agg #[.int .i64 n1, .int .i64 d1])] W fun e w' => QR W x e w') ∧ (∀ W, Calls Tryd.prog 17 #[(Value.agg #[.int .i64 n2, .int .i64 d2])] W fun e w' => QR W y e w') ∧ OpCQ q x o1 ∧ OpCQ q y o2 ∧
      ((o1 < 0 ∧ cb = false) ∨ (0 ≤ o1 ∧ 0 < o2 ∧ cb = false) ∨ (0 ≤ o1 ∧ o2 ≤ 0 ∧ cb = true ∧ True))))
    (hcb : cb = true → ∀ vn vd, Wd.told q = ⟨vn, vd, 0⟩ → ¬ vd < td)
    (hnear : ∀ W, Tab W → Calls Tryd.prog 19 #[(Value.agg #[.int .i64 n1, .int .i64 d1]), .int .i64 d] W fun e w' => ∃ nn nd z : Int, (z ≠ 0 ∨ (z = 0 ∧ FinC n1 d1 d nn nd q)) ∧ e = .returned (.tuple #[(Value.agg #[.int .i64 nn, .int .i64 nd]), .int .i64 z]) ∧ Below W.heap.size W w') :
    Calls Tryd.prog 4 #[(Value.agg #[.int .i64 n1, .int .i64 d1]), (Value.agg #[.int .i64 n2, .int .i64 d2]), .int .i64 n, .int .i64 d] w fun e w' => e = .returned (.bool true) ∧ Below w.heap.size w w' := by
  have HT := hide hT; have HKN := hide known_any; have C1 := hide c1; have C2 := hide c2; have C3 := hide c3; have HWAY := hide hway; have HNEAR := hide hnear; have HV3 := hide hcb
  have q1 : decide (d < 1) = false := decide_eq_false b1
  have q2 : decide (1000000000000 < d) = false := decide_eq_false b2
  have q3 : decide (n < -1000000000000) = false := decide_eq_false b3
  have q4 : decide (1000000000000 < n) = false := decide_eq_false b4
  clear hT c1 c2 c3 hway hcb hnear b1 b2 b3 b4
  go_enter Tryd.func4, Tryd.ntmps4
  go_upto_region 1 with fail
  obtain ⟨n0_, n1_, hsz, hw0⟩ := two_new w (.cells #[.int .i64 n1, .int .i64 d1] 23) (.cells #[.int .i64 n2, .int .i64 d2] 23)
  generalize ((w.alloc (.cells #[.int .i64 n1, .int .i64 d1] 23)).alloc (.cells #[.int .i64 n2, .int .i64 d2] 23)) = W0 at *
  have jx := hide n0_; have jy := hide n1_; have HB := Lib.hid hw0
  clear hsz n0_ n1_ hw0
  have kx0 : W0.cell? ⟨w.heap.size, 0, none⟩ = some (.int .i64 n1) := cells_of (unhide jx) 0
  have kx1 : W0.cell? ⟨w.heap.size, 1, none⟩ = some (.int .i64 d1) := cells_of (unhide jx) 1
  have ky0 : W0.cell? ⟨w.heap.size + 1, 0, none⟩ = some (.int .i64 n2) := cells_of (unhide jy) 0
  have ky1 : W0.cell? ⟨w.heap.size + 1, 1, none⟩ = some (.int .i64 d2) := cells_of (unhide jy) 1
  go_wp2_with fail
  refine ((unhide C1) _ ((unhide HT).below HB.out)).mono ?_
  rintro e V1 ⟨rfl, hb⟩
  clear kx0 kx1 ky0 ky1
  go_upto_region 4 with fail
  have hn := heap_alloc_new V1 (.cells #[.int .i64 tn, .int .i64 td] 23)
  replace hb := below_step' hb (below_alloc (Below.refl V1.heap.size V1) (.cells #[.int .i64 tn, .int .i64 td] 23))
  generalize V1.alloc (.cells #[.int .i64 tn, .int .i64 td] 23) = W1 at *
  obtain ⟨bz, hbn⟩ : ∃ b, b = V1.heap.size := ⟨_, rfl⟩
  rw [← hbn] at hn ⊢
  clear hbn
  replace jx := hide ((hb.block _ (lt_of_block (unhide jx))).trans (unhide jx))
  replace jy := hide ((hb.block _ (lt_of_block (unhide jy))).trans (unhide jy))
  replace HB := Lib.hid (below_step' HB.out hb)
  have jz := hide hn
  clear hn hb
  go_wp2_with fail
  refine ((unhide C2) _).mono ?_
  rintro e V2 ⟨A3, c3, l3, m3, A4, c4, l4, m4, rfl, f3, f4, hb⟩
  have H3 := hide f3; have H4 := hide f4
  clear f3 f4
  go_upto_region 5 with fail
  have hn := heap_alloc_new V2 (.cells #[.slice A3 l3.length c3, .bool m3, .slice A4 l4.length c4, .bool m4] 37)
  have hba := below_alloc (Below.refl V2.heap.size V2) (.cells #[.slice A3 l3.length c3, .bool m3, .slice A4 l4.length c4, .bool m4] 37)
  generalize V2.alloc (.cells #[.slice A3 l3.length c3, .bool m3, .slice A4 l4.length c4, .bool m4] 37) = W2 at *
  obtain ⟨bo, hbn⟩ : ∃ b, b = V2.heap.size := ⟨_, rfl⟩
  rw [← hbn] at hn ⊢
  clear hbn
  replace H3 := hide ((unhide H3).below hba); replace H4 := hide ((unhide H4).below hba)
  replace hb := below_step' hb hba
  replace jx := hide ((hb.block _ (lt_of_block (unhide jx))).trans (unhide jx))
  replace jy := hide ((hb.block _ (lt_of_block (unhide jy))).trans (unhide jy))
  replace jz := hide ((hb.block _ (lt_of_block (unhide jz))).trans (unhide jz))
  replace HB := Lib.hid (below_step' HB.out hb)
  have jo := hide hn
  clear hn hb hba
  go_cut [55] (fun c wx => c = .bool cb ∧ Below W2.heap.size W2 wx)
  case first =>
    rcases unhide HWAY with ⟨h, rfl⟩ | ⟨h, hox, hoy, hc1, hc2, hw3⟩
    · have e1 : (te == 0) = false := beq_eq_false_iff_ne.2 h
      have e2 : ¬ te = 0 := h
      clear h HWAY
      go_region_with (fail)
      all_goals (go_wp2_with fail; go_meet; first | exact ⟨rfl, hbw⟩ | exact ⟨rfl, (by (repeat (first | with_reducible exact Below.refl _ _ | with_reducible assumption | with_reducible refine Below.drew ?_ | with_reducible refine below_alloc ?_ _)))⟩)
    · subst h
      unfold OpCQ at hc1 hc2
      have HOX := hide hox; have HOY := hide hoy; have HC1 := hide hc1; have HC2 := hide hc2; have HW3 := hide hw3
      clear hox hoy hc1 hc2 hw3 HWAY
      have kx0 : W2.cell? ⟨w.heap.size, 0, none⟩ = some (.int .i64 n1) := cells_of (unhide jx) 0
      have kx1 : W2.cell? ⟨w.heap.size, 1, none⟩ = some (.int .i64 d1) := cells_of (unhide jx) 1
      have ky0 : W2.cell? ⟨w.heap.size + 1, 0, none⟩ = some (.int .i64 n2) := cells_of (unhide jy) 0
      have ky1 : W2.cell? ⟨w.heap.size + 1, 1, none⟩ = some (.int .i64 d2) := cells_of (unhide jy) 1
      have ko0 : W2.cell? ⟨bo, 0, none⟩ = some (.slice A3 l3.length c3) := cells_of (unhide jo) 0
      have ko1 : W2.cell? ⟨bo, 1, none⟩ = some (.bool m3) := cells_of (unhide jo) 1
      have ko2 : W2.cell? ⟨bo, 2, none⟩ = some (.slice A4 l4.length c4) := cells_of (unhide jo) 2
      have ko3 : W2.cell? ⟨bo, 3, none⟩ = some (.bool m4) := cells_of (unhide jo) 3
      rcases unhide HW3 with ⟨h, rfl⟩ | ⟨h, h2, rfl⟩ | ⟨h, h2, rfl, h3⟩
      · have e3 : decide (0 ≤ o1) = false := decide_eq_false (by omega)
        clear h HW3 HOY HC2
        have qx := lt_of_block (unhide jx); have qo := lt_of_block (unhide jo)
        go_region_with (first | (go_at_call_of 17 (Value.agg #[.int .i64 n1, .int .i64 d1]); refine ((unhide HOX) _).mono ?_; rintro e w' ⟨A5, c5, l5, m5, A6, c6, l6, m6, rfl, hf5, hf6, hb5⟩; have hbw := below_step (w := W2) (by (repeat (first | with_reducible exact Below.refl _ _ | with_reducible assumption | with_reducible refine Below.drew ?_ | with_reducible refine below_alloc ?_ _))) hb5; have hsw := hbw.size; obtain ⟨hc, hfz⟩ := bcell hbw) | (go_at_call_of 16 (Value.agg #[.slice A3 l3.length c3, .bool m3, .slice A4 l4.length c4, .bool m4]); refine ((unhide HC1) A3 c3 l3 m3 A4 c4 l4 m4 A5 c5 l5 m5 A6 c6 l6 m6 _ (WholeF.below (unhide H3) (by (repeat (first | with_reducible exact Below.refl _ _ | with_reducible assumption | with_reducible refine Below.drew ?_ | with_reducible refine below_alloc ?_ _)))) (WholeF.below (unhide H4) (by (repeat (first | with_reducible exact Below.refl _ _ | with_reducible assumption | with_reducible refine Below.drew ?_ | with_reducible refine below_alloc ?_ _)))) (WholeF.below hf5 (by (repeat (first | with_reducible exact Below.refl _ _ | with_reducible assumption | with_reducible refine Below.drew ?_ | with_reducible refine below_alloc ?_ _)))) (WholeF.below hf6 (by (repeat (first | with_reducible exact Below.refl _ _ | with_reducible assumption | with_reducible refine Below.drew ?_ | with_reducible refine below_alloc ?_ _))))).mono ?_; rintro e w' ⟨rfl, hb7⟩; have hbw := below_step (w := W2) (by (repeat (first | with_reducible exact Below.refl _ _ | with_reducible assumption | with_reducible refine Below.drew ?_ | with_reducible refine below_alloc ?_ _))) hb7; have hsw := hbw.size; obtain ⟨hc, hfz⟩ := bcell hbw))
        all_goals (go_wp2_with fail; go_meet; first | exact ⟨rfl, hbw⟩ | exact ⟨rfl, (by (repeat (first | with_reducible exact Below.refl _ _ | with_reducible assumption | with_reducible refine Below.drew ?_ | with_reducible refine below_alloc ?_ _)))⟩)
      · have e3 : decide (0 ≤ o1) = true := decide_eq_true h
        have e4 : decide (o2 ≤ 0) = false := decide_eq_false (by omega)
        clear h h2 HW3
        have qx := lt_of_block (unhide jx); have qy := lt_of_block (unhide jy); have qo := lt_of_block (unhide jo)
        have KEEP := hide (show ∀ X, Below W2.heap.size W2 X → X.cell? ⟨w.heap.size, 0, none⟩ = some (.int .i64 n1) ∧ X.cell? ⟨w.heap.size, 1, none⟩ = some (.int .i64 d1) ∧ X.cell? ⟨w.heap.size + 1, 0, none⟩ = some (.int .i64 n2) ∧ X.cell? ⟨w.heap.size + 1, 1, none⟩ = some (.int .i64 d2) ∧ X.cell? ⟨bo, 0, none⟩ = some (.slice A3 l3.length c3) ∧ X.cell? ⟨bo, 1, none⟩ = some (.bool m3) ∧ X.cell? ⟨bo, 2, none⟩ = some (.slice A4 l4.length c4) ∧ X.cell? ⟨bo, 3, none⟩ = some (.bool m4) from fun X hB => ⟨keep_cell hB qx kx0, keep_cell hB qx kx1, keep_cell hB qy ky0, keep_cell hB qy ky1, keep_cell hB qo ko0, keep_cell hB qo ko1, keep_cell hB qo ko2, keep_cell hB qo ko3⟩)
        go_region_held3 (fun w' => w'.cell? ⟨w.heap.size, 0, none⟩ = some (.int .i64 n1) ∧ w'.cell? ⟨w.heap.size, 1, none⟩ = some (.int .i64 d1) ∧ w'.cell? ⟨w.heap.size + 1, 0, none⟩ = some (.int .i64 n2) ∧ w'.cell? ⟨w.heap.size + 1, 1, none⟩ = some (.int .i64 d2) ∧ w'.cell? ⟨bo, 0, none⟩ = some (.slice A3 l3.length c3) ∧ w'.cell? ⟨bo, 1, none⟩ = some (.bool m3) ∧ w'.cell? ⟨bo, 2, none⟩ = some (.slice A4 l4.length c4) ∧ w'.cell? ⟨bo, 3, none⟩ = some (.bool m4)) (exact (unhide KEEP) _ (by (repeat (first | with_reducible exact Below.refl _ _ | with_reducible assumption | with_reducible refine Below.drew ?_ | with_reducible refine below_alloc ?_ _)))) (first | (go_at_call_of 17 (Value.agg #[.int .i64 n1, .int .i64 d1]); refine ((unhide HOX) _).mono ?_; rintro e w' ⟨A5, c5, l5, m5, A6, c6, l6, m6, rfl, hf5, hf6, hb5⟩; have hbw := below_step (w := W2) (by (repeat (first | with_reducible exact Below.refl _ _ | with_reducible assumption | with_reducible refine Below.drew ?_ | with_reducible refine below_alloc ?_ _))) hb5; have hsw := hbw.size; obtain ⟨hc, hfz⟩ := bcell hbw) | (go_at_call_of 17 (Value.agg #[.int .i64 n2, .int .i64 d2]); refine ((unhide HOY) _).mono ?_; rintro e w' ⟨A8, c8, l8, m8, A9, c9, l9, m9, rfl, hf8, hf9, hb8⟩; have hbw := below_step (w := W2) (by (repeat (first | with_reducible exact Below.refl _ _ | with_reducible assumption | with_reducible refine Below.drew ?_ | with_reducible refine below_alloc ?_ _))) hb8; have hsw := hbw.size; obtain ⟨hc, hfz⟩ := bcell hbw) | (go_at_call_of 16 (Value.agg #[.slice A3 l3.length c3, .bool m3, .slice A4 l4.length c4, .bool m4]); refine ((unhide HC2) A3 c3 l3 m3 A4 c4 l4 m4 A8 c8 l8 m8 A9 c9 l9 m9 _ (WholeF.below (unhide H3) (by (repeat (first | with_reducible exact Below.refl _ _ | with_reducible assumption | with_reducible refine Below.drew ?_ | with_reducible refine below_alloc ?_ _)))) (WholeF.below (unhide H4) (by (repeat (first | with_reducible exact Below.refl _ _ | with_reducible assumption | with_reducible refine Below.drew ?_ | with_reducible refine below_alloc ?_ _)))) (WholeF.below hf8 (by (repeat (first | with_reducible exact Below.refl _ _ | with_reducible assumption | with_reducible refine Below.drew ?_ | with_reducible refine below_alloc ?_ _)))) (WholeF.below hf9 (by (repeat (first | with_reducible exact Below.refl _ _ | with_reducible assumption | with_reducible refine Below.drew ?_ | with_reducible refine below_alloc ?_ _))))).mono ?_; rintro e w' ⟨rfl, hb10⟩; have hbw := below_step (w := W2) (by (repeat (first | with_reducible exact Below.refl _ _ | with_reducible assumption | with_reducible refine Below.drew ?_ | with_reducible refine below_alloc ?_ _))) hb10; have hsw := hbw.size; obtain ⟨hc, hfz⟩ := bcell hbw) | (go_at_call_of 16 (Value.agg #[.slice A3 l3.length c3, .bool m3, .slice A4 l4.length c4, .bool m4]); refine ((unhide HC1) A3 c3 l3 m3 A4 c4 l4 m4 A5 c5 l5 m5 A6 c6 l6 m6 _ (WholeF.below (unhide H3) (by (repeat (first | with_reducible exact Below.refl _ _ | with_reducible assumption | with_reducible refine Below.drew ?_ | with_reducible refine below_alloc ?_ _)))) (WholeF.below (unhide H4) (by (repeat (first | with_reducible exact Below.refl _ _ | with_reducible assumption | with_reducible refine Below.drew ?_ | with_reducible refine below_alloc ?_ _)))) (WholeF.below hf5 (by (repeat (first | with_reducible exact Below.refl _ _ | with_reducible assumption | with_reducible refine Below.drew ?_ | with_reducible refine below_alloc ?_ _)))) (WholeF.below hf6 (by (repeat (first | with_reducible exact Below.refl _ _ | with_reducible assumption | with_reducible refine Below.drew ?_ | with_reducible refine below_alloc ?_ _))))).mono ?_; rintro e w' ⟨rfl, hb7⟩; have hbw := below_step (w := W2) (by (repeat (first | with_reducible exact Below.refl _ _ | with_reducible assumption | with_reducible refine Below.drew ?_ | with_reducible refine below_alloc ?_ _))) hb7; have hsw := hbw.size; obtain ⟨hc, hfz⟩ := bcell hbw))
        all_goals (go_wp2_with fail; go_meet; first | exact ⟨rfl, hbw⟩ | exact ⟨rfl, (by (repeat (first | with_reducible exact Below.refl _ _ | with_reducible assumption | with_reducible refine Below.drew ?_ | with_reducible refine below_alloc ?_ _)))⟩)
      · have e3 : decide (0 ≤ o1) = true := decide_eq_true h
        have e4 : decide (o2 ≤ 0) = true := decide_eq_true h2
        clear h h2 h3 HW3
        have qx := lt_of_block (unhide jx); have qy := lt_of_block (unhide jy); have qo := lt_of_block (unhide jo)
        have KEEP := hide (show ∀ X, Below W2.heap.size W2 X → X.cell? ⟨w.heap.size, 0, none⟩ = some (.int .i64 n1) ∧ X.cell? ⟨w.heap.size, 1, none⟩ = some (.int .i64 d1) ∧ X.cell? ⟨w.heap.size + 1, 0, none⟩ = some (.int .i64 n2) ∧ X.cell? ⟨w.heap.size + 1, 1, none⟩ = some (.int .i64 d2) ∧ X.cell? ⟨bo, 0, none⟩ = some (.slice A3 l3.length c3) ∧ X.cell? ⟨bo, 1, none⟩ = some (.bool m3) ∧ X.cell? ⟨bo, 2, none⟩ = some (.slice A4 l4.length c4) ∧ X.cell? ⟨bo, 3, none⟩ = some (.bool m4) from fun X hB => ⟨keep_cell hB qx kx0, keep_cell hB qx kx1, keep_cell hB qy ky0, keep_cell hB qy ky1, keep_cell hB qo ko0, keep_cell hB qo ko1, keep_cell hB qo ko2, keep_cell hB qo ko3⟩)
        go_region_held3 (fun w' => w'.cell? ⟨w.heap.size, 0, none⟩ = some (.int .i64 n1) ∧ w'.cell? ⟨w.heap.size, 1, none⟩ = some (.int .i64 d1) ∧ w'.cell? ⟨w.heap.size + 1, 0, none⟩ = some (.int .i64 n2) ∧ w'.cell? ⟨w.heap.size + 1, 1, none⟩ = some (.int .i64 d2) ∧ w'.cell? ⟨bo, 0, none⟩ = some (.slice A3 l3.length c3) ∧ w'.cell? ⟨bo, 1, none⟩ = some (.bool m3) ∧ w'.cell? ⟨bo, 2, none⟩ = some (.slice A4 l4.length c4) ∧ w'.cell? ⟨bo, 3, none⟩ = some (.bool m4)) (exact (unhide KEEP) _ (by (repeat (first | with_reducible exact Below.refl _ _ | with_reducible assumption | with_reducible refine Below.drew ?_ | with_reducible refine below_alloc ?_ _)))) (first | (go_at_call_of 17 (Value.agg #[.int .i64 n1, .int .i64 d1]); refine ((unhide HOX) _).mono ?_; rintro e w' ⟨A5, c5, l5, m5, A6, c6, l6, m6, rfl, hf5, hf6, hb5⟩; have hbw := below_step (w := W2) (by (repeat (first | with_reducible exact Below.refl _ _ | with_reducible assumption | with_reducible refine Below.drew ?_ | with_reducible refine below_alloc ?_ _))) hb5; have hsw := hbw.size; obtain ⟨hc, hfz⟩ := bcell hbw) | (go_at_call_of 17 (Value.agg #[.int .i64 n2, .int .i64 d2]); refine ((unhide HOY) _).mono ?_; rintro e w' ⟨A8, c8, l8, m8, A9, c9, l9, m9, rfl, hf8, hf9, hb8⟩; have hbw := below_step (w := W2) (by (repeat (first | with_reducible exact Below.refl _ _ | with_reducible assumption | with_reducible refine Below.drew ?_ | with_reducible refine below_alloc ?_ _))) hb8; have hsw := hbw.size; obtain ⟨hc, hfz⟩ := bcell hbw) | (go_at_call_of 16 (Value.agg #[.slice A3 l3.length c3, .bool m3, .slice A4 l4.length c4, .bool m4]); refine ((unhide HC2) A3 c3 l3 m3 A4 c4 l4 m4 A8 c8 l8 m8 A9 c9 l9 m9 _ (WholeF.below (unhide H3) (by (repeat (first | with_reducible exact Below.refl _ _ | with_reducible assumption | with_reducible refine Below.drew ?_ | with_reducible refine below_alloc ?_ _)))) (WholeF.below (unhide H4) (by (repeat (first | with_reducible exact Below.refl _ _ | with_reducible assumption | with_reducible refine Below.drew ?_ | with_reducible refine below_alloc ?_ _)))) (WholeF.below hf8 (by (repeat (first | with_reducible exact Below.refl _ _ | with_reducible assumption | with_reducible refine Below.drew ?_ | with_reducible refine below_alloc ?_ _)))) (WholeF.below hf9 (by (repeat (first | with_reducible exact Below.refl _ _ | with_reducible assumption | with_reducible refine Below.drew ?_ | with_reducible refine below_alloc ?_ _))))).mono ?_; rintro e w' ⟨rfl, hb10⟩; have hbw := below_step (w := W2) (by (repeat (first | with_reducible exact Below.refl _ _ | with_reducible assumption | with_reducible refine Below.drew ?_ | with_reducible refine below_alloc ?_ _))) hb10; have hsw := hbw.size; obtain ⟨hc, hfz⟩ := bcell hbw) | (go_at_call_of 16 (Value.agg #[.slice A3 l3.length c3, .bool m3, .slice A4 l4.length c4, .bool m4]); refine ((unhide HC1) A3 c3 l3 m3 A4 c4 l4 m4 A5 c5 l5 m5 A6 c6 l6 m6 _ (WholeF.below (unhide H3) (by (repeat (first | with_reducible exact Below.refl _ _ | with_reducible assumption | with_reducible refine Below.drew ?_ | with_reducible refine below_alloc ?_ _)))) (WholeF.below (unhide H4) (by (repeat (first | with_reducible exact Below.refl _ _ | with_reducible assumption | with_reducible refine Below.drew ?_ | with_reducible refine below_alloc ?_ _)))) (WholeF.below hf5 (by (repeat (first | with_reducible exact Below.refl _ _ | with_reducible assumption | with_reducible refine Below.drew ?_ | with_reducible refine below_alloc ?_ _)))) (WholeF.below hf6 (by (repeat (first | with_reducible exact Below.refl _ _ | with_reducible assumption | with_reducible refine Below.drew ?_ | with_reducible refine below_alloc ?_ _))))).mono ?_; rintro e w' ⟨rfl, hb7⟩; have hbw := below_step (w := W2) (by (repeat (first | with_reducible exact Below.refl _ _ | with_reducible assumption | with_reducible refine Below.drew ?_ | with_reducible refine below_alloc ?_ _))) hb7; have hsw := hbw.size; obtain ⟨hc, hfz⟩ := bcell hbw))
        all_goals (go_wp2_with fail; go_meet; first | exact ⟨rfl, hbw⟩ | exact ⟨rfl, (by (repeat (first | with_reducible exact Below.refl _ _ | with_reducible assumption | with_reducible refine Below.drew ?_ | with_reducible refine below_alloc ?_ _)))⟩)
  case rest =>
    revert hcut
    generalize wc = W3
    rintro ⟨rfl, hcut⟩
    clear C1 C2 HWAY jy
    replace jx := hide ((hcut.block _ (lt_of_block (unhide jx))).trans (unhide jx))
    replace jo := hide ((hcut.block _ (lt_of_block (unhide jo))).trans (unhide jo))
    replace jz := hide ((hcut.block _ (lt_of_block (unhide jz))).trans (unhide jz))
    replace H3 := hide ((unhide H3).below hcut)
    replace H4 := hide ((unhide H4).below hcut)
    replace HB := Lib.hid (below_step' HB.out hcut)
    clear hcut
    go_upto_if 55 with (fail)
    go_cut [] (fun wx => Below W3.heap.size W3 wx)
    case first =>
      cases cb
      · go_wp2_with fail
        all_goals (go_meet; exact Below.refl _ _)
      · replace HV3 := hide ((unhide HV3) rfl)
        have ko0 : W3.cell? ⟨bo, 0, none⟩ = some (.slice A3 l3.length c3) := cells_of (unhide jo) 0
        have ko1 : W3.cell? ⟨bo, 1, none⟩ = some (.bool m3) := cells_of (unhide jo) 1
        have ko2 : W3.cell? ⟨bo, 2, none⟩ = some (.slice A4 l4.length c4) := cells_of (unhide jo) 2
        have ko3 : W3.cell? ⟨bo, 3, none⟩ = some (.bool m4) := cells_of (unhide jo) 3
        go_wp2_with fail
        refine ((unhide C3) A3 c3 l3 m3 A4 c4 l4 m4 _ (unhide H3) (unhide H4)).mono ?_
        rintro e X3 ⟨vn, vd, okv, rfl, hbw, hok⟩
        clear ko0 ko1 ko2 ko3
        replace jz := hide ((hbw.block _ (lt_of_block (unhide jz))).trans (unhide jz))
        go_upto_region 7 with fail
        have hn := heap_alloc_new X3 (.cells #[.int .i64 vn, .int .i64 vd] 23)
        have hba := below_alloc (Below.refl X3.heap.size X3) (.cells #[.int .i64 vn, .int .i64 vd] 23)
        generalize X3.alloc (.cells #[.int .i64 vn, .int .i64 vd] 23) = X4 at *
        obtain ⟨bv, hbn⟩ : ∃ b, b = X3.heap.size := ⟨_, rfl⟩
        rw [← hbn] at hn ⊢
        clear hbn
        replace hbw := below_step' hbw hba
        replace jz := hide ((hba.block _ (lt_of_block (unhide jz))).trans (unhide jz))
        have kz1 : X4.cell? ⟨bz, 1, none⟩ = some (.int .i64 td) := cells_of (unhide jz) 1
        have kv1 : X4.cell? ⟨bv, 1, none⟩ = some (.int .i64 vd) := cells_of hn 1
        clear hn hba
        rcases hok with ⟨rfl, ht⟩ | ⟨rfl, ht⟩
        · have e5 : decide (vd < td) = false := decide_eq_false (by have := (unhide HV3) vn vd ht; omega)
          clear ht
          go_wp2_with fail
          all_goals (go_meet; first | exact hbw | exact hbw.drew | exact (by (repeat (first | with_reducible exact Below.refl _ _ | with_reducible assumption | with_reducible refine Below.drew ?_ | with_reducible refine below_alloc ?_ _))))
        · clear ht
          go_wp2_with fail
          all_goals (go_meet; first | exact hbw | exact hbw.drew | exact (by (repeat (first | with_reducible exact Below.refl _ _ | with_reducible assumption | with_reducible refine Below.drew ?_ | with_reducible refine below_alloc ?_ _))))
    case rest =>
      revert hcut
      generalize wc = W4
      intro hcut
      clear C3 HV3 jz
      replace jx := hide ((hcut.block _ (lt_of_block (unhide jx))).trans (unhide jx))
      replace jo := hide ((hcut.block _ (lt_of_block (unhide jo))).trans (unhide jo))
      replace H3 := hide ((unhide H3).below hcut)
      replace H4 := hide ((unhide H4).below hcut)
      replace HB := Lib.hid (below_step' HB.out hcut)
      clear hcut
      have kx0 : W4.cell? ⟨w.heap.size, 0, none⟩ = some (.int .i64 n1) := cells_of (unhide jx) 0
      have kx1 : W4.cell? ⟨w.heap.size, 1, none⟩ = some (.int .i64 d1) := cells_of (unhide jx) 1
      go_wp2_with fail
      refine ((unhide HNEAR) _ ((unhide HT).below HB.out)).mono ?_
      rintro e V5 ⟨nn, nd, z, hcase, rfl, hb⟩
      have HCASE := hide hcase
      clear kx0 kx1 hcase
      go_upto_region 10 with fail
      have hn := heap_alloc_new V5 (.cells #[.int .i64 nn, .int .i64 nd] 23)
      replace hb := below_step' hb (below_alloc (Below.refl V5.heap.size V5) (.cells #[.int .i64 nn, .int .i64 nd] 23))
      generalize V5.alloc (.cells #[.int .i64 nn, .int .i64 nd] 23) = W5 at *
      obtain ⟨bn, hbn⟩ : ∃ b, b = V5.heap.size := ⟨_, rfl⟩
      rw [← hbn] at hn ⊢
      clear hbn
      replace jx := hide ((hb.block _ (lt_of_block (unhide jx))).trans (unhide jx))
      replace jo := hide ((hb.block _ (lt_of_block (unhide jo))).trans (unhide jo))
      replace H3 := hide ((unhide H3).below hb)
      replace H4 := hide ((unhide H4).below hb)
      replace HB := Lib.hid (below_step' HB.out hb)
      have jn := hide hn
      clear hn hb
      rcases unhide HCASE with h | ⟨h, hfin⟩
      · have e1 : (z == 0) = false := beq_eq_false_iff_ne.2 h
        have e2 : ¬ z = 0 := h
        clear h HCASE
        go_wp2_with fail
        refine ((unhide HKN) _ ((unhide HT).below HB.out)).mono ?_
        rintro e V6 ⟨rfl, hb⟩
        have hb9 := below_step' HB.out hb
        clear hb
        go_wp2_with fail
        all_goals first | go_ret | skip
        exact ⟨rfl, hb9⟩
      · subst h
        obtain ⟨a, x', p, p', r, r', o, hnd, ho, hox, hoa, hs1, ha1, hs2, ha2, hcm⟩ := hfin
        unfold Op2Q at hs1 hs2
        unfold Op1Q at ha1 ha2
        unfold OpCQ at hcm
        have HOX := hide hox; have HOA := hide hoa; have HS1 := hide hs1; have HA1 := hide ha1; have HS2 := hide hs2; have HA2 := hide ha2; have HCM := hide hcm
        have e1 : decide (nd ≤ d) = true := decide_eq_true hnd
        have e2 : decide (o ≤ 0) = true := decide_eq_true ho
        clear HCASE hnd ho hox hoa hs1 ha1 hs2 ha2 hcm
        have kx0 : W5.cell? ⟨w.heap.size, 0, none⟩ = some (.int .i64 n1) := cells_of (unhide jx) 0
        have kx1 : W5.cell? ⟨w.heap.size, 1, none⟩ = some (.int .i64 d1) := cells_of (unhide jx) 1
        go_wp2_with fail
        refine ((unhide HOX) _).mono ?_
        rintro e V6 ⟨A5, c5, l5, m5, A6, c6, l6, m6, rfl, f5, f6, hb⟩
        have H5 := hide f5; have H6 := hide f6
        clear f5 f6 kx0 kx1
        go_upto_region 13 with fail
        have hn := heap_alloc_new V6 (.cells #[.slice A5 l5.length c5, .bool m5, .slice A6 l6.length c6, .bool m6] 37)
        have hba := below_alloc (Below.refl V6.heap.size V6) (.cells #[.slice A5 l5.length c5, .bool m5, .slice A6 l6.length c6, .bool m6] 37)
        generalize V6.alloc (.cells #[.slice A5 l5.length c5, .bool m5, .slice A6 l6.length c6, .bool m6] 37) = W6 at *
        obtain ⟨bv, hbn⟩ : ∃ b, b = V6.heap.size := ⟨_, rfl⟩
        rw [← hbn] at hn ⊢
        clear hbn
        replace H5 := hide ((unhide H5).below hba); replace H6 := hide ((unhide H6).below hba)
        replace hb := below_step' hb hba
        replace jo := hide ((hb.block _ (lt_of_block (unhide jo))).trans (unhide jo))
        replace jn := hide ((hb.block _ (lt_of_block (unhide jn))).trans (unhide jn))
        replace H3 := hide ((unhide H3).below hb)
        replace H4 := hide ((unhide H4).below hb)
        replace HB := Lib.hid (below_step' HB.out hb)
        have jv := hide hn
        clear hn hb hba jx
        have kn0 : W6.cell? ⟨bn, 0, none⟩ = some (.int .i64 nn) := cells_of (unhide jn) 0
        have kn1 : W6.cell? ⟨bn, 1, none⟩ = some (.int .i64 nd) := cells_of (unhide jn) 1
        have qn := lt_of_block (unhide jn)
        have ko0 : W6.cell? ⟨bo, 0, none⟩ = some (.slice A3 l3.length c3) := cells_of (unhide jo) 0
        have ko1 : W6.cell? ⟨bo, 1, none⟩ = some (.bool m3) := cells_of (unhide jo) 1
        have ko2 : W6.cell? ⟨bo, 2, none⟩ = some (.slice A4 l4.length c4) := cells_of (unhide jo) 2
        have ko3 : W6.cell? ⟨bo, 3, none⟩ = some (.bool m4) := cells_of (unhide jo) 3
        have qo := lt_of_block (unhide jo)
        have kv0 : W6.cell? ⟨bv, 0, none⟩ = some (.slice A5 l5.length c5) := cells_of (unhide jv) 0
        have kv1 : W6.cell? ⟨bv, 1, none⟩ = some (.bool m5) := cells_of (unhide jv) 1
        have kv2 : W6.cell? ⟨bv, 2, none⟩ = some (.slice A6 l6.length c6) := cells_of (unhide jv) 2
        have kv3 : W6.cell? ⟨bv, 3, none⟩ = some (.bool m6) := cells_of (unhide jv) 3
        have qv := lt_of_block (unhide jv)
        have KEEP := hide (show ∀ X, Below W6.heap.size W6 X → X.cell? ⟨bn, 0, none⟩ = some (.int .i64 nn) ∧ X.cell? ⟨bn, 1, none⟩ = some (.int .i64 nd) ∧ X.cell? ⟨bo, 0, none⟩ = some (.slice A3 l3.length c3) ∧ X.cell? ⟨bo, 1, none⟩ = some (.bool m3) ∧ X.cell? ⟨bo, 2, none⟩ = some (.slice A4 l4.length c4) ∧ X.cell? ⟨bo, 3, none⟩ = some (.bool m4) ∧ X.cell? ⟨bv, 0, none⟩ = some (.slice A5 l5.length c5) ∧ X.cell? ⟨bv, 1, none⟩ = some (.bool m5) ∧ X.cell? ⟨bv, 2, none⟩ = some (.slice A6 l6.length c6) ∧ X.cell? ⟨bv, 3, none⟩ = some (.bool m6) from fun X hB => ⟨keep_cell hB qn kn0, keep_cell hB qn kn1, keep_cell hB qo ko0, keep_cell hB qo ko1, keep_cell hB qo ko2, keep_cell hB qo ko3, keep_cell hB qv kv0, keep_cell hB qv kv1, keep_cell hB qv kv2, keep_cell hB qv kv3⟩)
        go_region_held3 (fun w' => w'.cell? ⟨bn, 0, none⟩ = some (.int .i64 nn) ∧ w'.cell? ⟨bn, 1, none⟩ = some (.int .i64 nd) ∧ w'.cell? ⟨bo, 0, none⟩ = some (.slice A3 l3.length c3) ∧ w'.cell? ⟨bo, 1, none⟩ = some (.bool m3) ∧ w'.cell? ⟨bo, 2, none⟩ = some (.slice A4 l4.length c4) ∧ w'.cell? ⟨bo, 3, none⟩ = some (.bool m4) ∧ w'.cell? ⟨bv, 0, none⟩ = some (.slice A5 l5.length c5) ∧ w'.cell? ⟨bv, 1, none⟩ = some (.bool m5) ∧ w'.cell? ⟨bv, 2, none⟩ = some (.slice A6 l6.length c6) ∧ w'.cell? ⟨bv, 3, none⟩ = some (.bool m6)) (exact (unhide KEEP) _ (by (repeat (first | with_reducible exact Below.refl _ _ | with_reducible assumption | with_reducible refine Below.drew ?_ | with_reducible refine below_alloc ?_ _)))) (first | (go_at_call_of 17 (Value.agg #[.int .i64 nn, .int .i64 nd]); refine ((unhide HOA) _).mono ?_; rintro e w' ⟨A7, c7, l7, m7, A8, c8, l8, m8, rfl, hf7, hf8, hb7⟩; have hbw := below_step (w := W6) (by (repeat (first | with_reducible exact Below.refl _ _ | with_reducible assumption | with_reducible refine Below.drew ?_ | with_reducible refine below_alloc ?_ _))) hb7; have hsw := hbw.size; obtain ⟨hc, hfz⟩ := bcell hbw) | (go_at_call_of 20 (Value.agg #[.slice A7 l7.length c7, .bool m7, .slice A8 l8.length c8, .bool m8]); refine ((unhide HS1) A7 c7 l7 m7 A8 c8 l8 m8 A5 c5 l5 m5 A6 c6 l6 m6 _ (WholeF.below hf7 (by (repeat (first | with_reducible exact Below.refl _ _ | with_reducible assumption | with_reducible refine Below.drew ?_ | with_reducible refine below_alloc ?_ _)))) (WholeF.below hf8 (by (repeat (first | with_reducible exact Below.refl _ _ | with_reducible assumption | with_reducible refine Below.drew ?_ | with_reducible refine below_alloc ?_ _)))) (WholeF.below (unhide H5) (by (repeat (first | with_reducible exact Below.refl _ _ | with_reducible assumption | with_reducible refine Below.drew ?_ | with_reducible refine below_alloc ?_ _)))) (WholeF.below (unhide H6) (by (repeat (first | with_reducible exact Below.refl _ _ | with_reducible assumption | with_reducible refine Below.drew ?_ | with_reducible refine below_alloc ?_ _))))).mono ?_; rintro e w' ⟨A9, c9, l9, m9, A10, c10, l10, m10, rfl, hf9, hf10, hb9⟩; have hbw := below_step (w := W6) (by (repeat (first | with_reducible exact Below.refl _ _ | with_reducible assumption | with_reducible refine Below.drew ?_ | with_reducible refine below_alloc ?_ _))) hb9; have hsw := hbw.size; obtain ⟨hc, hfz⟩ := bcell hbw) | (go_at_call_of 21 (Value.agg #[.slice A9 l9.length c9, .bool m9, .slice A10 l10.length c10, .bool m10]); refine ((unhide HA1) A9 c9 l9 m9 A10 c10 l10 m10 _ (WholeF.below hf9 (by (repeat (first | with_reducible exact Below.refl _ _ | with_reducible assumption | with_reducible refine Below.drew ?_ | with_reducible refine below_alloc ?_ _)))) (WholeF.below hf10 (by (repeat (first | with_reducible exact Below.refl _ _ | with_reducible assumption | with_reducible refine Below.drew ?_ | with_reducible refine below_alloc ?_ _))))).mono ?_; rintro e w' ⟨A11, c11, l11, m11, A12, c12, l12, m12, rfl, hf11, hf12, hb11⟩; have hbw := below_step (w := W6) (by (repeat (first | with_reducible exact Below.refl _ _ | with_reducible assumption | with_reducible refine Below.drew ?_ | with_reducible refine below_alloc ?_ _))) hb11; have hsw := hbw.size; obtain ⟨hc, hfz⟩ := bcell hbw) | (go_at_call_of 20 (Value.agg #[.slice A3 l3.length c3, .bool m3, .slice A4 l4.length c4, .bool m4]); refine ((unhide HS2) A3 c3 l3 m3 A4 c4 l4 m4 A5 c5 l5 m5 A6 c6 l6 m6 _ (WholeF.below (unhide H3) (by (repeat (first | with_reducible exact Below.refl _ _ | with_reducible assumption | with_reducible refine Below.drew ?_ | with_reducible refine below_alloc ?_ _)))) (WholeF.below (unhide H4) (by (repeat (first | with_reducible exact Below.refl _ _ | with_reducible assumption | with_reducible refine Below.drew ?_ | with_reducible refine below_alloc ?_ _)))) (WholeF.below (unhide H5) (by (repeat (first | with_reducible exact Below.refl _ _ | with_reducible assumption | with_reducible refine Below.drew ?_ | with_reducible refine below_alloc ?_ _)))) (WholeF.below (unhide H6) (by (repeat (first | with_reducible exact Below.refl _ _ | with_reducible assumption | with_reducible refine Below.drew ?_ | with_reducible refine below_alloc ?_ _))))).mono ?_; rintro e w' ⟨A13, c13, l13, m13, A14, c14, l14, m14, rfl, hf13, hf14, hb13⟩; have hf11 := WholeF.below (WholeF.below hf11 (by (repeat (first | with_reducible exact Below.refl _ _ | with_reducible assumption | with_reducible refine Below.drew ?_ | with_reducible refine below_alloc ?_ _)))) hb13; have hf12 := WholeF.below (WholeF.below hf12 (by (repeat (first | with_reducible exact Below.refl _ _ | with_reducible assumption | with_reducible refine Below.drew ?_ | with_reducible refine below_alloc ?_ _)))) hb13; have hbw := below_step (w := W6) (by (repeat (first | with_reducible exact Below.refl _ _ | with_reducible assumption | with_reducible refine Below.drew ?_ | with_reducible refine below_alloc ?_ _))) hb13; have hsw := hbw.size; obtain ⟨hc, hfz⟩ := bcell hbw) | (go_at_call_of 21 (Value.agg #[.slice A13 l13.length c13, .bool m13, .slice A14 l14.length c14, .bool m14]); refine ((unhide HA2) A13 c13 l13 m13 A14 c14 l14 m14 _ (WholeF.below hf13 (by (repeat (first | with_reducible exact Below.refl _ _ | with_reducible assumption | with_reducible refine Below.drew ?_ | with_reducible refine below_alloc ?_ _)))) (WholeF.below hf14 (by (repeat (first | with_reducible exact Below.refl _ _ | with_reducible assumption | with_reducible refine Below.drew ?_ | with_reducible refine below_alloc ?_ _))))).mono ?_; rintro e w' ⟨A15, c15, l15, m15, A16, c16, l16, m16, rfl, hf15, hf16, hb15⟩; have hf11 := WholeF.below (WholeF.below hf11 (by (repeat (first | with_reducible exact Below.refl _ _ | with_reducible assumption | with_reducible refine Below.drew ?_ | with_reducible refine below_alloc ?_ _)))) hb15; have hf12 := WholeF.below (WholeF.below hf12 (by (repeat (first | with_reducible exact Below.refl _ _ | with_reducible assumption | with_reducible refine Below.drew ?_ | with_reducible refine below_alloc ?_ _)))) hb15; have hbw := below_step (w := W6) (by (repeat (first | with_reducible exact Below.refl _ _ | with_reducible assumption | with_reducible refine Below.drew ?_ | with_reducible refine below_alloc ?_ _))) hb15; have hsw := hbw.size; obtain ⟨hc, hfz⟩ := bcell hbw) | (go_at_call_of 16 (Value.agg #[.slice A11 l11.length c11, .bool m11, .slice A12 l12.length c12, .bool m12]); refine ((unhide HCM) A11 c11 l11 m11 A12 c12 l12 m12 A15 c15 l15 m15 A16 c16 l16 m16 _ (WholeF.below hf11 (by (repeat (first | with_reducible exact Below.refl _ _ | with_reducible assumption | with_reducible refine Below.drew ?_ | with_reducible refine below_alloc ?_ _)))) (WholeF.below hf12 (by (repeat (first | with_reducible exact Below.refl _ _ | with_reducible assumption | with_reducible refine Below.drew ?_ | with_reducible refine below_alloc ?_ _)))) (WholeF.below hf15 (by (repeat (first | with_reducible exact Below.refl _ _ | with_reducible assumption | with_reducible refine Below.drew ?_ | with_reducible refine below_alloc ?_ _)))) (WholeF.below hf16 (by (repeat (first | with_reducible exact Below.refl _ _ | with_reducible assumption | with_reducible refine Below.drew ?_ | with_reducible refine below_alloc ?_ _))))).mono ?_; rintro e w' ⟨rfl, hb17⟩; have hbw := below_step (w := W6) (by (repeat (first | with_reducible exact Below.refl _ _ | with_reducible assumption | with_reducible refine Below.drew ?_ | with_reducible refine below_alloc ?_ _))) hb17; have hsw := hbw.size; obtain ⟨hc, hfz⟩ := bcell hbw) | (go_at_call 13; refine ((unhide HKN) _ ((unhide HT).below (below_step' HB.out (by (repeat (first | with_reducible exact Below.refl _ _ | with_reducible assumption | with_reducible refine Below.drew ?_ | with_reducible refine below_alloc ?_ _)))))).mono ?_; rintro e w' ⟨rfl, hb18⟩; have hbw := below_step (w := W6) (by (repeat (first | with_reducible exact Below.refl _ _ | with_reducible assumption | with_reducible refine Below.drew ?_ | with_reducible refine below_alloc ?_ _))) hb18; have hsw := hbw.size; obtain ⟨hc, hfz⟩ := bcell hbw))
        have hb9 := below_step' HB.out hbw
        clear hc hfz hbw KEEP
        go_wp2_with fail
        all_goals first | go_ret | skip
        exact ⟨rfl, hb9⟩

end Go.Proofs.YtadclbankpmebaaDoor
/- The search for both neighbours: the walk. -/
namespace Go.Proofs.YtadclbankpmebaaDoor
open Go.RowKit

/-- What the search hands back. -/
def NearR (w : World) (N D m : Int) (e' : Ending) (w' : World) : Prop := (∃ ln ld c e d s u, Wd.NearEnd N D m ln ld c e d s u ∧ ((s = -1 ∧ e' = .returned (.tuple #[(Value.agg #[.int .i64 ln, .int .i64 ld]), (Value.agg #[.int .i64 c, .int .i64 e])])) ∨ (s = 1 ∧ e' = .returned (.tuple #[(Value.agg #[.int .i64 c, .int .i64 e]), (Value.agg #[.int .i64 ln, .int .i64 ld])])))) ∧ Below w.heap.size w w'
set_option maxRecDepth 100000 in
set_option maxHeartbeats 16000000 in
theorem nb_any (N D m : Int) (w : World) (hT : Tab w) (ok : Wd.okR N D) (hm1 : 1 ≤ m) (hmD : m < D) :
    Calls Tryd.prog 49 #[(Value.agg #[.int .i64 N, .int .i64 D]), .int .i64 m] w fun e' w' => NearR w N D m e' w' := by
  have HT := hide hT
  have HOK := hide ok; have HM := hide (And.intro hm1 hmD)
  have HST := hide (Wd.NearSt.start ok hm1)
  clear hT
  go_enter Tryd.func49, Tryd.ntmps49
  go_wp2_with fail
  go_quiet (fail)
  go_wp2_with fail
  go_loopw [8, 9] (fun nv dv wr => ∃ bn bd ln ld n d s : Int, nv = .int .i64 n ∧ dv = .int .i64 d ∧ NbG w wr N D bn bd ln ld ∧ Hid (Wd.NearSt N D m bn bd ln ld n d s)) (fun _ dv _ => (intOf dv).toNat)
  case atStart => exact ⟨0, 1, 1, 0, N, D, 1, rfl, rfl, nbg_start w N D _, unhide HST⟩
  case round =>
    obtain ⟨bn, bd, ln, ld, n, d, s, rfl, rfl, hw, HS⟩ := hrel
    obtain ⟨a, ha⟩ : ∃ a, a = n / d := ⟨_, rfl⟩
    obtain ⟨nx, hx⟩ : ∃ nx, nx = bn + a * ln := ⟨_, rfl⟩
    obtain ⟨ny, hy⟩ : ∃ ny, ny = bd + a * ld := ⟨_, rfl⟩
    have hnx := HS.out.nx ok hmD ha hx hy
    have hdp := HS.out.dp; have hnb := HS.out.nb; have hdb := HS.out.db; have hok := ok
    obtain ⟨o1, o2, o3, o4, _⟩ := hok
    have hnxb := hnx.nxb; have hkc := hnx.kc; have hkd := hnx.kd; have hny0 := hnx.ny0; have hnyD := hnx.nyD
    have HF := hide (fun W => fdiv_any n d W (by omega) (by omega) hdp (by omega))
    rw [← ha] at HF
    have HMD := hide (fun W => med_any bn bd ln ld a (a * ln) (a * ld) nx ny W rfl rfl hx.symm hy.symm (by omega) (by omega) (by omega) (by omega))
    have b0 : wr.cell? ⟨w.heap.size + 1 + 1 + 1, 0, none⟩ = some (.int .i64 bn) := cells_of hw.bef 0
    have b1 : wr.cell? ⟨w.heap.size + 1 + 1 + 1, 1, none⟩ = some (.int .i64 bd) := cells_of hw.bef 1
    have l0 : wr.cell? ⟨w.heap.size + 1 + 1 + 1 + 1, 0, none⟩ = some (.int .i64 ln) := cells_of hw.last 0
    have l1 : wr.cell? ⟨w.heap.size + 1 + 1 + 1 + 1, 1, none⟩ = some (.int .i64 ld) := cells_of hw.last 1
    have HW := hide hw
    by_cases hlt : m < ny
    · obtain ⟨t, ht⟩ : ∃ t, t = (m - bd) / ld := ⟨_, rfl⟩
      obtain ⟨c, hc_⟩ : ∃ c, c = bn + t * ln := ⟨_, rfl⟩
      obtain ⟨e, he_⟩ : ∃ e, e = bd + t * ld := ⟨_, rfl⟩
      obtain ⟨hend, t0, t1, tl, td⟩ := HS.out.stop ok hm1 hmD ha hx hy hlt ht hc_ he_
      obtain ⟨okc, okl⟩ := end_ok hend ok hmD
      have hld := hend.ld1
      have hbm := HS.out.bm; have hb0 := HS.out.inv.bd0; have hlm := HS.out.lm
      have HM3 := hide (fun W => med_any bn bd ln ld t (t * ln) (t * ld) c e W rfl rfl hc_.symm he_.symm (by omega) (by omega) (by have := okc.2.2.1; have := okc.2.2.2.1; omega) (by have := okc.1; have := okc.2.1; omega))
      have HO1 := hide (fun W => rof_any c e W (by have := okc.2.2.1; omega) (by have := okc.2.2.2.1; omega) (by have := okc.1; omega) (by have := okc.2.1; omega))
      have HO2 := hide (fun W => rof_any N D W (by omega) (by omega) (by omega) (by omega))
      obtain ⟨e1, e2⟩ := Wd.qR_ok okc
      obtain ⟨e3, e4⟩ := Wd.qR_ok ok
      have hcc := opc_cmp w (Wd.qR c e) (Wd.qR N D) (okR_sz okc) (okR_sz ok) (by unfold lim; omega)
      unfold OpC at hcc
      rw [e1, e2, e3, e4] at hcc
      have hsg : (s = -1 ∧ sgn (c * D - N * e) = 1) ∨ (s = 1 ∧ sgn (c * D - N * e) = -1) := by
        have h2 := hend.far2; have h3 := hend.up
        have i1 : D * c = c * D := Int.mul_comm D c
        rcases hend.sgn with e | e
        · exact .inr ⟨e, by unfold sgn; rw [e, Int.one_mul] at h2; rw [if_pos (by omega)]⟩
        · exact .inl ⟨e, by unfold sgn; rw [e] at h2; rw [if_neg (by omega), if_pos (by omega)]⟩
      have q1 : IntKind.i64.wrap (m - bd) = m - bd := IntWalk.i64_in _ (by omega)
      have q1' : wrap64 (m - bd) = m - bd := IntWalk.wrap64_in _ (by omega)
      have q2 : (m - bd).tdiv ld = t := by rw [ht]; exact Int.tdiv_eq_ediv_of_nonneg (by omega)
      have q3 : IntKind.i64.wrap t = t := IntWalk.i64_in _ (by omega)
      have q3' : wrap64 t = t := IntWalk.wrap64_in _ (by omega)
      have q4 : (ld == 0) = false := beq_eq_false_iff_ne.2 (by omega)
      have q5 : ¬ ld = 0 := by omega
      have q6 : decide (m < ny) = true := decide_eq_true hlt
      have HEND := hide hend; have HSG := hide hsg; have HCC := hide hcc
      clear hend hsg hcc okc okl e1 e2 e3 e4 t0 t1 tl td hld hbm hb0 hlm hlt ht hc_ he_ hnx hdp hnb hdb o1 o2 o3 o4 hnxb hkc hkd hny0 hnyD ha hx hy hw HS ok hm1 hmD
      go_wp2_with fail
      refine ((unhide HF) _).mono ?_
      rintro e' w1 ⟨rfl, hW1⟩
      obtain rfl : wr = w1 := hW1.symm
      clear hW1
      dsimp only
      go_wp2_with fail
      refine ((unhide HMD) _).mono ?_
      rintro e' w2 ⟨rfl, hb⟩
      have hw2 := ((unhide HW).step hb).step (below_alloc (Below.refl _ _) (.cells #[.int .i64 nx, .int .i64 ny] 23))
      have hn := heap_alloc_new w2 (.cells #[.int .i64 nx, .int .i64 ny] 23)
      clear b0 b1 l0 l1 hb HW
      have d1 : (w2.alloc (.cells #[.int .i64 nx, .int .i64 ny] 23)).cell? ⟨w2.heap.size, 1, none⟩ = some (.int .i64 ny) := cells_of hn 1
      have HW2 := hide hw2
      clear hw2 hn
      go_upto_region 5 with fail
      generalize w2.alloc (.cells #[.int .i64 nx, .int .i64 ny] 23) = w3 at *
      go_upto_region 8 with fail
      have c0 : w3.cell? ⟨w.heap.size + 1 + 1 + 1 + 1, 0, none⟩ = some (.int .i64 ln) := cells_of (unhide HW2).last 0
      have c1 : w3.cell? ⟨w.heap.size + 1 + 1 + 1 + 1, 1, none⟩ = some (.int .i64 ld) := cells_of (unhide HW2).last 1
      have c2 : w3.cell? ⟨w.heap.size + 1 + 1 + 1, 0, none⟩ = some (.int .i64 bn) := cells_of (unhide HW2).bef 0
      have c3 : w3.cell? ⟨w.heap.size + 1 + 1 + 1, 1, none⟩ = some (.int .i64 bd) := cells_of (unhide HW2).bef 1
      have q4_ : w.heap.size + 1 + 1 + 1 + 1 < w3.heap.size := lt_of_block (unhide HW2).last
      have q3_ : w.heap.size + 1 + 1 + 1 < w3.heap.size := lt_of_block (unhide HW2).bef
      have KEEP := hide (show ∀ X, Below w3.heap.size w3 X → X.cell? ⟨w.heap.size + 1 + 1 + 1 + 1, 0, none⟩ = some (.int .i64 ln) ∧ X.cell? ⟨w.heap.size + 1 + 1 + 1 + 1, 1, none⟩ = some (.int .i64 ld) ∧ X.cell? ⟨w.heap.size + 1 + 1 + 1, 0, none⟩ = some (.int .i64 bn) ∧ X.cell? ⟨w.heap.size + 1 + 1 + 1, 1, none⟩ = some (.int .i64 bd) from fun X hB => ⟨keep_cell hB q4_ c0, keep_cell hB q4_ c1, keep_cell hB q3_ c2, keep_cell hB q3_ c3⟩)
      clear d1 q3_ q4_ c0 c1 c2 c3
      go_cut [12] (fun s12 wx => ∃ b12 : Nat, s12 = .pointer (some ⟨b12, 0, none⟩) ∧ wx.heap[b12]? = some (.cells #[.int .i64 c, .int .i64 e] 23 (0, 0)) ∧ Below w3.heap.size w3 wx ∧ w3.heap.size ≤ b12)
      case first =>
        go_region_held3 (fun w' => w'.cell? ⟨w.heap.size + 1 + 1 + 1 + 1, 0, none⟩ = some (.int .i64 ln) ∧ w'.cell? ⟨w.heap.size + 1 + 1 + 1 + 1, 1, none⟩ = some (.int .i64 ld) ∧ w'.cell? ⟨w.heap.size + 1 + 1 + 1, 0, none⟩ = some (.int .i64 bn) ∧ w'.cell? ⟨w.heap.size + 1 + 1 + 1, 1, none⟩ = some (.int .i64 bd)) (exact (unhide KEEP) _ (by (repeat (first | with_reducible exact Below.refl _ _ | with_reducible assumption | with_reducible refine Below.drew ?_ | with_reducible refine below_alloc ?_ _ | (with_reducible refine below_set ?_ ?_ _ _; rotate_left; (first | omega | (simp <;> omega))))))) ((go_at_call 88; refine ((unhide HM3) _).mono ?_; rintro e' w' ⟨rfl, hb⟩; have hbw := below_step (w := w3) (by (repeat (first | with_reducible exact Below.refl _ _ | with_reducible assumption | with_reducible refine Below.drew ?_ | with_reducible refine below_alloc ?_ _))) hb; have hsw := hbw.size; (try (have un : w'.heap[w3.heap.size]? = some (.cells #[.int .i64 0, .int .i64 0] 23 (0, 0)) := (by first | exact fresh_block hb | exact fresh_drew hb); have un0 : w'.cell? ⟨w3.heap.size, 0, none⟩ = some (.int .i64 0) := cells_of un 0; have un1 : w'.cell? ⟨w3.heap.size, 1, none⟩ = some (.int .i64 0) := cells_of un 1; have un2 := unfrozen_of un 0; have un3 := unfrozen_of un 1))))
        all_goals
          go_wp2_with fail
          go_meet
          first
            | exact ⟨_, rfl, heap_alloc_new w' _, below_alloc hbw _, hsw⟩
            | exact ⟨_, rfl, set2_block un, hbw.grown (set2_grown _ _ _ _) hbw.size (fun k hk => by injection hk with hk; omega), Nat.le_refl _⟩
      case rest =>
        revert hcut
        generalize wc = W5
        intro hcut
        obtain ⟨b12, rfl, hn12, hb5, ob⟩ := hcut
        have ol := lt_of_block (unhide HW2).last
        have i1 : ¬ (b12 = w.heap.size + 1) := by omega
        have i2 : ¬ (w.heap.size + 1 = b12) := by omega
        have i3 : ¬ (b12 = w.heap.size + 1 + 1) := by omega
        have i4 : ¬ (w.heap.size + 1 + 1 = b12) := by omega
        clear ob ol
        have hw5 := (unhide HW2).step hb5
        have a0 : W5.cell? ⟨b12, 0, none⟩ = some (.int .i64 c) := cells_of hn12 0
        have a1 : W5.cell? ⟨b12, 1, none⟩ = some (.int .i64 e) := cells_of hn12 1
        have x0 : W5.cell? ⟨w.heap.size, 0, none⟩ = some (.int .i64 N) := cells_of hw5.x 0
        have x1 : W5.cell? ⟨w.heap.size, 1, none⟩ = some (.int .i64 D) := cells_of hw5.x 1
        have q12 := lt_of_block hn12
        have qx := lt_of_block hw5.x
        have HW5 := hide hw5
        have HN12 := hide hn12
        clear KEEP HW2 hb5 hw5 hn12
        have KEEP := hide (show ∀ X, Below W5.heap.size W5 X → X.cell? ⟨b12, 0, none⟩ = some (.int .i64 c) ∧ X.cell? ⟨b12, 1, none⟩ = some (.int .i64 e) ∧ X.cell? ⟨w.heap.size, 0, none⟩ = some (.int .i64 N) ∧ X.cell? ⟨w.heap.size, 1, none⟩ = some (.int .i64 D) from fun X hB => ⟨keep_cell hB q12 a0, keep_cell hB q12 a1, keep_cell hB qx x0, keep_cell hB qx x1⟩)
        obtain ⟨sg, hsge⟩ : ∃ sg, sg = sgn (c * D - N * e) := ⟨_, rfl⟩
        rw [← hsge] at HCC HSG
        clear hsge
        go_upto_region 9 with fail
        go_region_held3 (fun w' => w'.cell? ⟨b12, 0, none⟩ = some (.int .i64 c) ∧ w'.cell? ⟨b12, 1, none⟩ = some (.int .i64 e) ∧ w'.cell? ⟨w.heap.size, 0, none⟩ = some (.int .i64 N) ∧ w'.cell? ⟨w.heap.size, 1, none⟩ = some (.int .i64 D)) (exact (unhide KEEP) _ (by (repeat (first | with_reducible exact Below.refl _ _ | with_reducible assumption | with_reducible refine Below.drew ?_ | with_reducible refine below_alloc ?_ _)))) (first | (go_at_call_of 35 (Value.agg #[.int .i64 c, .int .i64 e]); refine ((unhide HO1) _).mono ?_; rintro e' w' ⟨s5, neg5, A5, c5, l5, s6, neg6, A6, c6, l6, rfl, hf5, hf6, hb5⟩; have hbw := below_step (w := W5) (by (repeat (first | with_reducible exact Below.refl _ _ | with_reducible assumption | with_reducible refine Below.drew ?_ | with_reducible refine below_alloc ?_ _))) hb5; have hsw := hbw.size; obtain ⟨hc, hfz⟩ := bcell hbw) | (go_at_call_of 35 (Value.agg #[.int .i64 N, .int .i64 D]); refine ((unhide HO2) _).mono ?_; rintro e' w' ⟨s7, neg7, A7, c7, l7, s8, neg8, A8, c8, l8, rfl, hf7, hf8, hb7⟩; have hf5 := IntF.below (IntF.below hf5 (by (repeat (first | with_reducible exact Below.refl _ _ | with_reducible assumption | with_reducible refine Below.drew ?_ | with_reducible refine below_alloc ?_ _)))) hb7; have hf6 := IntF.below (IntF.below hf6 (by (repeat (first | with_reducible exact Below.refl _ _ | with_reducible assumption | with_reducible refine Below.drew ?_ | with_reducible refine below_alloc ?_ _)))) hb7; have hbw := below_step (w := W5) (by (repeat (first | with_reducible exact Below.refl _ _ | with_reducible assumption | with_reducible refine Below.drew ?_ | with_reducible refine below_alloc ?_ _))) hb7; have hsw := hbw.size; obtain ⟨hc, hfz⟩ := bcell hbw) | (go_at_call_of 36 (Value.agg #[.int .i64 s5, .bool neg5, .slice A5 l5.length c5, .int .i64 s6, .bool neg6, .slice A6 l6.length c6]); refine ((unhide HCC) s5 neg5 A5 c5 l5 s6 neg6 A6 c6 l6 s7 neg7 A7 c7 l7 s8 neg8 A8 c8 l8 _ (below_step' (unhide HW5).below (by (repeat (first | with_reducible exact Below.refl _ _ | with_reducible assumption | with_reducible refine Below.drew ?_ | with_reducible refine below_alloc ?_ _)))) (IntF.below hf5 (by (repeat (first | with_reducible exact Below.refl _ _ | with_reducible assumption | with_reducible refine Below.drew ?_ | with_reducible refine below_alloc ?_ _)))) (IntF.below hf6 (by (repeat (first | with_reducible exact Below.refl _ _ | with_reducible assumption | with_reducible refine Below.drew ?_ | with_reducible refine below_alloc ?_ _)))) (IntF.below hf7 (by (repeat (first | with_reducible exact Below.refl _ _ | with_reducible assumption | with_reducible refine Below.drew ?_ | with_reducible refine below_alloc ?_ _)))) (IntF.below hf8 (by (repeat (first | with_reducible exact Below.refl _ _ | with_reducible assumption | with_reducible refine Below.drew ?_ | with_reducible refine below_alloc ?_ _))))).mono ?_; rintro e' w' ⟨rfl, hb9⟩; have hbw := below_step (w := W5) (by (repeat (first | with_reducible exact Below.refl _ _ | with_reducible assumption | with_reducible refine Below.drew ?_ | with_reducible refine below_alloc ?_ _))) hb9; have hsw := hbw.size; obtain ⟨hc, hfz⟩ := bcell hbw))
        clear hf5 hf6 hf7 hf8 hc hfz a0 a1 x0 x1 KEEP
        have hw6 := (unhide HW5).step hbw
        have hn6 := (hbw.block _ (lt_of_block (unhide HN12))).trans (unhide HN12)
        have a0 : w'.cell? ⟨b12, 0, none⟩ = some (.int .i64 c) := cells_of hn6 0
        have a1 : w'.cell? ⟨b12, 1, none⟩ = some (.int .i64 e) := cells_of hn6 1
        have c0 : w'.cell? ⟨w.heap.size + 1 + 1 + 1 + 1, 0, none⟩ = some (.int .i64 ln) := cells_of hw6.last 0
        have c1 : w'.cell? ⟨w.heap.size + 1 + 1 + 1 + 1, 1, none⟩ = some (.int .i64 ld) := cells_of hw6.last 1
        have r0 : w'.cell? ⟨w.heap.size + 1, 0, none⟩ = some (.int .i64 0) := cells_of hw6.lo 0
        have r1 : w'.cell? ⟨w.heap.size + 1, 1, none⟩ = some (.int .i64 0) := cells_of hw6.lo 1
        have r2 : w'.cell? ⟨w.heap.size + 1 + 1, 0, none⟩ = some (.int .i64 0) := cells_of hw6.hi 0
        have r3 : w'.cell? ⟨w.heap.size + 1 + 1, 1, none⟩ = some (.int .i64 0) := cells_of hw6.hi 1
        have f0 := unfrozen_of hw6.lo 0; have f1 := unfrozen_of hw6.lo 1
        have f2 := unfrozen_of hw6.hi 0; have f3 := unfrozen_of hw6.hi 1
        have hb9' := hw6.below
        have hs : w.heap.size + 1 + 1 < w'.heap.size := lt_of_block hw6.hi
        clear hw6 hn6 HW5 HN12 hbw
        rcases unhide HSG with ⟨hs1, rfl⟩ | ⟨hs1, rfl⟩
        · have HS1 := Lib.hid hs1
          clear hs1 HSG
          go_wp2_with fail
          go_region
          all_goals go_wp2_with fail
          exact bodyPost_ret (v := .tuple #[(Value.agg #[.int .i64 ln, .int .i64 ld]), (Value.agg #[.int .i64 c, .int .i64 e])]) (by simp [results, Tryd.results49, go_sem, r0, r1, r2, r3, hs]) rfl
            ⟨⟨ln, ld, c, e, d, s, _, unhide HEND, .inl ⟨HS1.out, rfl⟩⟩, ((hb9'.grown (set2_grown _ _ _ _) hb9'.size (fun k hk => by injection hk with hk; omega)).grown (set2_grown _ _ _ _) (Nat.le_trans hb9'.size (set2_grown w' (w.heap.size + 1) (.int .i64 ln) (.int .i64 ld)).size) (fun k hk => by injection hk with hk; omega)).drew⟩
        · have HS1 := Lib.hid hs1
          clear hs1 HSG
          go_wp2_with fail
          go_region
          all_goals go_wp2_with fail
          exact bodyPost_ret (v := .tuple #[(Value.agg #[.int .i64 c, .int .i64 e]), (Value.agg #[.int .i64 ln, .int .i64 ld])]) (by simp [results, Tryd.results49, go_sem, r0, r1, r2, r3, hs]) rfl
            ⟨⟨ln, ld, c, e, d, s, _, unhide HEND, .inr ⟨HS1.out, rfl⟩⟩, ((hb9'.grown (set2_grown _ _ _ _) hb9'.size (fun k hk => by injection hk with hk; omega)).grown (set2_grown _ _ _ _) (Nat.le_trans hb9'.size (set2_grown w' (w.heap.size + 1) (.int .i64 c) (.int .i64 e)).size) (fun k hk => by injection hk with hk; omega)).drew⟩
    · have hst := HS.out.next ok hmD ha hx hy (by omega)
      have q1a : wrap64 (a * d) = a * d := IntWalk.wrap64_in _ (by have := HS.out.inv.d0; have e3 := Int.mul_ediv_add_emod n d; have e1 := Int.emod_nonneg n (show d ≠ 0 by omega); have e2 := Int.emod_lt_of_pos n hdp; rw [← ha, Int.mul_comm] at e3; generalize a * d = v at *; omega)
      have q1b : IntKind.i64.wrap (a * d) = a * d := IntWalk.i64_in _ (by have e3 := Int.mul_ediv_add_emod n d; have e1 := Int.emod_nonneg n (show d ≠ 0 by omega); have e2 := Int.emod_lt_of_pos n hdp; rw [← ha, Int.mul_comm] at e3; generalize a * d = v at *; omega)
      have hrd := hst.dp; have hrb := hst.way
      obtain ⟨p, hp⟩ : ∃ p, p = a * d := ⟨_, rfl⟩
      have q1 : wrap64 (a * d) = p := q1a.trans hp.symm
      have q1' : IntKind.i64.wrap (a * d) = p := q1b.trans hp.symm
      clear q1a q1b
      rw [← hp] at hst hrd hrb
      obtain ⟨r, hr⟩ : ∃ r, r = n - p := ⟨_, rfl⟩
      rw [← hr] at hst hrd hrb
      have q2 : wrap64 (n - p) = r := by rw [← hr]; exact IntWalk.wrap64_in _ (by omega)
      have q2' : IntKind.i64.wrap (n - p) = r := by rw [← hr]; exact IntWalk.i64_in _ (by omega)
      have q3 : wrap64 (n - a * d) = r := by rw [← hp]; exact q2
      have q6 : decide (m < ny) = false := decide_eq_false hlt
      have HN := hide hst
      have HMEA := hide (show r.toNat < d.toNat by omega)
      have EP := Lib.hid hp
      clear hst hrd hrb hr hlt hnx hdp hnb hdb o1 o2 o3 o4 hnxb hkc hkd hny0 hnyD ha hx hy hw HS ok hm1 hmD
      go_wp2_with fail
      refine ((unhide HF) _).mono ?_
      rintro e w1 ⟨rfl, hW1⟩
      obtain rfl : wr = w1 := hW1.symm
      clear hW1
      dsimp only
      go_wp2_with fail
      refine ((unhide HMD) _).mono ?_
      rintro e w2 ⟨rfl, hb⟩
      have hw2 := ((unhide HW).step hb).step (below_alloc (Below.refl _ _) (.cells #[.int .i64 nx, .int .i64 ny] 23))
      have hn := heap_alloc_new w2 (.cells #[.int .i64 nx, .int .i64 ny] 23)
      have HN2 := hide (show w.heap.size + 1 + 1 + 1 + 1 < w2.heap.size from lt_of_block ((unhide HW).step hb).last)
      clear b0 b1 l0 l1 hb HW
      have c0 : (w2.alloc (.cells #[.int .i64 nx, .int .i64 ny] 23)).cell? ⟨w.heap.size + 1 + 1 + 1 + 1, 0, none⟩ = some (.int .i64 ln) := cells_of hw2.last 0
      have c1 : (w2.alloc (.cells #[.int .i64 nx, .int .i64 ny] 23)).cell? ⟨w.heap.size + 1 + 1 + 1 + 1, 1, none⟩ = some (.int .i64 ld) := cells_of hw2.last 1
      have c2 : (w2.alloc (.cells #[.int .i64 nx, .int .i64 ny] 23)).cell? ⟨w.heap.size + 1 + 1 + 1, 0, none⟩ = some (.int .i64 bn) := cells_of hw2.bef 0
      have c3 : (w2.alloc (.cells #[.int .i64 nx, .int .i64 ny] 23)).cell? ⟨w.heap.size + 1 + 1 + 1, 1, none⟩ = some (.int .i64 bd) := cells_of hw2.bef 1
      have d0_ : (w2.alloc (.cells #[.int .i64 nx, .int .i64 ny] 23)).cell? ⟨w2.heap.size, 0, none⟩ = some (.int .i64 nx) := cells_of hn 0
      have d1_ : (w2.alloc (.cells #[.int .i64 nx, .int .i64 ny] 23)).cell? ⟨w2.heap.size, 1, none⟩ = some (.int .i64 ny) := cells_of hn 1
      have f0 := unfrozen_of hw2.last 0
      have f1 := unfrozen_of hw2.last 1
      have f2 := unfrozen_of hw2.bef 0
      have f3 := unfrozen_of hw2.bef 1
      have HW2 := hide hw2
      clear hw2 hn
      go_upto_region 5 with fail
      generalize w2.alloc (.cells #[.int .i64 nx, .int .i64 ny] 23) = w3 at *
      obtain ⟨p_, hp_⟩ : ∃ p, p = w2.heap.size := ⟨_, rfl⟩
      rw [← hp_] at d0_ d1_ ⊢
      have hpn : w.heap.size + 1 + 1 + 1 + 1 < p_ := by rw [hp_]; exact unhide HN2
      clear HN2 hp_
      go_wp2_with fail
      go_region
      all_goals go_wp2_with fail
      go_roundw
      case rel => exact ⟨ln, ld, nx, ny, d, r, -s, by first | rfl | go_num, by (rw [q3]), ((unhide HW2).step (Below.refl _ _).drew).set ln ld nx ny, HN⟩
      case measure => first | exact unhide HMEA | (rw [q3]; exact unhide HMEA) | (dsimp only; rw [q3]; exact unhide HMEA)
end Go.Proofs.YtadclbankpmebaaDoor
/- Near: which neighbour is nearer; the ways ahead of the search. -/
namespace Go.Proofs.YtadclbankpmebaaDoor
open Go.RowKit

theorem sgn_mul_pos {z p : Int} (hp : 0 < p) : sgn (z * p) = sgn z := by
  unfold sgn
  rcases Int.lt_trichotomy z 0 with h | h | h
  · rw [if_pos h, if_pos (Int.mul_neg_of_neg_of_pos h hp)]
  · rw [h, Int.zero_mul]
  · have := Int.mul_pos h hp
    rw [if_neg (show ¬ z < 0 by omega), if_pos h, if_neg (show ¬ z * p < 0 by omega), if_pos this]
theorem sgn_divInt {x y x' y' : Int} (hy : 0 < y) (hy' : 0 < y') :
    sgn ((Rat.divInt x y).num * ((Rat.divInt x' y').den : Int) - (Rat.divInt x' y').num * ((Rat.divInt x y).den : Int)) = sgn (x * y' - x' * y) := by
  have A : (Rat.divInt x y).num * y = x * ((Rat.divInt x y).den : Int) := (Rat.divInt_eq_divInt_iff (by have := (Rat.divInt x y).den_nz; omega) (by omega)).1 (Rat.num_divInt_den (Rat.divInt x y))
  have B : (Rat.divInt x' y').num * y' = x' * ((Rat.divInt x' y').den : Int) := (Rat.divInt_eq_divInt_iff (by have := (Rat.divInt x' y').den_nz; omega) (by omega)).1 (Rat.num_divInt_den (Rat.divInt x' y'))
  have p1 : 0 < ((Rat.divInt x y).den : Int) := by have := (Rat.divInt x y).den_pos; omega
  have p2 : 0 < ((Rat.divInt x' y').den : Int) := by have := (Rat.divInt x' y').den_pos; omega
  generalize (Rat.divInt x y).num = n1 at *
  generalize ((Rat.divInt x y).den : Int) = d1 at *
  generalize (Rat.divInt x' y').num = n2 at *
  generalize ((Rat.divInt x' y').den : Int) = d2 at *
  rw [← sgn_mul_pos (z := n1 * d2 - n2 * d1) (Int.mul_pos hy hy'), ← sgn_mul_pos (z := x * y' - x' * y) (Int.mul_pos p1 p2), Int.sub_mul, Int.sub_mul]
  have i1 : n1 * d2 * (y * y') = x * y' * (d1 * d2) := by
    calc n1 * d2 * (y * y') = n1 * y * (d2 * y') := by ac_rfl
      _ = x * d1 * (d2 * y') := by rw [A]
      _ = x * y' * (d1 * d2) := by ac_rfl
  have i2 : n2 * d1 * (y * y') = x' * y * (d1 * d2) := by
    calc n2 * d1 * (y * y') = n2 * y' * (d1 * y) := by ac_rfl
      _ = x' * d2 * (d1 * y) := by rw [B]
      _ = x' * y * (d1 * d2) := by ac_rfl
  rw [i1, i2]
theorem sgn_far {N D a b c e : Int} (hD : 0 < D) (hb : 0 < b) (he : 0 < e) :
    sgn ((Wd.qR N D - Wd.qR a b).num * (Wd.qR c e - Wd.qR N D).den - (Wd.qR c e - Wd.qR N D).num * (Wd.qR N D - Wd.qR a b).den) = sgn ((N * b - a * D) * e - (c * D - N * e) * b) := by
  have i1 : (N * b - a * D) * (e * D) = (N * b - a * D) * e * D := by ac_rfl
  have i2 : (c * D - N * e) * (D * b) = (c * D - N * e) * b * D := by ac_rfl
  rw [Wd.qR_sub hD hb, Wd.qR_sub he hD, sgn_divInt (Int.mul_pos hD hb) (Int.mul_pos he hD), ← sgn_mul_pos (z := (N * b - a * D) * e - (c * D - N * e) * b) hD, Int.sub_mul ((N * b - a * D) * e), i1, i2]
theorem near_ways (N D a b c e : Int) (hD : 0 < D) (hb : 0 < b) (he : 0 < e) :
    (sgn ((Wd.qR N D - Wd.qR a b).num * (Wd.qR c e - Wd.qR N D).den - (Wd.qR c e - Wd.qR N D).num * (Wd.qR N D - Wd.qR a b).den) = -1 ∧ Wd.pick N D a b c e = (a, b)) ∨
    (sgn ((Wd.qR N D - Wd.qR a b).num * (Wd.qR c e - Wd.qR N D).den - (Wd.qR c e - Wd.qR N D).num * (Wd.qR N D - Wd.qR a b).den) = 0 ∧ b ≤ e ∧ Wd.pick N D a b c e = (a, b)) ∨
    (sgn ((Wd.qR N D - Wd.qR a b).num * (Wd.qR c e - Wd.qR N D).den - (Wd.qR c e - Wd.qR N D).num * (Wd.qR N D - Wd.qR a b).den) = 0 ∧ ¬ b ≤ e ∧ Wd.pick N D a b c e = (c, e)) ∨
    (sgn ((Wd.qR N D - Wd.qR a b).num * (Wd.qR c e - Wd.qR N D).den - (Wd.qR c e - Wd.qR N D).num * (Wd.qR N D - Wd.qR a b).den) = 1 ∧ Wd.pick N D a b c e = (c, e)) := by
  rw [sgn_far hD hb he]
  unfold Wd.pick sgn
  generalize (N * b - a * D) * e = x
  generalize (c * D - N * e) * b = y
  rcases Int.lt_trichotomy x y with h | h | h
  · exact .inl ⟨if_pos (by omega), if_pos (.inl h)⟩
  · by_cases hbe : b ≤ e
    · exact .inr (.inl ⟨by rw [if_neg (by omega), if_neg (by omega)], hbe, if_pos (.inr ⟨h, hbe⟩)⟩)
    · exact .inr (.inr (.inl ⟨by rw [if_neg (by omega), if_neg (by omega)], hbe, if_neg (by omega)⟩))
  · exact .inr (.inr (.inr ⟨by rw [if_neg (by omega), if_pos (by omega)], if_neg (by omega)⟩))
/-- The search's contract, with both neighbours. -/
theorem nb_sides (N D m : Int) (w : World) (hT : Tab w) (ok : Wd.okR N D) (hm1 : 1 ≤ m) (hmD : m < D) :
    Calls Tryd.prog 49 #[(Value.agg #[.int .i64 N, .int .i64 D]), .int .i64 m] w fun e' w' => ∃ a b c e, Wd.Sides N D m a b c e ∧ Wd.okR a b ∧ Wd.okR c e ∧ e' = .returned (.tuple #[(Value.agg #[.int .i64 a, .int .i64 b]), (Value.agg #[.int .i64 c, .int .i64 e])]) ∧ Below w.heap.size w w' := by
  refine (nb_any N D m w hT ok hm1 hmD).mono ?_
  rintro e' w' ⟨⟨ln, ld, c, e, d, s, u, hend, hres⟩, hb⟩
  obtain ⟨o1, o2⟩ := end_ok hend ok hmD
  rcases hres with ⟨hs, he⟩ | ⟨hs, he⟩
  · exact ⟨ln, ld, c, e, (Wd.Sides.of_end hend).1 hs, o2, o1, he, hb⟩
  · exact ⟨c, e, ln, ld, (Wd.Sides.of_end hend).2 hs, o1, o2, he, hb⟩

set_option maxRecDepth 100000 in
set_option maxHeartbeats 16000000 in
theorem near_bad (N D m : Int) (w : World) (hT : Tab w) (ok : ¬ Wd.okR N D) :
    Calls Tryd.prog 19 #[(Value.agg #[.int .i64 N, .int .i64 D]), .int .i64 m] w fun e w' => e = .returned (.tuple #[(Value.agg #[.int .i64 0, .int .i64 0]), .int .i64 1]) ∧ Below w.heap.size w w' := by
  have HV := hide (val_any N D)
  rw [show valE N D = 1 from if_neg ok] at HV
  have HT := hide hT
  clear hT ok
  go_enter Tryd.func19, Tryd.ntmps19
  go_wp2_with fail
  obtain ⟨n0_, n1_, hsz, hw0⟩ := two_new w (.cells #[.int .i64 N, .int .i64 D] 23) (.cells #[.int .i64 0, .int .i64 0] 23)
  generalize ((w.alloc (.cells #[.int .i64 N, .int .i64 D] 23)).alloc (.cells #[.int .i64 0, .int .i64 0] 23)) = W0 at *
  clear hsz
  refine ((unhide HV) _ ((unhide HT).below hw0)).mono ?_
  rintro e W1 ⟨rfl, hb⟩
  have x1 := (hb.block _ (lt_of_block n0_)).trans n0_
  have r1 := (hb.block _ (lt_of_block n1_)).trans n1_
  have hw1 := below_step' hw0 hb
  clear n0_ n1_ hb hw0 W0
  have k0 : W1.cell? ⟨w.heap.size, 0, none⟩ = some (.int .i64 N) := cells_of x1 0
  have k1 : W1.cell? ⟨w.heap.size, 1, none⟩ = some (.int .i64 D) := cells_of x1 1
  have X1 := hide x1
  have R1 := hide r1
  clear x1 r1
  have r0 : W1.cell? ⟨w.heap.size + 1, 0, none⟩ = some (.int .i64 0) := cells_of (unhide R1) 0
  have r1 : W1.cell? ⟨w.heap.size + 1, 1, none⟩ = some (.int .i64 0) := cells_of (unhide R1) 1
  have f0 : W1.frozen? ⟨w.heap.size + 1, 0, none⟩ = false := unfrozen_of (unhide R1) 0
  have f1 : W1.frozen? ⟨w.heap.size + 1, 1, none⟩ = false := unfrozen_of (unhide R1) 1
  go_wp2_with fail
  exact bodyPost_ret (v := .tuple #[(Value.agg #[.int .i64 0, .int .i64 0]), .int .i64 1]) (by simp [results, Tryd.results19, go_sem, r0, r1]) rfl
    ⟨rfl, hw1.grown (set2_grown _ _ _ _) hw1.size (fun k hk => by injection hk with hk; omega)⟩

set_option maxRecDepth 100000 in
set_option maxHeartbeats 16000000 in
theorem near_low (N D m : Int) (w : World) (hT : Tab w) (ok : Wd.okR N D) (hm : m < 1) :
    Calls Tryd.prog 19 #[(Value.agg #[.int .i64 N, .int .i64 D]), .int .i64 m] w fun e w' => e = .returned (.tuple #[(Value.agg #[.int .i64 0, .int .i64 0]), .int .i64 1]) ∧ Below w.heap.size w w' := by
  have HV := hide (val_any N D)
  rw [show valE N D = 0 from if_pos ok] at HV
  have q0 : decide (m < 1) = true := decide_eq_true (by omega)
  clear hm
  have HT := hide hT
  clear hT ok
  go_enter Tryd.func19, Tryd.ntmps19
  go_wp2_with fail
  obtain ⟨n0_, n1_, hsz, hw0⟩ := two_new w (.cells #[.int .i64 N, .int .i64 D] 23) (.cells #[.int .i64 0, .int .i64 0] 23)
  generalize ((w.alloc (.cells #[.int .i64 N, .int .i64 D] 23)).alloc (.cells #[.int .i64 0, .int .i64 0] 23)) = W0 at *
  clear hsz
  refine ((unhide HV) _ ((unhide HT).below hw0)).mono ?_
  rintro e W1 ⟨rfl, hb⟩
  have x1 := (hb.block _ (lt_of_block n0_)).trans n0_
  have r1 := (hb.block _ (lt_of_block n1_)).trans n1_
  have hw1 := below_step' hw0 hb
  clear n0_ n1_ hb hw0 W0
  have k0 : W1.cell? ⟨w.heap.size, 0, none⟩ = some (.int .i64 N) := cells_of x1 0
  have k1 : W1.cell? ⟨w.heap.size, 1, none⟩ = some (.int .i64 D) := cells_of x1 1
  have X1 := hide x1
  have R1 := hide r1
  clear x1 r1
  have r0 : W1.cell? ⟨w.heap.size + 1, 0, none⟩ = some (.int .i64 0) := cells_of (unhide R1) 0
  have r1 : W1.cell? ⟨w.heap.size + 1, 1, none⟩ = some (.int .i64 0) := cells_of (unhide R1) 1
  have f0 : W1.frozen? ⟨w.heap.size + 1, 0, none⟩ = false := unfrozen_of (unhide R1) 0
  have f1 : W1.frozen? ⟨w.heap.size + 1, 1, none⟩ = false := unfrozen_of (unhide R1) 1
  go_wp2_with fail
  exact bodyPost_ret (v := .tuple #[(Value.agg #[.int .i64 0, .int .i64 0]), .int .i64 1]) (by simp [results, Tryd.results19, go_sem, r0, r1]) rfl
    ⟨rfl, hw1.grown (set2_grown _ _ _ _) hw1.size (fun k hk => by injection hk with hk; omega)⟩

set_option maxRecDepth 100000 in
set_option maxHeartbeats 16000000 in
theorem near_high (N D m : Int) (w : World) (hT : Tab w) (ok : Wd.okR N D) (hm : 1000000000000 < m) :
    Calls Tryd.prog 19 #[(Value.agg #[.int .i64 N, .int .i64 D]), .int .i64 m] w fun e w' => e = .returned (.tuple #[(Value.agg #[.int .i64 0, .int .i64 0]), .int .i64 1]) ∧ Below w.heap.size w w' := by
  have HV := hide (val_any N D)
  rw [show valE N D = 0 from if_pos ok] at HV
  have q0 : decide (m < 1) = false := decide_eq_false (by omega)
  have q1 : decide (1000000000000 < m) = true := decide_eq_true (by omega)
  clear hm
  have HT := hide hT
  clear hT ok
  go_enter Tryd.func19, Tryd.ntmps19
  go_wp2_with fail
  obtain ⟨n0_, n1_, hsz, hw0⟩ := two_new w (.cells #[.int .i64 N, .int .i64 D] 23) (.cells #[.int .i64 0, .int .i64 0] 23)
  generalize ((w.alloc (.cells #[.int .i64 N, .int .i64 D] 23)).alloc (.cells #[.int .i64 0, .int .i64 0] 23)) = W0 at *
  clear hsz
  refine ((unhide HV) _ ((unhide HT).below hw0)).mono ?_
  rintro e W1 ⟨rfl, hb⟩
  have x1 := (hb.block _ (lt_of_block n0_)).trans n0_
  have r1 := (hb.block _ (lt_of_block n1_)).trans n1_
  have hw1 := below_step' hw0 hb
  clear n0_ n1_ hb hw0 W0
  have k0 : W1.cell? ⟨w.heap.size, 0, none⟩ = some (.int .i64 N) := cells_of x1 0
  have k1 : W1.cell? ⟨w.heap.size, 1, none⟩ = some (.int .i64 D) := cells_of x1 1
  have X1 := hide x1
  have R1 := hide r1
  clear x1 r1
  have r0 : W1.cell? ⟨w.heap.size + 1, 0, none⟩ = some (.int .i64 0) := cells_of (unhide R1) 0
  have r1 : W1.cell? ⟨w.heap.size + 1, 1, none⟩ = some (.int .i64 0) := cells_of (unhide R1) 1
  have f0 : W1.frozen? ⟨w.heap.size + 1, 0, none⟩ = false := unfrozen_of (unhide R1) 0
  have f1 : W1.frozen? ⟨w.heap.size + 1, 1, none⟩ = false := unfrozen_of (unhide R1) 1
  go_wp2_with fail
  exact bodyPost_ret (v := .tuple #[(Value.agg #[.int .i64 0, .int .i64 0]), .int .i64 1]) (by simp [results, Tryd.results19, go_sem, r0, r1]) rfl
    ⟨rfl, hw1.grown (set2_grown _ _ _ _) hw1.size (fun k hk => by injection hk with hk; omega)⟩

set_option maxRecDepth 100000 in
set_option maxHeartbeats 16000000 in
theorem near_self (N D m : Int) (w : World) (hT : Tab w) (ok : Wd.okR N D) (hm : 1 ≤ m) (hm2 : m ≤ 1000000000000) (hD : D ≤ m) :
    Calls Tryd.prog 19 #[(Value.agg #[.int .i64 N, .int .i64 D]), .int .i64 m] w fun e w' => e = .returned (.tuple #[(Value.agg #[.int .i64 N, .int .i64 D]), .int .i64 0]) ∧ Below w.heap.size w w' := by
  have HV := hide (val_any N D)
  rw [show valE N D = 0 from if_pos ok] at HV
  have q0 : decide (m < 1) = false := decide_eq_false (by omega)
  have q1 : decide (1000000000000 < m) = false := decide_eq_false (by omega)
  have q2 : decide (D ≤ m) = true := decide_eq_true (by omega)
  clear hm hm2 hD
  have HT := hide hT
  clear hT ok
  go_enter Tryd.func19, Tryd.ntmps19
  go_wp2_with fail
  obtain ⟨n0_, n1_, hsz, hw0⟩ := two_new w (.cells #[.int .i64 N, .int .i64 D] 23) (.cells #[.int .i64 0, .int .i64 0] 23)
  generalize ((w.alloc (.cells #[.int .i64 N, .int .i64 D] 23)).alloc (.cells #[.int .i64 0, .int .i64 0] 23)) = W0 at *
  clear hsz
  refine ((unhide HV) _ ((unhide HT).below hw0)).mono ?_
  rintro e W1 ⟨rfl, hb⟩
  have x1 := (hb.block _ (lt_of_block n0_)).trans n0_
  have r1 := (hb.block _ (lt_of_block n1_)).trans n1_
  have hw1 := below_step' hw0 hb
  clear n0_ n1_ hb hw0 W0
  have k0 : W1.cell? ⟨w.heap.size, 0, none⟩ = some (.int .i64 N) := cells_of x1 0
  have k1 : W1.cell? ⟨w.heap.size, 1, none⟩ = some (.int .i64 D) := cells_of x1 1
  have X1 := hide x1
  have R1 := hide r1
  clear x1 r1
  have r0 : W1.cell? ⟨w.heap.size + 1, 0, none⟩ = some (.int .i64 0) := cells_of (unhide R1) 0
  have r1 : W1.cell? ⟨w.heap.size + 1, 1, none⟩ = some (.int .i64 0) := cells_of (unhide R1) 1
  have f0 : W1.frozen? ⟨w.heap.size + 1, 0, none⟩ = false := unfrozen_of (unhide R1) 0
  have f1 : W1.frozen? ⟨w.heap.size + 1, 1, none⟩ = false := unfrozen_of (unhide R1) 1
  go_wp2_with fail
  exact bodyPost_ret (v := .tuple #[(Value.agg #[.int .i64 N, .int .i64 D]), .int .i64 0]) (by simp [results, Tryd.results19, go_sem, r0, r1]) rfl
    ⟨rfl, hw1.grown (set2_grown _ _ _ _) hw1.size (fun k hk => by injection hk with hk; omega)⟩

end Go.Proofs.YtadclbankpmebaaDoor
/- Near, in general. -/
namespace Go.Proofs.YtadclbankpmebaaDoor
open Go.RowKit

set_option maxRecDepth 100000 in
set_option maxHeartbeats 16000000 in
theorem near_far (N D m : Int) (w : World) (hT : Tab w) (ok : Wd.okR N D) (hm : 1 ≤ m) (hm2 : m ≤ 1000000000000) (hD : m < D) :
    Calls Tryd.prog 19 #[(Value.agg #[.int .i64 N, .int .i64 D]), .int .i64 m] w fun e w' => ∃ n d, Wd.NearO N D m n d ∧ e = .returned (.tuple #[(Value.agg #[.int .i64 n, .int .i64 d]), .int .i64 0]) ∧ Below w.heap.size w w' := by
  have HV := hide (val_any N D)
  rw [show valE N D = 0 from if_pos ok] at HV
  have HNB := hide (fun W (hW : Tab W) => nb_sides N D m W hW ok hm hD)
  have HO := hide (fun W => rof_any N D W (by have := ok.2.2.1; omega) (by have := ok.2.2.2.1; omega) (by have := ok.1; omega) (by have := ok.2.1; omega))
  have HT := hide hT
  have HOK := Lib.hid ok
  have HMD := hide hD
  have q0 : decide (m < 1) = false := decide_eq_false (by omega)
  have q1 : decide (1000000000000 < m) = false := decide_eq_false (by omega)
  have q2 : decide (D ≤ m) = false := decide_eq_false (by omega)
  clear hT ok hm hm2 hD
  go_enter Tryd.func19, Tryd.ntmps19
  go_wp2_with fail
  obtain ⟨n0_, n1_, hsz, hw0⟩ := two_new w (.cells #[.int .i64 N, .int .i64 D] 23) (.cells #[.int .i64 0, .int .i64 0] 23)
  generalize ((w.alloc (.cells #[.int .i64 N, .int .i64 D] 23)).alloc (.cells #[.int .i64 0, .int .i64 0] 23)) = W0 at *
  clear hsz
  refine ((unhide HV) _ ((unhide HT).below hw0)).mono ?_
  rintro e W1 ⟨rfl, hb⟩
  have x1 := (hb.block _ (lt_of_block n0_)).trans n0_
  have r1 := (hb.block _ (lt_of_block n1_)).trans n1_
  have hw1 := below_step' hw0 hb
  clear n0_ n1_ hb hw0 W0
  have k0 : W1.cell? ⟨w.heap.size, 0, none⟩ = some (.int .i64 N) := cells_of x1 0
  have k1 : W1.cell? ⟨w.heap.size, 1, none⟩ = some (.int .i64 D) := cells_of x1 1
  have X1 := hide x1
  have R1 := hide r1
  clear x1 r1
  go_wp2_with fail
  refine ((unhide HNB) _ ((unhide HT).below hw1)).mono ?_
  rintro e W2 ⟨aN, aD, cN, cD, hS, oa, oc, rfl, hb⟩
  have HO1 := hide (fun W => rof_any aN aD W (by have := oa.2.2.1; omega) (by have := oa.2.2.2.1; omega) (by have := oa.1; omega) (by have := oa.2.1; omega))
  have HO2 := hide (fun W => rof_any cN cD W (by have := oc.2.2.1; omega) (by have := oc.2.2.2.1; omega) (by have := oc.1; omega) (by have := oc.2.1; omega))
  have ok := HOK.out
  obtain ⟨e1, e2⟩ := Wd.qR_ok ok
  obtain ⟨e3, e4⟩ := Wd.qR_ok oa
  obtain ⟨e5, e6⟩ := Wd.qR_ok oc
  obtain ⟨hs1, z1⟩ := opq_sub (unhide HT) (Wd.qR N D) (Wd.qR aN aD) (okR_sz ok) (okR_sz oa) lim3
  obtain ⟨hs2, z2⟩ := opq_sub (unhide HT) (Wd.qR cN cD) (Wd.qR N D) (okR_sz oc) (okR_sz ok) lim3
  have hcc := opc_cmp w _ _ z1 z2 (by unfold lim; omega)
  have hway := near_ways N D aN aD cN cD (by have := ok.1; omega) (by have := oa.1; omega) (by have := oc.1; omega)
  unfold OpQ2 at hs1 hs2
  unfold OpC at hcc
  rw [e1, e2, e3, e4] at hs1
  rw [e5, e6, e1, e2] at hs2
  obtain ⟨o, ho⟩ : ∃ o, o = sgn ((Wd.qR N D - Wd.qR aN aD).num * (Wd.qR cN cD - Wd.qR N D).den - (Wd.qR cN cD - Wd.qR N D).num * (Wd.qR N D - Wd.qR aN aD).den) := ⟨_, rfl⟩
  rw [← ho] at hcc hway
  clear ho
  generalize Wd.qR N D - Wd.qR aN aD = u at *
  generalize Wd.qR cN cD - Wd.qR N D = v at *
  have HS1 := hide hs1
  have HS2 := hide hs2
  have HCC := hide hcc
  have HWAY := hide hway
  have HSD := hide hS
  have HOA := hide oa
  have HOC := hide oc
  clear hS oa oc ok e1 e2 e3 e4 e5 e6 hs1 hs2 z1 z2 hcc hway
  have x1 := (hb.block _ (lt_of_block (unhide X1))).trans (unhide X1)
  have r1 := (hb.block _ (lt_of_block (unhide R1))).trans (unhide R1)
  have hw2 := below_step' hw1 hb
  clear k0 k1 hb hw1 X1 R1
  have k0 : W2.cell? ⟨w.heap.size, 0, none⟩ = some (.int .i64 N) := cells_of x1 0
  have k1 : W2.cell? ⟨w.heap.size, 1, none⟩ = some (.int .i64 D) := cells_of x1 1
  have X1 := hide x1
  have R1 := hide r1
  clear x1 r1
  go_upto_region 9 with fail
  obtain ⟨n7, n8, hsz, hb⟩ := two_new W2 (.cells #[.int .i64 aN, .int .i64 aD] 23) (.cells #[.int .i64 cN, .int .i64 cD] 23)
  have x1 := (hb.block _ (lt_of_block (unhide X1))).trans (unhide X1)
  have r1 := (hb.block _ (lt_of_block (unhide R1))).trans (unhide R1)
  have hw3 := below_step' hw2 hb
  generalize ((W2.alloc (.cells #[.int .i64 aN, .int .i64 aD] 23)).alloc (.cells #[.int .i64 cN, .int .i64 cD] 23)) = W3 at *
  have ob7 : w.heap.size + 1 < W2.heap.size := lt_of_block (unhide R1)
  obtain ⟨b7, hb7⟩ : ∃ b, b = W2.heap.size := ⟨_, rfl⟩
  rw [← hb7] at n7 n8 ob7 ⊢
  clear k0 k1 hb hw2 X1 R1 hsz hb7
  have k0 : W3.cell? ⟨w.heap.size, 0, none⟩ = some (.int .i64 N) := cells_of x1 0
  have k1 : W3.cell? ⟨w.heap.size, 1, none⟩ = some (.int .i64 D) := cells_of x1 1
  go_wp2_with fail
  refine ((unhide HO) _).mono ?_
  rintro e W4 ⟨s1, neg1, A1, c1, l1, s2, neg2, A2, c2, l2, rfl, hf1, hf2, hb⟩
  go_upto_region 10 with fail
  have n9 := heap_alloc_new W4 (.cells #[.int .i64 s1, .bool neg1, .slice A1 l1.length c1, .int .i64 s2, .bool neg2, .slice A2 l2.length c2] 60)
  have hn : Below W4.heap.size W4 (W4.alloc (.cells #[.int .i64 s1, .bool neg1, .slice A1 l1.length c1, .int .i64 s2, .bool neg2, .slice A2 l2.length c2] 60)) := below_alloc (Below.refl _ _) _
  have ob9 : W3.heap.size ≤ W4.heap.size := hb.size
  generalize W4.alloc (.cells #[.int .i64 s1, .bool neg1, .slice A1 l1.length c1, .int .i64 s2, .bool neg2, .slice A2 l2.length c2] 60) = W5 at *
  obtain ⟨b9, hb9⟩ : ∃ b, b = W4.heap.size := ⟨_, rfl⟩
  rw [← hb9] at n9 ob9 ⊢
  have hB5 := below_step' hb hn
  have H1 := hide (hf1.below hn)
  have H2 := hide (hf2.below hn)
  have m7 := (hB5.block _ (lt_of_block n7)).trans n7
  have m8 := (hB5.block _ (lt_of_block n8)).trans n8
  have mr := (hB5.block _ (lt_of_block r1)).trans r1
  have HB := Lib.hid (below_step' hw3 hB5)
  have HM8 := hide m8
  have HM7 := hide m7
  have HMR := hide mr
  have kb7_0 : W5.cell? ⟨b7, 0, none⟩ = some (.int .i64 aN) := cells_of m7 0
  have kb7_1 : W5.cell? ⟨b7, 1, none⟩ = some (.int .i64 aD) := cells_of m7 1
  have kb8_0 : W5.cell? ⟨b7 + 1, 0, none⟩ = some (.int .i64 cN) := cells_of m8 0
  have kb8_1 : W5.cell? ⟨b7 + 1, 1, none⟩ = some (.int .i64 cD) := cells_of m8 1
  have kb9_0 : W5.cell? ⟨b9, 0, none⟩ = some (.int .i64 s1) := cells_of n9 0
  have kb9_1 : W5.cell? ⟨b9, 1, none⟩ = some (.bool neg1) := cells_of n9 1
  have kb9_2 : W5.cell? ⟨b9, 2, none⟩ = some (.slice A1 l1.length c1) := cells_of n9 2
  have kb9_3 : W5.cell? ⟨b9, 3, none⟩ = some (.int .i64 s2) := cells_of n9 3
  have kb9_4 : W5.cell? ⟨b9, 4, none⟩ = some (.bool neg2) := cells_of n9 4
  have kb9_5 : W5.cell? ⟨b9, 5, none⟩ = some (.slice A2 l2.length c2) := cells_of n9 5
  have qb7 := lt_of_block m7
  have qb8 := lt_of_block m8
  have qb9 := lt_of_block n9
  clear k0 k1 hf1 hf2 hb hn n7 n8 n9 x1 r1 m7 m8 mr hw3 hB5 ob9 hb9
  have KEEP := hide (show ∀ X, Below W5.heap.size W5 X → X.cell? ⟨b7, 0, none⟩ = some (.int .i64 aN) ∧ X.cell? ⟨b7, 1, none⟩ = some (.int .i64 aD) ∧ X.cell? ⟨b7 + 1, 0, none⟩ = some (.int .i64 cN) ∧ X.cell? ⟨b7 + 1, 1, none⟩ = some (.int .i64 cD) ∧ X.cell? ⟨b9, 0, none⟩ = some (.int .i64 s1) ∧ X.cell? ⟨b9, 1, none⟩ = some (.bool neg1) ∧ X.cell? ⟨b9, 2, none⟩ = some (.slice A1 l1.length c1) ∧ X.cell? ⟨b9, 3, none⟩ = some (.int .i64 s2) ∧ X.cell? ⟨b9, 4, none⟩ = some (.bool neg2) ∧ X.cell? ⟨b9, 5, none⟩ = some (.slice A2 l2.length c2) from fun X hB => ⟨keep_cell hB qb7 kb7_0, keep_cell hB qb7 kb7_1, keep_cell hB qb8 kb8_0, keep_cell hB qb8 kb8_1, keep_cell hB qb9 kb9_0, keep_cell hB qb9 kb9_1, keep_cell hB qb9 kb9_2, keep_cell hB qb9 kb9_3, keep_cell hB qb9 kb9_4, keep_cell hB qb9 kb9_5⟩)
  go_region_held3 (fun w' => w'.cell? ⟨b7, 0, none⟩ = some (.int .i64 aN) ∧ w'.cell? ⟨b7, 1, none⟩ = some (.int .i64 aD) ∧ w'.cell? ⟨b7 + 1, 0, none⟩ = some (.int .i64 cN) ∧ w'.cell? ⟨b7 + 1, 1, none⟩ = some (.int .i64 cD) ∧ w'.cell? ⟨b9, 0, none⟩ = some (.int .i64 s1) ∧ w'.cell? ⟨b9, 1, none⟩ = some (.bool neg1) ∧ w'.cell? ⟨b9, 2, none⟩ = some (.slice A1 l1.length c1) ∧ w'.cell? ⟨b9, 3, none⟩ = some (.int .i64 s2) ∧ w'.cell? ⟨b9, 4, none⟩ = some (.bool neg2) ∧ w'.cell? ⟨b9, 5, none⟩ = some (.slice A2 l2.length c2)) (exact (unhide KEEP) _ (by (repeat (first | with_reducible exact Below.refl _ _ | with_reducible assumption | with_reducible refine Below.drew ?_ | with_reducible refine below_alloc ?_ _)))) (first | (go_at_call_of 35 (Value.agg #[.int .i64 aN, .int .i64 aD]); refine ((unhide HO1) _).mono ?_; rintro e w' ⟨s5, neg5, A5, c5, l5, s6, neg6, A6, c6, l6, rfl, hf5, hf6, hb5⟩; have hbw := below_step (w := W5) (by (repeat (first | with_reducible exact Below.refl _ _ | with_reducible assumption | with_reducible refine Below.drew ?_ | with_reducible refine below_alloc ?_ _))) hb5; have hsw := hbw.size; obtain ⟨hc, hfz⟩ := bcell hbw) | (go_at_call_of 50 (Value.agg #[.int .i64 s1, .bool neg1, .slice A1 l1.length c1, .int .i64 s2, .bool neg2, .slice A2 l2.length c2]); refine ((unhide HS1) s1 neg1 A1 c1 l1 s2 neg2 A2 c2 l2 s5 neg5 A5 c5 l5 s6 neg6 A6 c6 l6 _ (below_step' HB.out (by (repeat (first | with_reducible exact Below.refl _ _ | with_reducible assumption | with_reducible refine Below.drew ?_ | with_reducible refine below_alloc ?_ _)))) (IntF.below (unhide H1) (by (repeat (first | with_reducible exact Below.refl _ _ | with_reducible assumption | with_reducible refine Below.drew ?_ | with_reducible refine below_alloc ?_ _)))) (IntF.below (unhide H2) (by (repeat (first | with_reducible exact Below.refl _ _ | with_reducible assumption | with_reducible refine Below.drew ?_ | with_reducible refine below_alloc ?_ _)))) (IntF.below hf5 (by (repeat (first | with_reducible exact Below.refl _ _ | with_reducible assumption | with_reducible refine Below.drew ?_ | with_reducible refine below_alloc ?_ _)))) (IntF.below hf6 (by (repeat (first | with_reducible exact Below.refl _ _ | with_reducible assumption | with_reducible refine Below.drew ?_ | with_reducible refine below_alloc ?_ _))))).mono ?_; rintro e w' ⟨s7, neg7, A7, c7, l7, s8, neg8, A8, c8, l8, rfl, hf7, hf8, hb7⟩; have hbw := below_step (w := W5) (by (repeat (first | with_reducible exact Below.refl _ _ | with_reducible assumption | with_reducible refine Below.drew ?_ | with_reducible refine below_alloc ?_ _))) hb7; have hsw := hbw.size; obtain ⟨hc, hfz⟩ := bcell hbw) | (go_at_call_of 35 (Value.agg #[.int .i64 cN, .int .i64 cD]); refine ((unhide HO2) _).mono ?_; rintro e w' ⟨s9, neg9, A9, c9, l9, s10, neg10, A10, c10, l10, rfl, hf9, hf10, hb9⟩; have hf7 := IntF.below (IntF.below hf7 (by (repeat (first | with_reducible exact Below.refl _ _ | with_reducible assumption | with_reducible refine Below.drew ?_ | with_reducible refine below_alloc ?_ _)))) hb9; have hf8 := IntF.below (IntF.below hf8 (by (repeat (first | with_reducible exact Below.refl _ _ | with_reducible assumption | with_reducible refine Below.drew ?_ | with_reducible refine below_alloc ?_ _)))) hb9; have hbw := below_step (w := W5) (by (repeat (first | with_reducible exact Below.refl _ _ | with_reducible assumption | with_reducible refine Below.drew ?_ | with_reducible refine below_alloc ?_ _))) hb9; have hsw := hbw.size; obtain ⟨hc, hfz⟩ := bcell hbw) | (go_at_call_of 50 (Value.agg #[.int .i64 s9, .bool neg9, .slice A9 l9.length c9, .int .i64 s10, .bool neg10, .slice A10 l10.length c10]); refine ((unhide HS2) s9 neg9 A9 c9 l9 s10 neg10 A10 c10 l10 s1 neg1 A1 c1 l1 s2 neg2 A2 c2 l2 _ (below_step' HB.out (by (repeat (first | with_reducible exact Below.refl _ _ | with_reducible assumption | with_reducible refine Below.drew ?_ | with_reducible refine below_alloc ?_ _)))) (IntF.below hf9 (by (repeat (first | with_reducible exact Below.refl _ _ | with_reducible assumption | with_reducible refine Below.drew ?_ | with_reducible refine below_alloc ?_ _)))) (IntF.below hf10 (by (repeat (first | with_reducible exact Below.refl _ _ | with_reducible assumption | with_reducible refine Below.drew ?_ | with_reducible refine below_alloc ?_ _)))) (IntF.below (unhide H1) (by (repeat (first | with_reducible exact Below.refl _ _ | with_reducible assumption | with_reducible refine Below.drew ?_ | with_reducible refine below_alloc ?_ _)))) (IntF.below (unhide H2) (by (repeat (first | with_reducible exact Below.refl _ _ | with_reducible assumption | with_reducible refine Below.drew ?_ | with_reducible refine below_alloc ?_ _))))).mono ?_; rintro e w' ⟨s11, neg11, A11, c11, l11, s12, neg12, A12, c12, l12, rfl, hf11, hf12, hb11⟩; have hf7 := IntF.below (IntF.below hf7 (by (repeat (first | with_reducible exact Below.refl _ _ | with_reducible assumption | with_reducible refine Below.drew ?_ | with_reducible refine below_alloc ?_ _)))) hb11; have hf8 := IntF.below (IntF.below hf8 (by (repeat (first | with_reducible exact Below.refl _ _ | with_reducible assumption | with_reducible refine Below.drew ?_ | with_reducible refine below_alloc ?_ _)))) hb11; have hbw := below_step (w := W5) (by (repeat (first | with_reducible exact Below.refl _ _ | with_reducible assumption | with_reducible refine Below.drew ?_ | with_reducible refine below_alloc ?_ _))) hb11; have hsw := hbw.size; obtain ⟨hc, hfz⟩ := bcell hbw) | (go_at_call_of 36 (Value.agg #[.int .i64 s7, .bool neg7, .slice A7 l7.length c7, .int .i64 s8, .bool neg8, .slice A8 l8.length c8]); refine ((unhide HCC) s7 neg7 A7 c7 l7 s8 neg8 A8 c8 l8 s11 neg11 A11 c11 l11 s12 neg12 A12 c12 l12 _ (below_step' HB.out (by (repeat (first | with_reducible exact Below.refl _ _ | with_reducible assumption | with_reducible refine Below.drew ?_ | with_reducible refine below_alloc ?_ _)))) (IntF.below hf7 (by (repeat (first | with_reducible exact Below.refl _ _ | with_reducible assumption | with_reducible refine Below.drew ?_ | with_reducible refine below_alloc ?_ _)))) (IntF.below hf8 (by (repeat (first | with_reducible exact Below.refl _ _ | with_reducible assumption | with_reducible refine Below.drew ?_ | with_reducible refine below_alloc ?_ _)))) (IntF.below hf11 (by (repeat (first | with_reducible exact Below.refl _ _ | with_reducible assumption | with_reducible refine Below.drew ?_ | with_reducible refine below_alloc ?_ _)))) (IntF.below hf12 (by (repeat (first | with_reducible exact Below.refl _ _ | with_reducible assumption | with_reducible refine Below.drew ?_ | with_reducible refine below_alloc ?_ _))))).mono ?_; rintro e w' ⟨rfl, hb13⟩; have hbw := below_step (w := W5) (by (repeat (first | with_reducible exact Below.refl _ _ | with_reducible assumption | with_reducible refine Below.drew ?_ | with_reducible refine below_alloc ?_ _))) hb13; have hsw := hbw.size; obtain ⟨hc, hfz⟩ := bcell hbw))
  have hbb := below_step' HB.out hbw
  have m8 := (hbw.block _ qb8).trans (unhide HM8)
  have mr := (hbw.block _ (lt_of_block (unhide HMR))).trans (unhide HMR)
  have m7 := (hbw.block _ qb7).trans (unhide HM7)
  clear hf7 hf8 hf11 hf12 hc hfz KEEP kb7_0 kb7_1 kb8_0 kb8_1
  have kl0 : w'.cell? ⟨b7, 0, none⟩ = some (.int .i64 aN) := cells_of m7 0
  have kl1 : w'.cell? ⟨b7, 1, none⟩ = some (.int .i64 aD) := cells_of m7 1
  have k0 : w'.cell? ⟨b7 + 1, 0, none⟩ = some (.int .i64 cN) := cells_of m8 0
  have k1 : w'.cell? ⟨b7 + 1, 1, none⟩ = some (.int .i64 cD) := cells_of m8 1
  have r0 : w'.cell? ⟨w.heap.size + 1, 0, none⟩ = some (.int .i64 0) := cells_of mr 0
  have r1 : w'.cell? ⟨w.heap.size + 1, 1, none⟩ = some (.int .i64 0) := cells_of mr 1
  have f0 : w'.frozen? ⟨w.heap.size + 1, 0, none⟩ = false := unfrozen_of mr 0
  have f1 : w'.frozen? ⟨w.heap.size + 1, 1, none⟩ = false := unfrozen_of mr 1
  rcases unhide HWAY with ⟨rfl, hp⟩ | ⟨rfl, hq, hp⟩ | ⟨rfl, hq, hp⟩ | ⟨rfl, hp⟩
  · have HP := Lib.hid hp
    clear hp HWAY
    go_wp2_with fail
    exact bodyPost_ret (v := .tuple #[(Value.agg #[.int .i64 aN, .int .i64 aD]), .int .i64 0]) (by simp [results, Tryd.results19, go_sem, r0, r1]) rfl
      ⟨aN, aD, .inr ⟨unhide HMD, aN, aD, cN, cD, unhide HSD, unhide HOA, unhide HOC, by rw [HP.out], by rw [HP.out]⟩, rfl, hbb.grown (set2_grown _ _ _ _) hbb.size (fun k hk => by injection hk with hk; omega)⟩
  · have HP := Lib.hid hp
    have hq' : decide (aD ≤ cD) = true := decide_eq_true hq
    clear hp hq HWAY
    go_wp2_with fail
    exact bodyPost_ret (v := .tuple #[(Value.agg #[.int .i64 aN, .int .i64 aD]), .int .i64 0]) (by simp [results, Tryd.results19, go_sem, r0, r1]) rfl
      ⟨aN, aD, .inr ⟨unhide HMD, aN, aD, cN, cD, unhide HSD, unhide HOA, unhide HOC, by rw [HP.out], by rw [HP.out]⟩, rfl, hbb.grown (set2_grown _ _ _ _) hbb.size (fun k hk => by injection hk with hk; omega)⟩
  · have HP := Lib.hid hp
    have hq' : decide (aD ≤ cD) = false := decide_eq_false (by omega)
    clear hp hq HWAY
    go_wp2_with fail
    exact bodyPost_ret (v := .tuple #[(Value.agg #[.int .i64 cN, .int .i64 cD]), .int .i64 0]) (by simp [results, Tryd.results19, go_sem, r0, r1]) rfl
      ⟨cN, cD, .inr ⟨unhide HMD, aN, aD, cN, cD, unhide HSD, unhide HOA, unhide HOC, by rw [HP.out], by rw [HP.out]⟩, rfl, hbb.grown (set2_grown _ _ _ _) hbb.size (fun k hk => by injection hk with hk; omega)⟩
  · have HP := Lib.hid hp
    clear hp HWAY
    go_wp2_with fail
    exact bodyPost_ret (v := .tuple #[(Value.agg #[.int .i64 cN, .int .i64 cD]), .int .i64 0]) (by simp [results, Tryd.results19, go_sem, r0, r1]) rfl
      ⟨cN, cD, .inr ⟨unhide HMD, aN, aD, cN, cD, unhide HSD, unhide HOA, unhide HOC, by rw [HP.out], by rw [HP.out]⟩, rfl, hbb.grown (set2_grown _ _ _ _) hbb.size (fun k hk => by injection hk with hk; omega)⟩

/-- What Near answers. -/
def NearP (w : World) (N D m : Int) (e' : Ending) (w' : World) : Prop := ∃ n d z : Int, ((Wd.okR N D ∧ 1 ≤ m ∧ m ≤ 1000000000000 ∧ Wd.NearO N D m n d ∧ z = 0) ∨ (¬ (Wd.okR N D ∧ 1 ≤ m ∧ m ≤ 1000000000000) ∧ n = 0 ∧ d = 0 ∧ z = 1)) ∧ e' = .returned (.tuple #[(Value.agg #[.int .i64 n, .int .i64 d]), .int .i64 z]) ∧ Below w.heap.size w w'
theorem near_any (N D m : Int) (w : World) (hT : Tab w) :
    Calls Tryd.prog 19 #[(Value.agg #[.int .i64 N, .int .i64 D]), .int .i64 m] w fun e w' => NearP w N D m e w' := by
  by_cases ok : Wd.okR N D
  · by_cases h1 : m < 1
    · exact (near_low N D m w hT ok h1).mono fun e w' ⟨h, hb⟩ => ⟨0, 0, 1, .inr ⟨by omega, rfl, rfl, rfl⟩, h, hb⟩
    · by_cases h2 : 1000000000000 < m
      · exact (near_high N D m w hT ok h2).mono fun e w' ⟨h, hb⟩ => ⟨0, 0, 1, .inr ⟨by omega, rfl, rfl, rfl⟩, h, hb⟩
      · by_cases h3 : D ≤ m
        · exact (near_self N D m w hT ok (by omega) (by omega) h3).mono fun e w' ⟨h, hb⟩ => ⟨N, D, 0, .inl ⟨ok, by omega, by omega, .inl ⟨h3, rfl, rfl⟩, rfl⟩, h, hb⟩
        · exact (near_far N D m w hT ok (by omega) (by omega) (by omega)).mono fun e w' ⟨n, d, hn, h, hb⟩ => ⟨n, d, 0, .inl ⟨ok, by omega, by omega, hn, rfl⟩, h, hb⟩
  · exact (near_bad N D m w hT ok).mono fun e w' ⟨h, hb⟩ => ⟨0, 0, 1, .inr ⟨fun h => ok h.1, rfl, rfl, rfl⟩, h, hb⟩

end Go.Proofs.YtadclbankpmebaaDoor
/- The program's simplest number between two numbers above nought: the walks. -/
namespace Go.Proofs.YtadclbankpmebaaDoor
open Go.RowKit

set_option maxRecDepth 100000 in
set_option maxHeartbeats 16000000 in
theorem psimp_one (a c d : Int) (w : World) (ba : -9223372036854775808 ≤ a ∧ a ≤ 9223372036854775807) :
    Calls Tryd.prog 41 #[(Value.agg #[.int .i64 a, .int .i64 1]), (Value.agg #[.int .i64 c, .int .i64 d])] w fun e w' => e = .returned (.agg #[.int .i64 a, .int .i64 1]) ∧ Below w.heap.size w w' := by
  have e1 : a.tdiv 1 = a := Int.tdiv_one a
  have e2 : wrap64 a = a := IntWalk.wrap64_in _ ba
  have e3 : IntKind.i64.wrap a = a := IntWalk.i64_in _ ba
  clear ba
  go_enter Tryd.func41, Tryd.ntmps41
  go_upto_region 1 with fail
  obtain ⟨n0, n1_, n2_, hsz, hw0⟩ := three_new w (.cells #[.int .i64 a, .int .i64 1] 23) (.cells #[.int .i64 c, .int .i64 d] 23) (.cells #[.int .i64 0, .int .i64 0] 23)
  generalize (((w.alloc (.cells #[.int .i64 a, .int .i64 1] 23)).alloc (.cells #[.int .i64 c, .int .i64 d] 23)).alloc (.cells #[.int .i64 0, .int .i64 0] 23)) = W0 at *
  have k0_0 : W0.cell? ⟨w.heap.size, 0, none⟩ = some (.int .i64 a) := cells_of n0 0
  have k0_1 : W0.cell? ⟨w.heap.size, 1, none⟩ = some (.int .i64 1) := cells_of n0 1
  have k1_0 : W0.cell? ⟨w.heap.size + 1, 0, none⟩ = some (.int .i64 c) := cells_of n1_ 0
  have k1_1 : W0.cell? ⟨w.heap.size + 1, 1, none⟩ = some (.int .i64 d) := cells_of n1_ 1
  have k2_0 : W0.cell? ⟨w.heap.size + 1 + 1, 0, none⟩ = some (.int .i64 0) := cells_of n2_ 0
  have k2_1 : W0.cell? ⟨w.heap.size + 1 + 1, 1, none⟩ = some (.int .i64 0) := cells_of n2_ 1
  have f2_0 := unfrozen_of n2_ 0; have f2_1 := unfrozen_of n2_ 1
  have q2 := lt_of_block n2_
  clear n0 n1_ n2_ hsz
  go_wp2_with fail
  exact bodyPost_ret (v := .agg #[.int .i64 a, .int .i64 1]) (by simp [results, Tryd.results41, go_sem, k2_0, k2_1, q2]) rfl
    ⟨rfl, hw0.grown (set2_grown _ _ _ _) hw0.size (fun k hk => by injection hk with hk; omega)⟩

set_option maxRecDepth 100000 in
set_option maxHeartbeats 16000000 in
theorem psimp_up (a b c d k j m : Int) (w : World) (hb0 : b ≠ 0) (hd0 : d ≠ 0) (hb1 : b ≠ 1) (hk : a.tdiv b = k) (hj : c.tdiv d = j) (bk : -9223372036854775808 ≤ k ∧ k ≤ 9223372036854775807) (bj : -9223372036854775808 ≤ j ∧ j ≤ 9223372036854775807) (hlt : k < j) (hg1 : k + 1 = m) (bg1 : -9223372036854775808 ≤ m ∧ m ≤ 9223372036854775807) :
    Calls Tryd.prog 41 #[(Value.agg #[.int .i64 a, .int .i64 b]), (Value.agg #[.int .i64 c, .int .i64 d])] w fun e w' => e = .returned (.agg #[.int .i64 m, .int .i64 1]) ∧ Below w.heap.size w w' := by
  have z1 : (b == 0) = false := beq_eq_false_iff_ne.2 hb0
  have z2 : ¬ b = 0 := hb0
  have z3 : (d == 0) = false := beq_eq_false_iff_ne.2 hd0
  have z4 : ¬ d = 0 := hd0
  have z5 : (b == 1) = false := beq_eq_false_iff_ne.2 hb1
  have z6 : ¬ b = 1 := hb1
  have e1 : wrap64 k = k := IntWalk.wrap64_in _ bk
  have e2 : IntKind.i64.wrap k = k := IntWalk.i64_in _ bk
  have e3 : wrap64 j = j := IntWalk.wrap64_in _ bj
  have e4 : IntKind.i64.wrap j = j := IntWalk.i64_in _ bj
  have d1 : decide (k < j) = true := decide_eq_true hlt
  have g1 : wrap64 (k + 1) = m := by rw [hg1]; exact IntWalk.wrap64_in _ bg1
  have g1' : IntKind.i64.wrap (k + 1) = m := by rw [hg1]; exact IntWalk.i64_in _ bg1
  clear hb0 hd0 hb1 bk bj hlt hg1 bg1
  go_enter Tryd.func41, Tryd.ntmps41
  go_upto_region 1 with fail
  obtain ⟨n0, n1_, n2_, hsz, hw0⟩ := three_new w (.cells #[.int .i64 a, .int .i64 b] 23) (.cells #[.int .i64 c, .int .i64 d] 23) (.cells #[.int .i64 0, .int .i64 0] 23)
  generalize (((w.alloc (.cells #[.int .i64 a, .int .i64 b] 23)).alloc (.cells #[.int .i64 c, .int .i64 d] 23)).alloc (.cells #[.int .i64 0, .int .i64 0] 23)) = W0 at *
  have k0_0 : W0.cell? ⟨w.heap.size, 0, none⟩ = some (.int .i64 a) := cells_of n0 0
  have k0_1 : W0.cell? ⟨w.heap.size, 1, none⟩ = some (.int .i64 b) := cells_of n0 1
  have k1_0 : W0.cell? ⟨w.heap.size + 1, 0, none⟩ = some (.int .i64 c) := cells_of n1_ 0
  have k1_1 : W0.cell? ⟨w.heap.size + 1, 1, none⟩ = some (.int .i64 d) := cells_of n1_ 1
  have k2_0 : W0.cell? ⟨w.heap.size + 1 + 1, 0, none⟩ = some (.int .i64 0) := cells_of n2_ 0
  have k2_1 : W0.cell? ⟨w.heap.size + 1 + 1, 1, none⟩ = some (.int .i64 0) := cells_of n2_ 1
  have f2_0 := unfrozen_of n2_ 0; have f2_1 := unfrozen_of n2_ 1
  have q2 := lt_of_block n2_
  clear n0 n1_ n2_ hsz
  go_wp2_with fail
  exact bodyPost_ret (v := .agg #[.int .i64 m, .int .i64 1]) (by simp [results, Tryd.results41, go_sem, k2_0, k2_1, q2]) rfl
    ⟨rfl, hw0.grown (set2_grown _ _ _ _) hw0.size (fun k hk => by injection hk with hk; omega)⟩

set_option maxRecDepth 100000 in
set_option maxHeartbeats 16000000 in
theorem psimp_rec (a b c d k j kd u kb v n e kn m : Int) (w : World) (hb0 : b ≠ 0) (hd0 : d ≠ 0) (hb1 : b ≠ 1) (hk : a.tdiv b = k) (hj : c.tdiv d = j) (bk : -9223372036854775808 ≤ k ∧ k ≤ 9223372036854775807) (bj : -9223372036854775808 ≤ j ∧ j ≤ 9223372036854775807) (hlt : ¬ k < j) (hg1 : k * d = kd) (bg1 : -9223372036854775808 ≤ kd ∧ kd ≤ 9223372036854775807) (hg2 : c - kd = u) (bg2 : -9223372036854775808 ≤ u ∧ u ≤ 9223372036854775807) (hg3 : k * b = kb) (bg3 : -9223372036854775808 ≤ kb ∧ kb ≤ 9223372036854775807) (hg4 : a - kb = v) (bg4 : -9223372036854775808 ≤ v ∧ v ≤ 9223372036854775807) (hg5 : k * n = kn) (bg5 : -9223372036854775808 ≤ kn ∧ kn ≤ 9223372036854775807) (hg6 : kn + e = m) (bg6 : -9223372036854775808 ≤ m ∧ m ≤ 9223372036854775807)
    (hr : ∀ W, Calls Tryd.prog 41 #[(Value.agg #[.int .i64 d, .int .i64 u]), (Value.agg #[.int .i64 b, .int .i64 v])] W fun e' w' => e' = .returned (.agg #[.int .i64 n, .int .i64 e]) ∧ Below W.heap.size W w') :
    Calls Tryd.prog 41 #[(Value.agg #[.int .i64 a, .int .i64 b]), (Value.agg #[.int .i64 c, .int .i64 d])] w fun e w' => e = .returned (.agg #[.int .i64 m, .int .i64 n]) ∧ Below w.heap.size w w' := by
  have HR := hide hr
  have z1 : (b == 0) = false := beq_eq_false_iff_ne.2 hb0
  have z2 : ¬ b = 0 := hb0
  have z3 : (d == 0) = false := beq_eq_false_iff_ne.2 hd0
  have z4 : ¬ d = 0 := hd0
  have z5 : (b == 1) = false := beq_eq_false_iff_ne.2 hb1
  have z6 : ¬ b = 1 := hb1
  have e1 : wrap64 k = k := IntWalk.wrap64_in _ bk
  have e2 : IntKind.i64.wrap k = k := IntWalk.i64_in _ bk
  have e3 : wrap64 j = j := IntWalk.wrap64_in _ bj
  have e4 : IntKind.i64.wrap j = j := IntWalk.i64_in _ bj
  have d1 : decide (k < j) = false := decide_eq_false hlt
  have g1 : wrap64 (k * d) = kd := by rw [hg1]; exact IntWalk.wrap64_in _ bg1
  have g1' : IntKind.i64.wrap (k * d) = kd := by rw [hg1]; exact IntWalk.i64_in _ bg1
  have g2 : wrap64 (c - kd) = u := by rw [hg2]; exact IntWalk.wrap64_in _ bg2
  have g2' : IntKind.i64.wrap (c - kd) = u := by rw [hg2]; exact IntWalk.i64_in _ bg2
  have g3 : wrap64 (k * b) = kb := by rw [hg3]; exact IntWalk.wrap64_in _ bg3
  have g3' : IntKind.i64.wrap (k * b) = kb := by rw [hg3]; exact IntWalk.i64_in _ bg3
  have g4 : wrap64 (a - kb) = v := by rw [hg4]; exact IntWalk.wrap64_in _ bg4
  have g4' : IntKind.i64.wrap (a - kb) = v := by rw [hg4]; exact IntWalk.i64_in _ bg4
  have g5 : wrap64 (k * n) = kn := by rw [hg5]; exact IntWalk.wrap64_in _ bg5
  have g5' : IntKind.i64.wrap (k * n) = kn := by rw [hg5]; exact IntWalk.i64_in _ bg5
  have g6 : wrap64 (kn + e) = m := by rw [hg6]; exact IntWalk.wrap64_in _ bg6
  have g6' : IntKind.i64.wrap (kn + e) = m := by rw [hg6]; exact IntWalk.i64_in _ bg6
  clear hr hb0 hd0 hb1 bk bj hlt hg1 bg1 hg2 bg2 hg3 bg3 hg4 bg4 hg5 bg5 hg6 bg6
  go_enter Tryd.func41, Tryd.ntmps41
  go_upto_region 1 with fail
  obtain ⟨n0, n1_, n2_, hsz, hw0⟩ := three_new w (.cells #[.int .i64 a, .int .i64 b] 23) (.cells #[.int .i64 c, .int .i64 d] 23) (.cells #[.int .i64 0, .int .i64 0] 23)
  generalize (((w.alloc (.cells #[.int .i64 a, .int .i64 b] 23)).alloc (.cells #[.int .i64 c, .int .i64 d] 23)).alloc (.cells #[.int .i64 0, .int .i64 0] 23)) = W0 at *
  have k0_0 : W0.cell? ⟨w.heap.size, 0, none⟩ = some (.int .i64 a) := cells_of n0 0
  have k0_1 : W0.cell? ⟨w.heap.size, 1, none⟩ = some (.int .i64 b) := cells_of n0 1
  have k1_0 : W0.cell? ⟨w.heap.size + 1, 0, none⟩ = some (.int .i64 c) := cells_of n1_ 0
  have k1_1 : W0.cell? ⟨w.heap.size + 1, 1, none⟩ = some (.int .i64 d) := cells_of n1_ 1
  have k2_0 : W0.cell? ⟨w.heap.size + 1 + 1, 0, none⟩ = some (.int .i64 0) := cells_of n2_ 0
  have k2_1 : W0.cell? ⟨w.heap.size + 1 + 1, 1, none⟩ = some (.int .i64 0) := cells_of n2_ 1
  have f2_0 := unfrozen_of n2_ 0; have f2_1 := unfrozen_of n2_ 1
  have q2 := lt_of_block n2_
  clear n0 n1_ n2_ hsz
  go_wp2_with fail
  refine ((unhide HR) _).mono ?_
  rintro e' V1 ⟨rfl, hb⟩
  go_upto_region 7 with fail
  have hn := heap_alloc_new V1 (.cells #[.int .i64 n, .int .i64 e] 23)
  replace hb := below_step' hb (below_alloc (Below.refl V1.heap.size V1) (.cells #[.int .i64 n, .int .i64 e] 23))
  obtain ⟨br, hbr⟩ : ∃ b, b = V1.heap.size := ⟨_, rfl⟩
  rw [← hbr] at hn ⊢
  clear hbr
  generalize V1.alloc (.cells #[.int .i64 n, .int .i64 e] 23) = W1 at *
  have kr0 : W1.cell? ⟨br, 0, none⟩ = some (.int .i64 n) := cells_of hn 0
  have kr1 : W1.cell? ⟨br, 1, none⟩ = some (.int .i64 e) := cells_of hn 1
  obtain ⟨hc, hfz⟩ := bcell hb
  replace k2_0 := (hc _ _ q2).trans k2_0
  replace f2_0 := (hfz _ _ q2).trans f2_0
  replace k2_1 := (hc _ _ q2).trans k2_1
  replace f2_1 := (hfz _ _ q2).trans f2_1
  replace q2 := Nat.lt_of_lt_of_le q2 hb.size
  replace hw0 := below_step' hw0 hb
  clear hb hc hfz k0_0 k0_1 k1_0 k1_1 hn
  go_wp2_with fail
  exact bodyPost_ret (v := .agg #[.int .i64 m, .int .i64 n]) (by simp [results, Tryd.results41, go_sem, k2_0, k2_1, q2]) rfl
    ⟨rfl, hw0.grown (set2_grown _ _ _ _) hw0.size (fun k hk => by injection hk with hk; omega)⟩

set_option maxRecDepth 100000 in
set_option maxHeartbeats 16000000 in
theorem pneg_any (n d m : Int) (w : World) (hg1 : -n = m) (bg1 : -9223372036854775808 ≤ m ∧ m ≤ 9223372036854775807) :
    Calls Tryd.prog 42 #[(Value.agg #[.int .i64 n, .int .i64 d])] w fun e w' => e = .returned (.agg #[.int .i64 m, .int .i64 d]) ∧ Below w.heap.size w w' := by
  have g1 : wrap64 (-n) = m := by rw [hg1]; exact IntWalk.wrap64_in _ bg1
  have g1' : IntKind.i64.wrap (-n) = m := by rw [hg1]; exact IntWalk.i64_in _ bg1
  clear hg1 bg1
  go_enter Tryd.func42, Tryd.ntmps42
  go_wp2
  exact bodyPost_ret (v := (Value.agg #[.int .i64 m, .int .i64 d])) (by simp [results, Tryd.results42, go_sem]) rfl
    ⟨rfl, below_alloc (below_alloc (Below.refl _ _) _) _⟩

end Go.Proofs.YtadclbankpmebaaDoor
