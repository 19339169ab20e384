/- Part 11 of the texts beneath a law of layer 1: RfQa3, RfQn, RfQs, ArOk, Simp, Cf, Join, JnW, JnZ, JnF, JnP, Rl, RlE, RlF, RlG, RlA. -/
import Derived.Test.YtpjgoogeokbaaaaGreatDoorCi10
/- The walk through the sum of two numbers of the reference: the second is no integer. -/
namespace Go.Proofs.YtpjgoogeokbaaaaGreatDoor
open Go.RowKit

set_option maxRecDepth 100000 in
set_option maxHeartbeats 16000000 in
theorem qadd_tf (A1 : Option Addr) (c1 : Nat) (l1 : List Nat) (m1 : Bool) (A2 : Option Addr) (c2 : Nat) (l2 : List Nat) (m2 : Bool) (A3 : Option Addr) (c3 : Nat) (l3 : List Nat) (m3 : Bool) (A4 : Option Addr) (c4 : Nat) (l4 : List Nat) (m4 : Bool) (z1 b1 z3 b3 x1 x3 n d : Int) (q : Rat) (w : World) (f1 : WholeF w A1 c1 l1 m1 z1) (f3 : WholeF w A3 c3 l3 m3 z3)
    (hd1 : ∀ W, Below w.heap.size w W → Calls Tryz.prog 95 #[(Value.agg #[.slice A1 l1.length c1, .bool m1, .slice A2 l2.length c2, .bool m2])] W fun e w' => WholeR W b1 e w') (hd3 : ∀ W, Below w.heap.size w W → Calls Tryz.prog 95 #[(Value.agg #[.slice A3 l3.length c3, .bool m3, .slice A4 l4.length c4, .bool m4])] W fun e w' => WholeR W b3 e w')
    (ho1 : ∀ (A7 : Option Addr) (c7 : Nat) (l7 : List Nat) (m7 : Bool) (W : World), Below w.heap.size w W → WholeF W A7 c7 l7 m7 b1 → Calls Tryz.prog 96 #[(Value.agg #[.slice A7 l7.length c7, .bool m7])] W fun e w' => e = .returned (.bool true) ∧ Below W.heap.size W w') (ho3 : ∀ (A7 : Option Addr) (c7 : Nat) (l7 : List Nat) (m7 : Bool) (W : World), Below w.heap.size w W → WholeF W A7 c7 l7 m7 b3 → Calls Tryz.prog 96 #[(Value.agg #[.slice A7 l7.length c7, .bool m7])] W fun e w' => e = .returned (.bool false) ∧ Below W.heap.size W w') (hm1 : OpW2 w 98 z1 b3 x1) (hm3 : OpW2 w 98 z3 b1 x3) (hn : OpW2 w 97 x1 x3 n) (hm : OpW2 w 98 b1 b3 d) (hr : OpRQ w 92 n d q) :
    Calls Tryz.prog 43 #[(Value.agg #[.slice A1 l1.length c1, .bool m1, .slice A2 l2.length c2, .bool m2]), (Value.agg #[.slice A3 l3.length c3, .bool m3, .slice A4 l4.length c4, .bool m4])] w fun e w' => QR w q e w' := by
  have H1 := hide f1
  have H3 := hide f3
  clear f1 f3
  have HD1 := hide hd1
  have HD3 := hide hd3
  have HO1 := hide ho1
  have HO3 := hide ho3
  have HM1 := hide hm1
  have HM3 := hide hm3
  have HN := hide hn
  have HM := hide hm
  have HR := hide hr
  clear hd1 hd3 ho1 ho3 hm1 hm3 hn hm hr
  go_enter Tryz.func43, Tryz.ntmps43
  go_upto_region 1 with fail
  obtain ⟨n0, n1, n2, hsz, hw0⟩ := three_new w (.cells #[.slice A1 l1.length c1, .bool m1, .slice A2 l2.length c2, .bool m2] 52) (.cells #[.slice A3 l3.length c3, .bool m3, .slice A4 l4.length c4, .bool m4] 52) (.cells #[.slice none 0 0, .bool false, .slice none 0 0, .bool false] 52)
  generalize (((w.alloc (.cells #[.slice A1 l1.length c1, .bool m1, .slice A2 l2.length c2, .bool m2] 52)).alloc (.cells #[.slice A3 l3.length c3, .bool m3, .slice A4 l4.length c4, .bool m4] 52)).alloc (.cells #[.slice none 0 0, .bool false, .slice none 0 0, .bool false] 52)) = W0 at *
  have k0_0 : W0.cell? ⟨w.heap.size, 0, none⟩ = some (.slice A1 l1.length c1) := cells_of n0 0
  have k0_1 : W0.cell? ⟨w.heap.size, 1, none⟩ = some (.bool m1) := cells_of n0 1
  have k0_2 : W0.cell? ⟨w.heap.size, 2, none⟩ = some (.slice A2 l2.length c2) := cells_of n0 2
  have k0_3 : W0.cell? ⟨w.heap.size, 3, none⟩ = some (.bool m2) := cells_of n0 3
  have q0 : w.heap.size < W0.heap.size := by omega
  have k1_0 : W0.cell? ⟨w.heap.size + 1, 0, none⟩ = some (.slice A3 l3.length c3) := cells_of n1 0
  have k1_1 : W0.cell? ⟨w.heap.size + 1, 1, none⟩ = some (.bool m3) := cells_of n1 1
  have k1_2 : W0.cell? ⟨w.heap.size + 1, 2, none⟩ = some (.slice A4 l4.length c4) := cells_of n1 2
  have k1_3 : W0.cell? ⟨w.heap.size + 1, 3, none⟩ = some (.bool m4) := cells_of n1 3
  have q1 : w.heap.size + 1 < W0.heap.size := by omega
  have k2_0 : W0.cell? ⟨w.heap.size + 1 + 1, 0, none⟩ = some (.slice none 0 0) := cells_of n2 0
  have k2_1 : W0.cell? ⟨w.heap.size + 1 + 1, 1, none⟩ = some (.bool false) := cells_of n2 1
  have k2_2 : W0.cell? ⟨w.heap.size + 1 + 1, 2, none⟩ = some (.slice none 0 0) := cells_of n2 2
  have k2_3 : W0.cell? ⟨w.heap.size + 1 + 1, 3, none⟩ = some (.bool false) := cells_of n2 3
  have q2 : w.heap.size + 1 + 1 < W0.heap.size := by omega
  have f2_0 := unfrozen_of n2 0
  have f2_1 := unfrozen_of n2 1
  have f2_2 := unfrozen_of n2 2
  have f2_3 := unfrozen_of n2 3
  have NR := Lib.hid n2
  clear hsz n0 n1 n2
  replace H1 := hide ((unhide H1).below hw0)
  replace H3 := hide ((unhide H3).below hw0)
  go_upto_region 1 with fail
  go_cut [5, 6] (fun s5_ s6_ wx => ∃ b5 b6 : Nat, s5_ = .pointer (some ⟨b5, 0, none⟩) ∧ s6_ = .pointer (some ⟨b6, 0, none⟩) ∧ BoxW wx b5 b1 ∧ BoxW wx b6 b3 ∧ Below W0.heap.size W0 wx ∧ W0.heap.size ≤ b5 ∧ W0.heap.size ≤ b6)
  case first =>
    have KEEP := hide (show ∀ X, Below W0.heap.size W0 X → X.cell? ⟨w.heap.size, 0, none⟩ = some (.slice A1 l1.length c1) ∧ X.cell? ⟨w.heap.size, 1, none⟩ = some (.bool m1) ∧ X.cell? ⟨w.heap.size, 2, none⟩ = some (.slice A2 l2.length c2) ∧ X.cell? ⟨w.heap.size, 3, none⟩ = some (.bool m2) ∧ X.cell? ⟨w.heap.size + 1, 0, none⟩ = some (.slice A3 l3.length c3) ∧ X.cell? ⟨w.heap.size + 1, 1, none⟩ = some (.bool m3) ∧ X.cell? ⟨w.heap.size + 1, 2, none⟩ = some (.slice A4 l4.length c4) ∧ X.cell? ⟨w.heap.size + 1, 3, none⟩ = some (.bool m4) from fun X hB => ⟨keep_cell hB q0 k0_0, keep_cell hB q0 k0_1, keep_cell hB q0 k0_2, keep_cell hB q0 k0_3, keep_cell hB q1 k1_0, keep_cell hB q1 k1_1, keep_cell hB q1 k1_2, keep_cell hB q1 k1_3⟩)
    go_region_held3 (fun w' => w'.cell? ⟨w.heap.size, 0, none⟩ = some (.slice A1 l1.length c1) ∧ w'.cell? ⟨w.heap.size, 1, none⟩ = some (.bool m1) ∧ w'.cell? ⟨w.heap.size, 2, none⟩ = some (.slice A2 l2.length c2) ∧ w'.cell? ⟨w.heap.size, 3, none⟩ = some (.bool m2) ∧ w'.cell? ⟨w.heap.size + 1, 0, none⟩ = some (.slice A3 l3.length c3) ∧ w'.cell? ⟨w.heap.size + 1, 1, none⟩ = some (.bool m3) ∧ w'.cell? ⟨w.heap.size + 1, 2, none⟩ = some (.slice A4 l4.length c4) ∧ w'.cell? ⟨w.heap.size + 1, 3, none⟩ = some (.bool m4)) (exact (unhide KEEP) _ (by (repeat (first | with_reducible exact Below.refl _ _ | with_reducible assumption | with_reducible refine Below.drew ?_ | with_reducible refine below_alloc ?_ _ | (with_reducible refine below_set ?_ ?_ _ _; rotate_left; (first | omega | (simp <;> omega))))))) (first | (go_at_call_of 95 (Value.agg #[.slice A1 l1.length c1, .bool m1, .slice A2 l2.length c2, .bool m2]); refine ((unhide HD1) _ (below_step' hw0 (by (repeat (first | with_reducible exact Below.refl _ _ | with_reducible assumption | with_reducible refine Below.drew ?_ | with_reducible refine below_alloc ?_ _))))).mono ?_; rintro e w' ⟨A5, c5, l5, m5, rfl, hf5, hb5⟩; have hbw := below_step (w := W0) (by (repeat (first | with_reducible exact Below.refl _ _ | with_reducible assumption | with_reducible refine Below.drew ?_ | with_reducible refine below_alloc ?_ _))) hb5; have hsw := hbw.size; obtain ⟨hc, hfz⟩ := bcell hbw; (try ((first | have u5a : FrW W0 w' _ := FrW.below (FrW.new (by (repeat (first | with_reducible exact Below.refl _ _ | with_reducible assumption | with_reducible refine Below.drew ?_ | with_reducible refine below_alloc ?_ _))) rfl) hb5 | have u5a : FrW W0 w' _ := FrW.below (FrW.drew (FrW.new (by (repeat (first | with_reducible exact Below.refl _ _ | with_reducible assumption | with_reducible refine Below.drew ?_ | with_reducible refine below_alloc ?_ _))) rfl)) hb5); (try simp only [World.size_alloc] at u5a); (try dsimp only [World.drew] at u5a); (try simp only [World.size_alloc] at u5a); obtain ⟨⟨u5a1, u5a2⟩, ⟨u5a3, u5a4⟩, ⟨u5a5, u5a6⟩, ⟨u5a7, u5a8⟩, u5a9, u5a10⟩ := FrW.facts u5a)); (try ((first | have u5b : FrW W0 w' _ := FrW.below (FrW.alloc (FrW.new (by (repeat (first | with_reducible exact Below.refl _ _ | with_reducible assumption | with_reducible refine Below.drew ?_ | with_reducible refine below_alloc ?_ _))) rfl)) hb5 | have u5b : FrW W0 w' _ := FrW.below (FrW.drew (FrW.alloc (FrW.new (by (repeat (first | with_reducible exact Below.refl _ _ | with_reducible assumption | with_reducible refine Below.drew ?_ | with_reducible refine below_alloc ?_ _))) rfl))) hb5); (try simp only [World.size_alloc] at u5b); (try dsimp only [World.drew] at u5b); (try simp only [World.size_alloc] at u5b); obtain ⟨⟨u5b1, u5b2⟩, ⟨u5b3, u5b4⟩, ⟨u5b5, u5b6⟩, ⟨u5b7, u5b8⟩, u5b9, u5b10⟩ := FrW.facts u5b))) | (go_at_call_of 95 (Value.agg #[.slice A3 l3.length c3, .bool m3, .slice A4 l4.length c4, .bool m4]); refine ((unhide HD3) _ (below_step' hw0 (by (repeat (first | with_reducible exact Below.refl _ _ | with_reducible assumption | with_reducible refine Below.drew ?_ | with_reducible refine below_alloc ?_ _))))).mono ?_; rintro e w' ⟨A6, c6, l6, m6, rfl, hf6, hb6⟩; have hf5 := WholeF.below (WholeF.below hf5 (by (repeat (first | with_reducible exact Below.refl _ _ | with_reducible assumption | with_reducible refine Below.drew ?_ | with_reducible refine below_alloc ?_ _)))) hb6; have hbw := below_step (w := W0) (by (repeat (first | with_reducible exact Below.refl _ _ | with_reducible assumption | with_reducible refine Below.drew ?_ | with_reducible refine below_alloc ?_ _))) hb6; have hsw := hbw.size; obtain ⟨hc, hfz⟩ := bcell hbw; (try ((first | have u6a : FrW W0 w' _ := FrW.below (FrW.new (by (repeat (first | with_reducible exact Below.refl _ _ | with_reducible assumption | with_reducible refine Below.drew ?_ | with_reducible refine below_alloc ?_ _))) rfl) hb6 | have u6a : FrW W0 w' _ := FrW.below (FrW.drew (FrW.new (by (repeat (first | with_reducible exact Below.refl _ _ | with_reducible assumption | with_reducible refine Below.drew ?_ | with_reducible refine below_alloc ?_ _))) rfl)) hb6); (try simp only [World.size_alloc] at u6a); (try dsimp only [World.drew] at u6a); (try simp only [World.size_alloc] at u6a); obtain ⟨⟨u6a1, u6a2⟩, ⟨u6a3, u6a4⟩, ⟨u6a5, u6a6⟩, ⟨u6a7, u6a8⟩, u6a9, u6a10⟩ := FrW.facts u6a)); (try ((first | have u6b : FrW W0 w' _ := FrW.below (FrW.alloc (FrW.new (by (repeat (first | with_reducible exact Below.refl _ _ | with_reducible assumption | with_reducible refine Below.drew ?_ | with_reducible refine below_alloc ?_ _))) rfl)) hb6 | have u6b : FrW W0 w' _ := FrW.below (FrW.drew (FrW.alloc (FrW.new (by (repeat (first | with_reducible exact Below.refl _ _ | with_reducible assumption | with_reducible refine Below.drew ?_ | with_reducible refine below_alloc ?_ _))) rfl))) hb6); (try simp only [World.size_alloc] at u6b); (try dsimp only [World.drew] at u6b); (try simp only [World.size_alloc] at u6b); obtain ⟨⟨u6b1, u6b2⟩, ⟨u6b3, u6b4⟩, ⟨u6b5, u6b6⟩, ⟨u6b7, u6b8⟩, u6b9, u6b10⟩ := FrW.facts u6b)); (try ((first | have u6c : FrW W0 w' _ := FrW.below u5a hb6 | have u6c : FrW W0 w' _ := FrW.below (FrW.alloc u5a) hb6 | have u6c : FrW W0 w' _ := FrW.below (FrW.alloc (FrW.alloc u5a)) hb6); (try simp only [World.size_alloc] at u6c); (try dsimp only [World.drew] at u6c); (try simp only [World.size_alloc] at u6c); obtain ⟨⟨u6c1, u6c2⟩, ⟨u6c3, u6c4⟩, ⟨u6c5, u6c6⟩, ⟨u6c7, u6c8⟩, u6c9, u6c10⟩ := FrW.facts u6c)); (try ((first | have u6d : FrW W0 w' _ := FrW.below u5b hb6 | have u6d : FrW W0 w' _ := FrW.below (FrW.alloc u5b) hb6 | have u6d : FrW W0 w' _ := FrW.below (FrW.alloc (FrW.alloc u5b)) hb6); (try simp only [World.size_alloc] at u6d); (try dsimp only [World.drew] at u6d); (try simp only [World.size_alloc] at u6d); obtain ⟨⟨u6d1, u6d2⟩, ⟨u6d3, u6d4⟩, ⟨u6d5, u6d6⟩, ⟨u6d7, u6d8⟩, u6d9, u6d10⟩ := FrW.facts u6d))))
    all_goals (go_wp2_with fail; go_meet; refine ⟨_, _, rfl, rfl, ?_⟩; first | with_reducible exact wput_two ⟨by assumption, by assumption, by first | assumption | omega⟩ hf5 hf6 hbw | with_reducible exact wput_two (FrW2.newR (by assumption) rfl) hf5.alloc hf6.alloc (below_alloc hbw _) | with_reducible exact wput_two (FrW2.newL (by assumption) rfl) hf5.alloc hf6.alloc (below_alloc hbw _) | with_reducible exact wput_nn hf5 hf6 hbw rfl rfl | with_reducible exact wput_mm hf5 hf6 hbw rfl rfl | with_reducible exact wput_ns (by assumption) hf5 hf6 hbw rfl)
  case rest =>
    revert hcut
    generalize wc = W1
    intro hcut
    obtain ⟨b5, b6, rfl, rfl, B5, B6, hbx, ob5, ob6⟩ := hcut
    obtain ⟨hc, hfz⟩ := bcell hbx
    replace k0_0 := (hc _ _ q0).trans k0_0
    replace k0_1 := (hc _ _ q0).trans k0_1
    replace k0_2 := (hc _ _ q0).trans k0_2
    replace k0_3 := (hc _ _ q0).trans k0_3
    replace q0 := Nat.lt_of_lt_of_le q0 hbx.size
    replace k1_0 := (hc _ _ q1).trans k1_0
    replace k1_1 := (hc _ _ q1).trans k1_1
    replace k1_2 := (hc _ _ q1).trans k1_2
    replace k1_3 := (hc _ _ q1).trans k1_3
    replace q1 := Nat.lt_of_lt_of_le q1 hbx.size
    replace ob5 : w.heap.size + 1 + 1 < b5 := Nat.lt_of_lt_of_le q2 ob5
    replace ob6 : w.heap.size + 1 + 1 < b6 := Nat.lt_of_lt_of_le q2 ob6
    replace k2_0 := (hc _ _ q2).trans k2_0
    replace f2_0 := (hfz _ _ q2).trans f2_0
    replace k2_1 := (hc _ _ q2).trans k2_1
    replace f2_1 := (hfz _ _ q2).trans f2_1
    replace k2_2 := (hc _ _ q2).trans k2_2
    replace f2_2 := (hfz _ _ q2).trans f2_2
    replace k2_3 := (hc _ _ q2).trans k2_3
    replace f2_3 := (hfz _ _ q2).trans f2_3
    replace NR := Lib.hid ((hbx.block _ q2).trans NR.out)
    replace q2 := Nat.lt_of_lt_of_le q2 hbx.size
    replace hw0 := below_step' hw0 hbx
    replace H1 := hide ((unhide H1).below hbx)
    replace H3 := hide ((unhide H3).below hbx)
    obtain ⟨A5, c5, l5, m5, n5, H5⟩ := B5
    have kb5_0 : W1.cell? ⟨b5, 0, none⟩ = some (.slice A5 l5.length c5) := cells_of n5 0
    have kb5_1 : W1.cell? ⟨b5, 1, none⟩ = some (.bool m5) := cells_of n5 1
    have qb5 := lt_of_block n5
    replace H5 := hide H5
    clear n5
    obtain ⟨A6, c6, l6, m6, n6, H6⟩ := B6
    have kb6_0 : W1.cell? ⟨b6, 0, none⟩ = some (.slice A6 l6.length c6) := cells_of n6 0
    have kb6_1 : W1.cell? ⟨b6, 1, none⟩ = some (.bool m6) := cells_of n6 1
    have qb6 := lt_of_block n6
    replace H6 := hide H6
    clear n6
    clear hbx hc hfz
    go_wp2_with fail
    refine ((unhide HO1) A5 c5 l5 m5 _ hw0 (unhide H5)).mono ?_
    rintro e W2 ⟨rfl, hbx⟩
    obtain ⟨hc, hfz⟩ := bcell hbx
    replace k0_0 := (hc _ _ q0).trans k0_0
    replace k0_1 := (hc _ _ q0).trans k0_1
    replace k0_2 := (hc _ _ q0).trans k0_2
    replace k0_3 := (hc _ _ q0).trans k0_3
    replace q0 := Nat.lt_of_lt_of_le q0 hbx.size
    replace k1_0 := (hc _ _ q1).trans k1_0
    replace k1_1 := (hc _ _ q1).trans k1_1
    replace k1_2 := (hc _ _ q1).trans k1_2
    replace k1_3 := (hc _ _ q1).trans k1_3
    replace q1 := Nat.lt_of_lt_of_le q1 hbx.size
    replace kb5_0 := (hc _ _ qb5).trans kb5_0
    replace kb5_1 := (hc _ _ qb5).trans kb5_1
    replace qb5 := Nat.lt_of_lt_of_le qb5 hbx.size
    replace kb6_0 := (hc _ _ qb6).trans kb6_0
    replace kb6_1 := (hc _ _ qb6).trans kb6_1
    replace qb6 := Nat.lt_of_lt_of_le qb6 hbx.size
    replace k2_0 := (hc _ _ q2).trans k2_0
    replace f2_0 := (hfz _ _ q2).trans f2_0
    replace k2_1 := (hc _ _ q2).trans k2_1
    replace f2_1 := (hfz _ _ q2).trans f2_1
    replace k2_2 := (hc _ _ q2).trans k2_2
    replace f2_2 := (hfz _ _ q2).trans f2_2
    replace k2_3 := (hc _ _ q2).trans k2_3
    replace f2_3 := (hfz _ _ q2).trans f2_3
    replace NR := Lib.hid ((hbx.block _ q2).trans NR.out)
    replace q2 := Nat.lt_of_lt_of_le q2 hbx.size
    replace hw0 := below_step' hw0 hbx
    replace H1 := hide ((unhide H1).below hbx)
    replace H3 := hide ((unhide H3).below hbx)
    replace H5 := hide ((unhide H5).below hbx)
    replace H6 := hide ((unhide H6).below hbx)
    clear hbx hc hfz
    go_wp2_with fail
    refine ((unhide HO3) A6 c6 l6 m6 _ hw0 (unhide H6)).mono ?_
    rintro e W3 ⟨rfl, hbx⟩
    obtain ⟨hc, hfz⟩ := bcell hbx
    replace k0_0 := (hc _ _ q0).trans k0_0
    replace k0_1 := (hc _ _ q0).trans k0_1
    replace k0_2 := (hc _ _ q0).trans k0_2
    replace k0_3 := (hc _ _ q0).trans k0_3
    replace q0 := Nat.lt_of_lt_of_le q0 hbx.size
    replace k1_0 := (hc _ _ q1).trans k1_0
    replace k1_1 := (hc _ _ q1).trans k1_1
    replace k1_2 := (hc _ _ q1).trans k1_2
    replace k1_3 := (hc _ _ q1).trans k1_3
    replace q1 := Nat.lt_of_lt_of_le q1 hbx.size
    replace kb5_0 := (hc _ _ qb5).trans kb5_0
    replace kb5_1 := (hc _ _ qb5).trans kb5_1
    replace qb5 := Nat.lt_of_lt_of_le qb5 hbx.size
    replace kb6_0 := (hc _ _ qb6).trans kb6_0
    replace kb6_1 := (hc _ _ qb6).trans kb6_1
    replace qb6 := Nat.lt_of_lt_of_le qb6 hbx.size
    replace k2_0 := (hc _ _ q2).trans k2_0
    replace f2_0 := (hfz _ _ q2).trans f2_0
    replace k2_1 := (hc _ _ q2).trans k2_1
    replace f2_1 := (hfz _ _ q2).trans f2_1
    replace k2_2 := (hc _ _ q2).trans k2_2
    replace f2_2 := (hfz _ _ q2).trans f2_2
    replace k2_3 := (hc _ _ q2).trans k2_3
    replace f2_3 := (hfz _ _ q2).trans f2_3
    replace NR := Lib.hid ((hbx.block _ q2).trans NR.out)
    replace q2 := Nat.lt_of_lt_of_le q2 hbx.size
    replace hw0 := below_step' hw0 hbx
    replace H1 := hide ((unhide H1).below hbx)
    replace H3 := hide ((unhide H3).below hbx)
    replace H5 := hide ((unhide H5).below hbx)
    replace H6 := hide ((unhide H6).below hbx)
    clear hbx hc hfz
    go_upto_region 4 with fail
    have KEEP := hide (show ∀ X, Below W3.heap.size W3 X → X.cell? ⟨w.heap.size, 0, none⟩ = some (.slice A1 l1.length c1) ∧ X.cell? ⟨w.heap.size, 1, none⟩ = some (.bool m1) ∧ X.cell? ⟨w.heap.size, 2, none⟩ = some (.slice A2 l2.length c2) ∧ X.cell? ⟨w.heap.size, 3, none⟩ = some (.bool m2) ∧ X.cell? ⟨w.heap.size + 1, 0, none⟩ = some (.slice A3 l3.length c3) ∧ X.cell? ⟨w.heap.size + 1, 1, none⟩ = some (.bool m3) ∧ X.cell? ⟨w.heap.size + 1, 2, none⟩ = some (.slice A4 l4.length c4) ∧ X.cell? ⟨w.heap.size + 1, 3, none⟩ = some (.bool m4) ∧ X.cell? ⟨b5, 0, none⟩ = some (.slice A5 l5.length c5) ∧ X.cell? ⟨b5, 1, none⟩ = some (.bool m5) ∧ X.cell? ⟨b6, 0, none⟩ = some (.slice A6 l6.length c6) ∧ X.cell? ⟨b6, 1, none⟩ = some (.bool m6) from fun X hB => ⟨keep_cell hB q0 k0_0, keep_cell hB q0 k0_1, keep_cell hB q0 k0_2, keep_cell hB q0 k0_3, keep_cell hB q1 k1_0, keep_cell hB q1 k1_1, keep_cell hB q1 k1_2, keep_cell hB q1 k1_3, keep_cell hB qb5 kb5_0, keep_cell hB qb5 kb5_1, keep_cell hB qb6 kb6_0, keep_cell hB qb6 kb6_1⟩)
    go_region_held3 (fun w' => w'.cell? ⟨w.heap.size, 0, none⟩ = some (.slice A1 l1.length c1) ∧ w'.cell? ⟨w.heap.size, 1, none⟩ = some (.bool m1) ∧ w'.cell? ⟨w.heap.size, 2, none⟩ = some (.slice A2 l2.length c2) ∧ w'.cell? ⟨w.heap.size, 3, none⟩ = some (.bool m2) ∧ w'.cell? ⟨w.heap.size + 1, 0, none⟩ = some (.slice A3 l3.length c3) ∧ w'.cell? ⟨w.heap.size + 1, 1, none⟩ = some (.bool m3) ∧ w'.cell? ⟨w.heap.size + 1, 2, none⟩ = some (.slice A4 l4.length c4) ∧ w'.cell? ⟨w.heap.size + 1, 3, none⟩ = some (.bool m4) ∧ w'.cell? ⟨b5, 0, none⟩ = some (.slice A5 l5.length c5) ∧ w'.cell? ⟨b5, 1, none⟩ = some (.bool m5) ∧ w'.cell? ⟨b6, 0, none⟩ = some (.slice A6 l6.length c6) ∧ w'.cell? ⟨b6, 1, none⟩ = some (.bool m6)) (first | with_reducible exact ⟨(cell_set4 _ _ _ _ _ _ (by omega)).trans (keep_cell hbw q0 k0_0), (cell_set4 _ _ _ _ _ _ (by omega)).trans (keep_cell hbw q0 k0_1), (cell_set4 _ _ _ _ _ _ (by omega)).trans (keep_cell hbw q0 k0_2), (cell_set4 _ _ _ _ _ _ (by omega)).trans (keep_cell hbw q0 k0_3), (cell_set4 _ _ _ _ _ _ (by omega)).trans (keep_cell hbw q1 k1_0), (cell_set4 _ _ _ _ _ _ (by omega)).trans (keep_cell hbw q1 k1_1), (cell_set4 _ _ _ _ _ _ (by omega)).trans (keep_cell hbw q1 k1_2), (cell_set4 _ _ _ _ _ _ (by omega)).trans (keep_cell hbw q1 k1_3), (cell_set4 _ _ _ _ _ _ (by omega)).trans (keep_cell hbw qb5 kb5_0), (cell_set4 _ _ _ _ _ _ (by omega)).trans (keep_cell hbw qb5 kb5_1), (cell_set4 _ _ _ _ _ _ (by omega)).trans (keep_cell hbw qb6 kb6_0), (cell_set4 _ _ _ _ _ _ (by omega)).trans (keep_cell hbw qb6 kb6_1)⟩ | with_reducible exact (unhide KEEP) _ (by (repeat (first | with_reducible exact Below.refl _ _ | with_reducible assumption | with_reducible refine Below.drew ?_ | with_reducible refine below_alloc ?_ _)))) (first | (go_at_call_of 98 (Value.agg #[.slice A1 l1.length c1, .bool m1]); refine ((unhide HM1) A1 c1 l1 m1 A6 c6 l6 m6 _ (below_step' hw0 (by (repeat (first | with_reducible exact Below.refl _ _ | with_reducible assumption | with_reducible refine Below.drew ?_ | with_reducible refine below_alloc ?_ _)))) (WholeF.below (unhide H1) (by (repeat (first | with_reducible exact Below.refl _ _ | with_reducible assumption | with_reducible refine Below.drew ?_ | with_reducible refine below_alloc ?_ _)))) (WholeF.below (unhide H6) (by (repeat (first | with_reducible exact Below.refl _ _ | with_reducible assumption | with_reducible refine Below.drew ?_ | with_reducible refine below_alloc ?_ _))))).mono ?_; rintro e w' ⟨A8, c8, l8, m8, rfl, hf8, hb8⟩; have hbw := below_step (w := W3) (by (repeat (first | with_reducible exact Below.refl _ _ | with_reducible assumption | with_reducible refine Below.drew ?_ | with_reducible refine below_alloc ?_ _))) hb8; have hsw := hbw.size; obtain ⟨hc, hfz⟩ := bcell hbw) | (go_at_call_of 98 (Value.agg #[.slice A3 l3.length c3, .bool m3]); refine ((unhide HM3) A3 c3 l3 m3 A5 c5 l5 m5 _ (below_step' hw0 (by (repeat (first | with_reducible exact Below.refl _ _ | with_reducible assumption | with_reducible refine Below.drew ?_ | with_reducible refine below_alloc ?_ _)))) (WholeF.below (unhide H3) (by (repeat (first | with_reducible exact Below.refl _ _ | with_reducible assumption | with_reducible refine Below.drew ?_ | with_reducible refine below_alloc ?_ _)))) (WholeF.below (unhide H5) (by (repeat (first | with_reducible exact Below.refl _ _ | with_reducible assumption | with_reducible refine Below.drew ?_ | with_reducible refine below_alloc ?_ _))))).mono ?_; rintro e w' ⟨A9, c9, l9, m9, rfl, hf9, hb9⟩; have hf8 := WholeF.below (WholeF.below hf8 (by (repeat (first | with_reducible exact Below.refl _ _ | with_reducible assumption | with_reducible refine Below.drew ?_ | with_reducible refine below_alloc ?_ _)))) hb9; have hbw := below_step (w := W3) (by (repeat (first | with_reducible exact Below.refl _ _ | with_reducible assumption | with_reducible refine Below.drew ?_ | with_reducible refine below_alloc ?_ _))) hb9; have hsw := hbw.size; obtain ⟨hc, hfz⟩ := bcell hbw) | (go_at_call_of 97 (Value.agg #[.slice A8 l8.length c8, .bool m8]); refine ((unhide HN) A8 c8 l8 m8 A9 c9 l9 m9 _ (below_step' hw0 (by (repeat (first | with_reducible exact Below.refl _ _ | with_reducible assumption | with_reducible refine Below.drew ?_ | with_reducible refine below_alloc ?_ _)))) (WholeF.below hf8 (by (repeat (first | with_reducible exact Below.refl _ _ | with_reducible assumption | with_reducible refine Below.drew ?_ | with_reducible refine below_alloc ?_ _)))) (WholeF.below hf9 (by (repeat (first | with_reducible exact Below.refl _ _ | with_reducible assumption | with_reducible refine Below.drew ?_ | with_reducible refine below_alloc ?_ _))))).mono ?_; rintro e w' ⟨A10, c10, l10, m10, rfl, hf10, hb10⟩; have hf8 := WholeF.below (WholeF.below hf8 (by (repeat (first | with_reducible exact Below.refl _ _ | with_reducible assumption | with_reducible refine Below.drew ?_ | with_reducible refine below_alloc ?_ _)))) hb10; have hf9 := WholeF.below (WholeF.below hf9 (by (repeat (first | with_reducible exact Below.refl _ _ | with_reducible assumption | with_reducible refine Below.drew ?_ | with_reducible refine below_alloc ?_ _)))) hb10; have hbw := below_step (w := W3) (by (repeat (first | with_reducible exact Below.refl _ _ | with_reducible assumption | with_reducible refine Below.drew ?_ | with_reducible refine below_alloc ?_ _))) hb10; have hsw := hbw.size; obtain ⟨hc, hfz⟩ := bcell hbw) | (go_at_call_of 98 (Value.agg #[.slice A5 l5.length c5, .bool m5]); refine ((unhide HM) A5 c5 l5 m5 A6 c6 l6 m6 _ (below_step' hw0 (by (repeat (first | with_reducible exact Below.refl _ _ | with_reducible assumption | with_reducible refine Below.drew ?_ | with_reducible refine below_alloc ?_ _)))) (WholeF.below (unhide H5) (by (repeat (first | with_reducible exact Below.refl _ _ | with_reducible assumption | with_reducible refine Below.drew ?_ | with_reducible refine below_alloc ?_ _)))) (WholeF.below (unhide H6) (by (repeat (first | with_reducible exact Below.refl _ _ | with_reducible assumption | with_reducible refine Below.drew ?_ | with_reducible refine below_alloc ?_ _))))).mono ?_; rintro e w' ⟨A11, c11, l11, m11, rfl, hf11, hb11⟩; have hf8 := WholeF.below (WholeF.below hf8 (by (repeat (first | with_reducible exact Below.refl _ _ | with_reducible assumption | with_reducible refine Below.drew ?_ | with_reducible refine below_alloc ?_ _)))) hb11; have hf9 := WholeF.below (WholeF.below hf9 (by (repeat (first | with_reducible exact Below.refl _ _ | with_reducible assumption | with_reducible refine Below.drew ?_ | with_reducible refine below_alloc ?_ _)))) hb11; have hf10 := WholeF.below (WholeF.below hf10 (by (repeat (first | with_reducible exact Below.refl _ _ | with_reducible assumption | with_reducible refine Below.drew ?_ | with_reducible refine below_alloc ?_ _)))) hb11; have hbw := below_step (w := W3) (by (repeat (first | with_reducible exact Below.refl _ _ | with_reducible assumption | with_reducible refine Below.drew ?_ | with_reducible refine below_alloc ?_ _))) hb11; have hsw := hbw.size; obtain ⟨hc, hfz⟩ := bcell hbw) | (go_at_call_of 92 (Value.agg #[.slice A10 l10.length c10, .bool m10]); refine ((unhide HR) A10 c10 l10 m10 A11 c11 l11 m11 _ (below_step' hw0 (by (repeat (first | with_reducible exact Below.refl _ _ | with_reducible assumption | with_reducible refine Below.drew ?_ | with_reducible refine below_alloc ?_ _)))) (WholeF.below hf10 (by (repeat (first | with_reducible exact Below.refl _ _ | with_reducible assumption | with_reducible refine Below.drew ?_ | with_reducible refine below_alloc ?_ _)))) (WholeF.below hf11 (by (repeat (first | with_reducible exact Below.refl _ _ | with_reducible assumption | with_reducible refine Below.drew ?_ | with_reducible refine below_alloc ?_ _))))).mono ?_; rintro e w' ⟨A12, c12, l12, m12, A13, c13, l13, m13, rfl, hf12, hf13, hb12⟩; have hf8 := WholeF.below (WholeF.below hf8 (by (repeat (first | with_reducible exact Below.refl _ _ | with_reducible assumption | with_reducible refine Below.drew ?_ | with_reducible refine below_alloc ?_ _)))) hb12; have hf9 := WholeF.below (WholeF.below hf9 (by (repeat (first | with_reducible exact Below.refl _ _ | with_reducible assumption | with_reducible refine Below.drew ?_ | with_reducible refine below_alloc ?_ _)))) hb12; have hf10 := WholeF.below (WholeF.below hf10 (by (repeat (first | with_reducible exact Below.refl _ _ | with_reducible assumption | with_reducible refine Below.drew ?_ | with_reducible refine below_alloc ?_ _)))) hb12; have hf11 := WholeF.below (WholeF.below hf11 (by (repeat (first | with_reducible exact Below.refl _ _ | with_reducible assumption | with_reducible refine Below.drew ?_ | with_reducible refine below_alloc ?_ _)))) hb12; have hbw := below_step (w := W3) (by (repeat (first | with_reducible exact Below.refl _ _ | with_reducible assumption | with_reducible refine Below.drew ?_ | with_reducible refine below_alloc ?_ _))) hb12; have hsw := hbw.size; obtain ⟨hc, hfz⟩ := bcell hbw))
    all_goals
      have hblk : w'.heap[w.heap.size + 1 + 1]? = some (.cells #[.slice none 0 0, .bool false, .slice none 0 0, .bool false] 52 (0, 0)) := (hbw.block _ q2).trans NR.out
      have HBLK := Lib.hid hblk
      have hb9 : Below w.heap.size w w' := below_step' hw0 hbw
      have hfi := (hf12)
      have hfj := (hf13)
      clear hblk
      go_wp2_with fail
      exact bodyPost_ret (v := (Value.agg #[.slice A12 l12.length c12, .bool m12, .slice A13 l13.length c13, .bool m13])) (by simp [results, Tryz.results43, go_sem, hc, k2_0, k2_1, k2_2, k2_3, q2]) rfl
        ⟨A12, c12, l12, m12, A13, c13, l13, m13, rfl, hfi.upto HBLK.out (noW2_4 _ _ _ _ _ _ _ _) (set4_grown _ _ _ _ _ _), hfj.upto HBLK.out (noW2_4 _ _ _ _ _ _ _ _) (set4_grown _ _ _ _ _ _), hb9.grown (set4_grown _ _ _ _ _ _) hb9.size (fun k hk => by injection hk with hk; omega)⟩

end Go.Proofs.YtpjgoogeokbaaaaGreatDoor
/- The walks through the opposite and the difference of numbers of the reference. -/
namespace Go.Proofs.YtpjgoogeokbaaaaGreatDoor
open Go.RowKit

end Go.Proofs.YtpjgoogeokbaaaaGreatDoor
/- The reference's numbers: what their sums and differences are. -/
namespace Go.Proofs.YtpjgoogeokbaaaaGreatDoor
open Go.RowKit

namespace Wd
theorem add_q (x y : Rat) : x + y = Rat.divInt (x.num * (y.den : Int) + y.num * (x.den : Int)) ((x.den : Int) * (y.den : Int)) := by
  have hx := x.den_nz; have hy := y.den_nz
  conv => lhs; rw [← Rat.num_divInt_den x, ← Rat.num_divInt_den y]
  exact Rat.divInt_add_divInt _ _ (by omega) (by omega)
theorem mul_q (x y : Rat) : x * y = Rat.divInt (x.num * y.num) ((x.den : Int) * (y.den : Int)) := by
  conv => lhs; rw [← Rat.num_divInt_den x, ← Rat.num_divInt_den y]
  exact Rat.divInt_mul_divInt _ _
theorem int_q (n : Int) : (Rat.divInt n 1).num = n ∧ (Rat.divInt n 1).den = 1 := by
  have h : Rat.divInt n 1 = (n : Rat) := by
    rw [← Rat.num_divInt_den (n : Rat)]; rfl
  rw [h]
  exact ⟨rfl, rfl⟩
theorem add_i {x y : Rat} (hx : (x.den : Int) = 1) (hy : (y.den : Int) = 1) : x.num + y.num = (x + y).num ∧ (x.den : Int) = ((x + y).den : Int) := by
  have h : x + y = Rat.divInt (x.num + y.num) 1 := by
    rw [add_q, hx, hy]; simp
  rw [h, (int_q _).1, (int_q _).2]; exact ⟨rfl, hx⟩
theorem mul_i {x y : Rat} (hx : (x.den : Int) = 1) (hy : (y.den : Int) = 1) : x.num * y.num = (x * y).num ∧ (x.den : Int) = ((x * y).den : Int) := by
  have h : x * y = Rat.divInt (x.num * y.num) 1 := by
    rw [mul_q, hx, hy]; simp
  rw [h, (int_q _).1, (int_q _).2]; exact ⟨rfl, hx⟩
/-- Both parts of a number are below the base to the power of K. -/
def SzQ (B K : Nat) (q : Rat) : Prop := Sz B K q.num ∧ Sz B K (q.den : Int)
end Wd

theorem ow_mul {w : World} {a b c : Int} {K L : Nat} (ha : Wd.Sz B32 K a) (hb : Wd.Sz B32 L b) (hK : K + L ≤ 35184372088832) (e : c = a * b) : OpW2 w 98 a b c := by
  subst e
  exact fun A1 c1 l1 m1 A2 c2 l2 m2 W _ f g => tmul_any A1 c1 l1 m1 a A2 c2 l2 m2 b W f g (by have := f.len ha; have := g.len hb; omega)
theorem ow_add {w : World} {a b c : Int} {K L : Nat} (ha : Wd.Sz B32 K a) (hb : Wd.Sz B32 L b) (hK : K + L + 1 ≤ 35184372088832) (e : c = a + b) : OpW2 w 97 a b c := by
  subst e
  exact fun A1 c1 l1 m1 A2 c2 l2 m2 W _ f g => tadd_any A1 c1 l1 m1 a A2 c2 l2 m2 b W f g (by have := f.len ha; have := g.len hb; omega)
theorem oq_ratio {w : World} {a b : Int} {q : Rat} {K : Nat} (ha : Wd.Sz B32 K a) (hb : Wd.Sz B32 K b) (h0 : b ≠ 0) (hK : K + 1 ≤ 35184372088832) (e : q = Rat.divInt a b) : OpRQ w 92 a b q := by
  subst e
  exact fun A1 c1 l1 m1 A2 c2 l2 m2 W _ f g => tratio_any A1 c1 l1 m1 a A2 c2 l2 m2 b K W f g h0 ha hb hK
theorem o_one {w : World} {b : Int} {o : Bool} (h : o = decide (b = 1)) : ∀ (A7 : Option Addr) (c7 : Nat) (l7 : List Nat) (m7 : Bool) (W : World), Below w.heap.size w W → WholeF W A7 c7 l7 m7 b → Calls Tryz.prog 96 #[(Value.agg #[.slice A7 l7.length c7, .bool m7])] W fun e w' => e = .returned (.bool o) ∧ Below W.heap.size W w' := by
  subst h
  exact fun A c l m W _ f => tisOne_any A c l m b W f

theorem tqadd_any (K : Nat) (A1 : Option Addr) (c1 : Nat) (l1 : List Nat) (m1 : Bool) (A2 : Option Addr) (c2 : Nat) (l2 : List Nat) (m2 : Bool) (A3 : Option Addr) (c3 : Nat) (l3 : List Nat) (m3 : Bool) (A4 : Option Addr) (c4 : Nat) (l4 : List Nat) (m4 : Bool) (x y : Rat) (w : World) (h1 : QV w A1 c1 l1 m1 A2 c2 l2 m2 x) (h2 : QV w A3 c3 l3 m3 A4 c4 l4 m4 y) (sx : Wd.SzQ B32 K x) (sy : Wd.SzQ B32 K y) (hK : 4 * K + 4 ≤ 35184372088832) :
    Calls Tryz.prog 43 #[.agg #[.slice A1 l1.length c1, .bool m1, .slice A2 l2.length c2, .bool m2], .agg #[.slice A3 l3.length c3, .bool m3, .slice A4 l4.length c4, .bool m4]] w fun e w' => QR w (x + y) e w' := by
  have hd1 := fun W (hW : Below w.heap.size w W) => tdenv_any A1 c1 l1 m1 A2 c2 l2 m2 x W (h1.below hW)
  have hd3 := fun W (hW : Below w.heap.size w W) => tdenv_any A3 c3 l3 m3 A4 c4 l4 m4 y W (h2.below hW)
  have hx := x.den_nz; have hy := y.den_nz
  have s1 : Wd.Sz B32 (2 * K + 1) (x.num * (y.den : Int) + y.num * (x.den : Int)) := by
    have a := sx.1.mul sy.2; have b := sy.1.mul sx.2
    rw [← Nat.two_mul] at a b
    exact a.add B32_pos b
  have s2 : Wd.Sz B32 (2 * K + 1) ((x.den : Int) * (y.den : Int)) := (sx.2.mul sy.2).mono B32_pos (by omega)
  have a1 := ow_mul (w := w) sx.1 sy.2 (by omega) rfl
  have a3 := ow_mul (w := w) sy.1 sx.2 (by omega) rfl
  have an := ow_add (w := w) (sx.1.mul sy.2) (sy.1.mul sx.2) (by omega) rfl
  have am := ow_mul (w := w) sx.2 sy.2 (by omega) rfl
  have ar := oq_ratio (w := w) s1 s2 (Int.mul_ne_zero (by omega) (by omega)) (by omega) (Wd.add_q x y)
  by_cases e1 : (x.den : Int) = 1
  · by_cases e2 : (y.den : Int) = 1
    · exact qadd_tt A1 c1 l1 m1 A2 c2 l2 m2 A3 c3 l3 m3 A4 c4 l4 m4 x.num (x.den : Int) y.num (y.den : Int) _ (x + y) w h1.num h2.num hd1 hd3 (o_one (decide_eq_true e1).symm) (o_one (decide_eq_true e2).symm) (ow_add sx.1 sy.1 (by omega) rfl) (Wd.add_i e1 e2).1 (Wd.add_i e1 e2).2
    · exact qadd_tf A1 c1 l1 m1 A2 c2 l2 m2 A3 c3 l3 m3 A4 c4 l4 m4 x.num (x.den : Int) y.num (y.den : Int) _ _ _ _ (x + y) w h1.num h2.num hd1 hd3 (o_one (decide_eq_true e1).symm) (o_one (decide_eq_false e2).symm) a1 a3 an am ar
  · exact qadd_f A1 c1 l1 m1 A2 c2 l2 m2 A3 c3 l3 m3 A4 c4 l4 m4 x.num (x.den : Int) y.num (y.den : Int) _ _ _ _ (x + y) w h1.num h2.num hd1 hd3 (o_one (decide_eq_false e1).symm) a1 a3 an am ar
end Go.Proofs.YtpjgoogeokbaaaaGreatDoor
/- Numbers as arguments of the reference. -/
namespace Go.Proofs.YtpjgoogeokbaaaaGreatDoor
open Go.RowKit


theorem okR_bounds {n d : Int} (h : Wd.okR n d) : -9223372036854775808 ≤ n ∧ n ≤ 9223372036854775807 ∧ -9223372036854775808 ≤ d ∧ d ≤ 9223372036854775807 ∧ d ≠ 0 := by
  obtain ⟨r1, r2, r3, r4, _⟩ := h
  exact ⟨by omega, by omega, by omega, by omega, by omega⟩
theorem okR_szq {n d : Int} (h : Wd.okR n d) : Wd.SzQ B32 2 (Wd.qR n d) := by
  obtain ⟨a1, a2⟩ := Wd.qR_ok h
  obtain ⟨r1, r2, r3, r4, _⟩ := h
  unfold Wd.SzQ Wd.Sz
  rw [a1, a2, B32_eq]
  exact ⟨by omega, by omega⟩
theorem of_ok {n d : Int} (h : Wd.okR n d) (W : World) : Calls Tryz.prog 41 #[(Value.agg #[.int .i64 n, .int .i64 d])] W fun e w' => QR W (Wd.qR n d) e w' := by
  obtain ⟨b1, b2, b3, b4, b5⟩ := okR_bounds h
  exact tOf_any n d W b1 b2 b3 b4 b5
end Go.Proofs.YtpjgoogeokbaaaaGreatDoor
/- The simplest number between two: on natural numbers. -/
namespace Go.Proofs.YtpjgoogeokbaaaaGreatDoor
namespace Wd

/-- Numerator and denominator of the simplest number from a/b to c/d. -/
def simp : Nat → Nat → Nat → Nat → Nat → Nat × Nat
  | 0, _, _, _, _ => (0, 1)
  | f + 1, a, b, c, d => if b = 1 then (a, 1) else if a / b < c / d then (a / b + 1, 1)
    else (a / b * (simp f d (c - a / b * d) b (a - a / b * b)).1 + (simp f d (c - a / b * d) b (a - a / b * b)).2, (simp f d (c - a / b * d) b (a - a / b * b)).1)

structure SimpOk (a b c d : Nat) : Prop where
  pa : 0 < a
  pb : 0 < b
  pc : 0 < c
  pd : 0 < d
  co : a.Coprime b
  co2 : c.Coprime d
  le : a * d ≤ c * b

theorem sub_div_mul (a b : Nat) : a - a / b * b = a % b := by
  have := Nat.div_add_mod a b
  rw [Nat.mul_comm] at this
  omega
theorem SimpOk.step {a b c d : Nat} (h : SimpOk a b c d) (hb : b ≠ 1) (hk : ¬ a / b < c / d) :
    SimpOk d (c - a / b * d) b (a - a / b * b) ∧ c / d = a / b ∧ c - a / b * d = c % d ∧ c - a / b * d < d ∧ a - a / b * b < b := by
  have ha := h.pa; have hb0 := h.pb; have hc := h.pc; have hd := h.pd
  have e1 := Nat.div_add_mod a b
  have r0 : a % b ≠ 0 := fun e => by
    have hdv := Nat.dvd_of_mod_eq_zero e
    have := Nat.Coprime.eq_one_of_dvd h.co.symm hdv
    exact hb this
  have hkd : a / b ≤ c / d := by
    rw [Nat.le_div_iff_mul_le hd]
    have h2 : a / b * b * d ≤ c * b := Nat.le_trans (Nat.mul_le_mul_right _ (Nat.div_mul_le_self a b)) h.le
    rw [Nat.mul_right_comm] at h2
    exact Nat.le_of_mul_le_mul_right h2 hb0
  have hq : c / d = a / b := by omega
  have e2 : c - a / b * d = c % d := by rw [← hq]; exact sub_div_mul c d
  have e3 := sub_div_mul a b
  have e4 := Nat.div_add_mod c d
  have hle : a % b * d ≤ c % d * b := by
    have hle := h.le
    rw [hq] at e4
    generalize a / b = k at *
    generalize a % b = r at *
    generalize c % d = s at *
    subst e1 e4
    rw [Nat.add_mul, Nat.add_mul] at hle
    have : b * k * d = d * k * b := by rw [Nat.mul_comm b k, Nat.mul_assoc, Nat.mul_comm b d, ← Nat.mul_assoc, Nat.mul_comm k d]
    omega
  have s0 : 0 < c % d := by
    rcases Nat.eq_zero_or_pos (c % d) with e | e
    · rw [e, Nat.zero_mul] at hle
      have := Nat.mul_pos (Nat.pos_of_ne_zero r0) hd
      omega
    · exact e
  rw [e2, e3]
  refine ⟨⟨hd, s0, hb0, Nat.pos_of_ne_zero r0, ?_, ?_, ?_⟩, hq, rfl, Nat.mod_lt _ hd, Nat.mod_lt _ hb0⟩
  · have := h.co2
    unfold Nat.Coprime at *
    rw [Nat.gcd_comm, ← Nat.gcd_rec, Nat.gcd_comm]; exact this
  · have := h.co
    unfold Nat.Coprime at *
    rw [Nat.gcd_comm, ← Nat.gcd_rec, Nat.gcd_comm]; exact this
  · rw [Nat.mul_comm, Nat.mul_comm b]; exact hle
/-- A fraction of natural numbers. -/
def fr (n d : Nat) : Rat := Rat.divInt (n : Int) (d : Int)
end Wd
end Go.Proofs.YtpjgoogeokbaaaaGreatDoor
/- Continued fractions, on ints. -/
namespace Go.Proofs.YtpjgoogeokbaaaaGreatDoor
namespace Wd

/-- The continued fraction of n/d. -/
def cf : Nat → Int → Int → List Int
  | 0, _, _ => []
  | f + 1, n, d => if d = 0 then [] else n / d :: cf f d (n % d)
theorem cf_len : ∀ (f : Nat) (n d : Int), (cf f n d).length ≤ f
  | 0, _, _ => Nat.le_refl _
  | f + 1, n, d => by
    unfold cf
    split
    · exact Nat.zero_le _
    · have := cf_len f d (n % d)
      rw [List.length_cons]; omega
theorem cf_zero (f : Nat) (n : Int) : cf f n 0 = [] := by
  cases f with
  | zero => rfl
  | succ f => simp [cf]
/-- Ahead of a round: what has been told and what is left. -/
structure CfInv (L l : List Int) (n d : Int) : Prop where
  ok : ∃ f : Nat, d < f ∧ l ++ cf f n d = L ∧ L.length ≤ l.length + f
  d0 : 0 ≤ d
  nb : -1000000000000 ≤ n ∧ n ≤ 1000000000000
  db : d ≤ 1000000000000
theorem CfInv.start {n d : Int} (h : okR n d) : CfInv (cf (d.toNat + 1) n d) [] n d := by
  obtain ⟨h1, h2, h3, h4, _⟩ := h
  exact ⟨⟨d.toNat + 1, by omega, rfl, by have := cf_len (d.toNat + 1) n d; simpa using this⟩, by omega, ⟨by omega, by omega⟩, by omega⟩
theorem CfInv.step {L l : List Int} {n d : Int} (h : CfInv L l n d) (hd : 0 < d) : CfInv L (l ++ [n / d]) d (n % d) ∧ n - n / d * d = n % d ∧ -1000000000000 ≤ n / d ∧ n / d ≤ 1000000000000 ∧ -2000000000000 ≤ n / d * d ∧ n / d * d ≤ 2000000000000 := by
  obtain ⟨⟨f, h1, h2, h3⟩, h4, h5, h6⟩ := h
  have e1 := Int.emod_nonneg n (show d ≠ 0 by omega)
  have e2 := Int.emod_lt_of_pos n hd
  have e3 := Int.mul_ediv_add_emod n d
  rw [Int.mul_comm] at e3
  have lo : -1000000000000 ≤ n / d := by
    rw [Int.le_ediv_iff_mul_le hd]
    omega
  have hi : n / d ≤ 1000000000000 := by
    rcases Int.lt_or_le n 0 with hn | hn
    · have : n / d < 0 := Int.ediv_neg_of_neg_of_pos hn hd
      omega
    · have := Int.ediv_le_self d hn
      omega
  have e4 : n - n / d * d = n % d ∧ -2000000000000 ≤ n / d * d ∧ n / d * d ≤ 2000000000000 := by
    generalize n / d * d = t at *
    generalize n % d = r at *
    exact ⟨by omega, by omega, by omega⟩
  refine ⟨⟨?_, e1, by omega, by omega⟩, e4.1, lo, hi, e4.2.1, e4.2.2⟩
  cases f with
  | zero => omega
  | succ f =>
    refine ⟨f, by omega, ?_, by simp; omega⟩
    rw [← h2]
    simp only [cf, if_neg (show ¬ d = 0 by omega), List.append_assoc, List.cons_append, List.nil_append]
theorem CfInv.done {L l : List Int} {n : Int} (h : CfInv L l n 0) : l = L := by
  obtain ⟨⟨f, h1, h2, h3⟩, _, _, _⟩ := h
  rw [cf_zero, List.append_nil] at h2
  exact h2
theorem CfInv.len {L l : List Int} {n d : Int} (h : CfInv L l n d) (hL : L.length ≤ 1000000000001) : l.length ≤ 1000000000001 := by
  obtain ⟨⟨f, h1, h2, h3⟩, _, _, _⟩ := h
  rw [← h2, List.length_append] at hL
  omega
end Wd
end Go.Proofs.YtpjgoogeokbaaaaGreatDoor
/- The number of a continued fraction. -/
namespace Go.Proofs.YtpjgoogeokbaaaaGreatDoor
namespace Wd

theorem one_parts (a : Int) : (Rat.divInt a 1).num = a ∧ ((Rat.divInt a 1).den : Int) = 1 := by
  have h : Rat.divInt a 1 = (a : Rat) := by
    rw [← Rat.num_divInt_den (a : Rat)]; rfl
  rw [h]
  exact ⟨rfl, rfl⟩
/-- Which lists are continued fractions. -/
def JoinOk (l : List Int) : Prop := 0 < l.length ∧ (∀ i, i < l.length → 1 ≤ i → 1 ≤ l.getD i 0) ∧ (l.length = 1 ∨ l.getD (l.length - 1) 0 ≠ 1)
instance (l : List Int) : Decidable (JoinOk l) := by unfold JoinOk; infer_instance
end Wd
end Go.Proofs.YtpjgoogeokbaaaaGreatDoor
/- The program: quotients in memory, an int as a quotient. -/
namespace Go.Proofs.YtpjgoogeokbaaaaGreatDoor
open Go.RowKit

/-- A quotient of the program in memory. -/
structure IQ (w : World) (s1a : Int) (neg1a : Bool) (A1a : Option Addr) (c1a : Nat) (l1a : List Nat) (s1b : Int) (neg1b : Bool) (A1b : Option Addr) (c1b : Nat) (l1b : List Nat) (q : Rat) : Prop where
  n : IntF w s1a neg1a A1a c1a l1a q.num
  d : IntF w s1b neg1b A1b c1b l1b (q.den : Int)
theorem IQ.below {w w' : World} {s1a : Int} {neg1a : Bool} {A1a : Option Addr} {c1a : Nat} {l1a : List Nat} {s1b : Int} {neg1b : Bool} {A1b : Option Addr} {c1b : Nat} {l1b : List Nat} {q : Rat} (h : IQ w s1a neg1a A1a c1a l1a s1b neg1b A1b c1b l1b q) (hb : Below w.heap.size w w') : IQ w' s1a neg1a A1a c1a l1a s1b neg1b A1b c1b l1b q := ⟨h.n.below hb, h.d.below hb⟩
/-- Block b holds a quotient of the program. -/
def BoxT (w : World) (b : Nat) (q : Rat) : Prop := ∃ s1a neg1a A1a c1a l1a s1b neg1b A1b c1b l1b, w.heap[b]? = some (.cells #[.int .i64 s1a, .bool neg1a, .slice A1a (List.length l1a) c1a, .int .i64 s1b, .bool neg1b, .slice A1b (List.length l1b) c1b] 63 (0, 0)) ∧ IQ w s1a neg1a A1a c1a l1a s1b neg1b A1b c1b l1b q
theorem boxt_new {W : World} {s1a : Int} {neg1a : Bool} {A1a : Option Addr} {c1a : Nat} {l1a : List Nat} {s1b : Int} {neg1b : Bool} {A1b : Option Addr} {c1b : Nat} {l1b : List Nat} {q : Rat} (h : IQ W s1a neg1a A1a c1a l1a s1b neg1b A1b c1b l1b q) : BoxT (W.alloc (.cells #[.int .i64 s1a, .bool neg1a, .slice A1a l1a.length c1a, .int .i64 s1b, .bool neg1b, .slice A1b l1b.length c1b] 63)) W.heap.size q :=
  ⟨_, _, _, _, _, _, _, _, _, _, heap_alloc_new W _, h.below ((Below.refl _ _).alloc (Nat.le_refl _) _)⟩
theorem boxt_below {w w' : World} {b : Nat} {q : Rat} (h : BoxT w b q) (hb : Below w.heap.size w w') : BoxT w' b q := by
  obtain ⟨s1a, neg1a, A1a, c1a, l1a, s1b, neg1b, A1b, c1b, l1b, h1, h2⟩ := h
  exact ⟨s1a, neg1a, A1a, c1a, l1a, s1b, neg1b, A1b, c1b, l1b, (hb.block _ (lt_of_block h1)).trans h1, h2.below hb⟩
theorem set6_block {W : World} {b : Nat} {a0 a1 a2 a3 a4 a5 u0 u1 u2 u3 u4 u5 : Value} {T : TypeId} (h : W.heap[b]? = some (.cells #[a0, a1, a2, a3, a4, a5] T (0, 0))) : ((((((W.setCell ⟨b, 0, none⟩ u0).setCell ⟨b, 1, none⟩ u1).setCell ⟨b, 2, none⟩ u2).setCell ⟨b, 3, none⟩ u3).setCell ⟨b, 4, none⟩ u4).setCell ⟨b, 5, none⟩ u5).heap[b]? = some (.cells #[u0, u1, u2, u3, u4, u5] T (0, 0)) := by
  simp [World.setCell, Array.getElem?_modify, h]
theorem boxt_store {w W : World} {B b : Nat} {q x : Rat} {s2a : Int} {neg2a : Bool} {A2a : Option Addr} {c2a : Nat} {l2a : List Nat} {s2b : Int} {neg2b : Bool} {A2b : Option Addr} {c2b : Nat} {l2b : List Nat} (hq : BoxT W b q) (hv : IQ W s2a neg2a A2a c2a l2a s2b neg2b A2b c2b l2b x) (hb : Below B w W) (hB : B ≤ b) (hBW : B ≤ W.heap.size) : BoxT ((((((W.setCell ⟨b, 0, none⟩ (.int .i64 s2a)).setCell ⟨b, 1, none⟩ (.bool neg2a)).setCell ⟨b, 2, none⟩ (.slice A2a l2a.length c2a)).setCell ⟨b, 3, none⟩ (.int .i64 s2b)).setCell ⟨b, 4, none⟩ (.bool neg2b)).setCell ⟨b, 5, none⟩ (.slice A2b l2b.length c2b)) b x ∧ Below B w ((((((W.setCell ⟨b, 0, none⟩ (.int .i64 s2a)).setCell ⟨b, 1, none⟩ (.bool neg2a)).setCell ⟨b, 2, none⟩ (.slice A2a l2a.length c2a)).setCell ⟨b, 3, none⟩ (.int .i64 s2b)).setCell ⟨b, 4, none⟩ (.bool neg2b)).setCell ⟨b, 5, none⟩ (.slice A2b l2b.length c2b)) := by
  obtain ⟨s1a, neg1a, A1a, c1a, l1a, s1b, neg1b, A1b, c1b, l1b, h1, h2⟩ := hq
  have hg := set6_grown W b (.int .i64 s2a) (.bool neg2a) (.slice A2a l2a.length c2a) (.int .i64 s2b) (.bool neg2b) (.slice A2b l2b.length c2b)
  exact ⟨⟨_, _, _, _, _, _, _, _, _, _, set6_block h1, ⟨hv.n.upto h1 (noWord6 _ _ _ _ _ _ _ _ _ _) hg, hv.d.upto h1 (noWord6 _ _ _ _ _ _ _ _ _ _) hg⟩⟩, hb.grown hg hBW (fun k hk => by injection hk with hk; omega)⟩
set_option maxRecDepth 100000 in
set_option maxHeartbeats 16000000 in
theorem rwhole_any (n : Int) (w : World) (b1 : -9223372036854775808 ≤ n) (b2 : n ≤ 9223372036854775807) :
    Calls Tryz.prog 70 #[.int .i64 n] w fun e w' => PairR w (Rat.divInt n 1).num ((Rat.divInt n 1).den : Int) e w' := by
  have hN := hide (fun W => newInt_any n b1 b2 W)
  have hO := hide (fun W => newInt_any 1 (by omega) (by omega) W)
  rw [(Wd.one_parts n).1, (Wd.one_parts n).2]
  clear b1 b2
  go_enter Tryz.func70, Tryz.ntmps70
  go_wp2_with fail
  obtain ⟨n0, hsz, hw0⟩ := one_new w (.cells #[.int .i64 0, .bool false, .slice none 0 0, .int .i64 0, .bool false, .slice none 0 0] 63)
  generalize w.alloc (.cells #[.int .i64 0, .bool false, .slice none 0 0, .int .i64 0, .bool false, .slice none 0 0] 63) = W0 at *
  have r0 : W0.cell? ⟨w.heap.size, 0, none⟩ = some (.int .i64 0) := cells_of n0 0
  have f0 := unfrozen_of n0 0
  have r1 : W0.cell? ⟨w.heap.size, 1, none⟩ = some (.bool false) := cells_of n0 1
  have f1 := unfrozen_of n0 1
  have r2 : W0.cell? ⟨w.heap.size, 2, none⟩ = some (.slice none 0 0) := cells_of n0 2
  have f2 := unfrozen_of n0 2
  have r3 : W0.cell? ⟨w.heap.size, 3, none⟩ = some (.int .i64 0) := cells_of n0 3
  have f3 := unfrozen_of n0 3
  have r4 : W0.cell? ⟨w.heap.size, 4, none⟩ = some (.bool false) := cells_of n0 4
  have f4 := unfrozen_of n0 4
  have r5 : W0.cell? ⟨w.heap.size, 5, none⟩ = some (.slice none 0 0) := cells_of n0 5
  have f5 := unfrozen_of n0 5
  have q0 := lt_of_block n0
  have NR := Lib.hid n0
  clear n0 hsz
  refine ((unhide hN) _).mono ?_
  rintro e W1 ⟨s1a, neg1a, A1a, c1a, l1a, rfl, g1, hb⟩
  have G1 := hide g1; have HB := hide hb
  clear g1 hb
  go_wp2_with fail
  refine ((unhide hO) _).mono ?_
  rintro e w' ⟨s1b, neg1b, A1b, c1b, l1b, rfl, g2, hb2⟩
  have G1' := hide ((unhide G1).below hb2)
  have hb := below_step' (unhide HB) hb2
  obtain ⟨hc, hfz⟩ := bcell hb
  have hblk := (hb.block _ q0).trans NR.out
  have HBLK := Lib.hid hblk
  have hb9 := below_step' hw0 hb
  have HB9 := hide hb9
  have G2 := hide g2
  clear g2 hb hb2 hb9 hblk
  go_wp2_with fail
  exact bodyPost_ret (v := (Value.agg #[.int .i64 s1a, .bool neg1a, .slice A1a l1a.length c1a, .int .i64 s1b, .bool neg1b, .slice A1b l1b.length c1b])) (by simp [results, Tryz.results70, go_sem, hc, r0, r1, r2, r3, r4, r5, q0]) rfl
    ⟨s1a, neg1a, A1a, c1a, l1a, s1b, neg1b, A1b, c1b, l1b, rfl, (unhide G1').upto HBLK.out (noWord6 _ _ _ _ _ _ _ _ _ _) (set6_grown _ _ _ _ _ _ _ _), (unhide G2).upto HBLK.out (noWord6 _ _ _ _ _ _ _ _ _ _) (set6_grown _ _ _ _ _ _ _ _), (unhide HB9).grown (set6_grown _ _ _ _ _ _ _ _) (unhide HB9).size (fun k hk => by injection hk with hk; omega)⟩

end Go.Proofs.YtpjgoogeokbaaaaGreatDoor
/- Slices of ints that came in. -/
namespace Go.Proofs.YtpjgoogeokbaaaaGreatDoor
open Go.RowKit

/-- The ints of a slice that came in. -/
def gi (l : List Int) (i : Nat) : Int := l.getD i 0
def Zs (w : World) (B : Nat) (A : Option Addr) (l : List Int) : Prop := 0 < l.length → ∃ b off, A = some ⟨b, off, none⟩ ∧ b < B ∧ ∀ j, j < l.length → w.cell? ⟨b, off + j, none⟩ = some (.int .i64 (gi l j))
theorem Zs.below {w w' : World} {A : Option Addr} {l : List Int} (h : Zs w w.heap.size A l) (hb : Below w.heap.size w w') : Zs w' w'.heap.size A l := fun hl => by
  obtain ⟨b, off, rfl, h1, h2⟩ := h hl
  exact ⟨b, off, rfl, Nat.lt_of_lt_of_le h1 hb.size, fun j hj => (hb.cell (p := ⟨b, off + j, none⟩) h1).trans (h2 j hj)⟩

end Go.Proofs.YtpjgoogeokbaaaaGreatDoor
/- The program: whether a list is a continued fraction. -/
namespace Go.Proofs.YtpjgoogeokbaaaaGreatDoor
open Go.RowKit

end Go.Proofs.YtpjgoogeokbaaaaGreatDoor
/- The program: the number of a continued fraction. -/
namespace Go.Proofs.YtpjgoogeokbaaaaGreatDoor
open Go.RowKit

end Go.Proofs.YtpjgoogeokbaaaaGreatDoor
/- Lists of numbers: slices that came in, sums and products over them. -/
namespace Go.Proofs.YtpjgoogeokbaaaaGreatDoor
open Go.RowKit

/-- The numbers of a list. -/
def rn (l : List (Int × Int)) (i : Nat) : Int := (l.getD i (0, 0)).1
def rd (l : List (Int × Int)) (i : Nat) : Int := (l.getD i (0, 0)).2
/-- A slice of numbers that came in. -/
def Rs (w : World) (B : Nat) (A : Option Addr) (l : List (Int × Int)) : Prop := 0 < l.length → ∃ b off, A = some ⟨b, off, none⟩ ∧ b < B ∧ ∀ j, j < l.length → w.cell? ⟨b, off + j * 2, none⟩ = some (.int .i64 (rn l j)) ∧ w.cell? ⟨b, off + j * 2 + 1, none⟩ = some (.int .i64 (rd l j))
theorem Rs.below {w w' : World} {A : Option Addr} {l : List (Int × Int)} {B : Nat} (h : Rs w B A l) (hb : Below B w w') : Rs w' B A l := fun hl => by
  obtain ⟨b, off, rfl, h1, h2⟩ := h hl
  exact ⟨b, off, rfl, h1, fun j hj => ⟨(hb.cell (p := ⟨b, off + j * 2, none⟩) h1).trans (h2 j hj).1, (hb.cell (p := ⟨b, off + j * 2 + 1, none⟩) h1).trans (h2 j hj).2⟩⟩
theorem Rs.up {w : World} {A : Option Addr} {l : List (Int × Int)} {B C : Nat} (h : Rs w B A l) (hb : B ≤ C) : Rs w C A l := fun hl => by
  obtain ⟨b, off, rfl, h1, h2⟩ := h hl
  exact ⟨b, off, rfl, Nat.lt_of_lt_of_le h1 hb, h2⟩
/-- All are numbers. -/
def Oks (l : List (Int × Int)) : Prop := ∀ i, i < l.length → Wd.okR (rn l i) (rd l i)
noncomputable instance (l : List (Int × Int)) : Decidable (Oks l) := Classical.propDecidable _

namespace Wd
/-- The sum and the product of the first ones. -/
def sumTo (f : Nat → Rat) : Nat → Rat
  | 0 => Rat.divInt 0 1
  | k + 1 => sumTo f k + f k
def prodTo (f : Nat → Rat) : Nat → Rat
  | 0 => Rat.divInt 1 1
  | k + 1 => prodTo f k * f k
theorem szq_div' {B K : Nat} {n d : Int} (hd : d ≠ 0) (hn : Sz B K n) (hdd : Sz B K d) : SzQ B K (Rat.divInt n d) := by
  obtain ⟨h1, h2⟩ := divInt_parts n d hd
  exact ⟨by rw [h1]; exact hn.tdiv _, by rw [h2]; exact hdd.tdiv _⟩
theorem szq_add' {B K L : Nat} {x y : Rat} (hB : 1 < B) (hx : SzQ B K x) (hy : SzQ B L y) : SzQ B (K + L + 1) (x + y) := by
  rw [add_q]
  have d1 := x.den_nz; have d2 := y.den_nz
  have h2 := hy.1.mul hx.2
  rw [Nat.add_comm L K] at h2
  exact szq_div' (Int.mul_ne_zero (by omega) (by omega)) ((hx.1.mul hy.2).add hB h2) ((hx.2.mul hy.2).mono hB (by omega))
theorem szq_mul' {B K L : Nat} {x y : Rat} (hx : SzQ B K x) (hy : SzQ B L y) : SzQ B (K + L) (x * y) := by
  rw [mul_q]
  have d1 := x.den_nz; have d2 := y.den_nz
  exact szq_div' (Int.mul_ne_zero (by omega) (by omega)) (hx.1.mul hy.1) (hx.2.mul hy.2)
theorem szq_sum {B s : Nat} (hB : 1 < B) {f : Nat → Rat} : ∀ (k : Nat), (∀ i, i < k → SzQ B s (f i)) → SzQ B ((s + 1) * k + 1) (sumTo f k)
  | 0, _ => by
    have h0 : Sz B 1 0 := by unfold Sz; rw [Nat.pow_one]; simpa using (by omega : 0 < B)
    have h1 : Sz B 1 1 := by unfold Sz; rw [Nat.pow_one]; simpa using hB
    rw [Nat.mul_zero, Nat.zero_add]
    exact szq_div' (by omega) h0 h1
  | k + 1, h => by
    have ih := szq_sum hB k (fun i hi => h i (by omega))
    rw [sumTo, show (s + 1) * (k + 1) + 1 = (s + 1) * k + 1 + s + 1 by rw [Nat.mul_succ]; omega]
    exact szq_add' hB ih (h k (by omega))
theorem szq_prod {B s : Nat} (hB : 1 < B) {f : Nat → Rat} : ∀ (k : Nat), (∀ i, i < k → SzQ B s (f i)) → SzQ B (s * k + 1) (prodTo f k)
  | 0, _ => by
    have h1 : Sz B 1 1 := by unfold Sz; rw [Nat.pow_one]; simpa using hB
    rw [Nat.mul_zero, Nat.zero_add]
    exact szq_div' (by omega) h1 h1
  | k + 1, h => by
    have ih := szq_prod hB k (fun i hi => h i (by omega))
    rw [prodTo, show s * (k + 1) + 1 = s * k + 1 + s by rw [Nat.mul_succ]; omega]
    exact szq_mul' ih (h k (by omega))
theorem SzQ.mono'' {B K L : Nat} {x : Rat} (hB : 1 < B) (h : SzQ B K x) (hk : K ≤ L) : SzQ B L x := ⟨h.1.mono hB hk, h.2.mono hB hk⟩
end Wd
/-- The number at a place, and the product of two. -/
def qAt (l : List (Int × Int)) (i : Nat) : Rat := Wd.qR (rn l i) (rd l i)
def qMul (l m : List (Int × Int)) (i : Nat) : Rat := qAt l i * qAt m i
theorem okR_int {n d : Int} (h : Wd.okR n d) : -9223372036854775808 ≤ n ∧ n ≤ 9223372036854775807 ∧ -9223372036854775808 ≤ d ∧ d ≤ 9223372036854775807 ∧ d ≠ 0 := by
  obtain ⟨h1, h2, h3, h4, _⟩ := h; omega
end Go.Proofs.YtpjgoogeokbaaaaGreatDoor
/- The program: a test over lists, a test over numbers. -/
namespace Go.Proofs.YtpjgoogeokbaaaaGreatDoor
open Go.RowKit

/-- Block e holds an error's number. -/
def HoldE (w : World) (e : Nat) (v : Int) : Prop := w.heap[e]? = some (.cells #[.int .i64 v] 24 (0, 0))
theorem HoldE.lt {w : World} {e : Nat} {v : Int} (h : HoldE w e v) : e < w.heap.size := lt_of_block h
theorem set1_grown (w : World) (g : Nat) (u0 : Value) : w.grownBy (w.setCell ⟨g, 0, none⟩ u0) (some g) := grown_setCell (grown_refl _ _) _ _
theorem set1_block {W : World} {b : Nat} {a0 u0 : Value} {T : TypeId} (h : W.heap[b]? = some (.cells #[a0] T (0, 0))) : (W.setCell ⟨b, 0, none⟩ u0).heap[b]? = some (.cells #[u0] T (0, 0)) := by
  simp [World.setCell, Array.getElem?_modify, h]
set_option maxRecDepth 100000 in
set_option maxHeartbeats 16000000 in
theorem long_any (A : Option Addr) (len cap : Nat) (w : World) :
    Calls Tryz.prog 120 #[.slice A len cap] w fun r w' => r = .returned (.bool (decide (64 < len))) ∧ Below w.heap.size w w' := by
  by_cases h : 64 < len
  · have d1 : decide ((64 : Int) < (len : Int)) = true := decide_eq_true (by omega)
    rw [decide_eq_true h]
    clear h
    go_enter Tryz.func120, Tryz.ntmps120
    go_wp2
    all_goals first | go_ret | skip
    all_goals exact ⟨rfl, Below.refl _ _⟩
  · have d1 : decide ((64 : Int) < (len : Int)) = false := decide_eq_false (by omega)
    rw [decide_eq_false h]
    clear h
    go_enter Tryz.func120, Tryz.ntmps120
    go_wp2
    all_goals first | go_ret | skip
    all_goals exact ⟨rfl, Below.refl _ _⟩
set_option maxRecDepth 100000 in
set_option maxHeartbeats 16000000 in
theorem bad_ok (n d : Int) (e : Nat) (w : World) (hT : Tab w) (o : Int) (he : HoldE w e o) (ok : Wd.okR n d) :
    Calls Tryz.prog 121 #[.agg #[.int .i64 n, .int .i64 d], .pointer (some ⟨e, 0, none⟩)] w fun r w' => r = .returned (.bool false) ∧ HoldE w' e 0 ∧ Below e w w' := by
  have HV := hide (fun W (hW : Below w.heap.size w W) => val_any n d W (hT.below hW))
  have hv : valE n d = 0 := if_pos ok
  rw [hv] at HV
  have qe := he.lt
  have HE := hide he
  clear ok hv he hT
  go_enter Tryz.func121, Tryz.ntmps121
  go_upto_region 1 with fail
  obtain ⟨n0, hsz, hw0⟩ := one_new w (.cells #[.int .i64 n, .int .i64 d] 23)
  generalize w.alloc (.cells #[.int .i64 n, .int .i64 d] 23) = W0 at *
  have r0 : W0.cell? ⟨w.heap.size, 0, none⟩ = some (.int .i64 n) := cells_of n0 0
  have r1 : W0.cell? ⟨w.heap.size, 1, none⟩ = some (.int .i64 d) := cells_of n0 1
  have q0 := lt_of_block n0
  have he0 : HoldE W0 e o := (hw0.block _ qe).trans (unhide HE)
  have HE0 := hide he0
  clear n0 hsz he0
  go_wp2_with fail
  refine ((unhide HV) _ (by first | exact hw0 | exact hw0.drew)).mono ?_
  rintro r W1 ⟨rfl, hb⟩
  have hb9 : Below w.heap.size w W1 := by first | exact below_step' hw0 hb | exact below_step' hw0.drew hb
  have he1 : HoldE W1 e o := (hb9.block _ qe).trans (unhide HE)
  have c1 : W1.cell? ⟨e, 0, none⟩ = some (.int .i64 o) := cells_of he1 0
  have fe1 := unfrozen_of he1 0
  have qe1 := he1.lt
  have hfin : HoldE (W1.setCell ⟨e, 0, none⟩ (.int .i64 0)) e 0 ∧ Below e w (W1.setCell ⟨e, 0, none⟩ (.int .i64 0)) := ⟨set1_block he1, (hb9.mono (by omega)).grown (set1_grown _ _ _) (by omega) (fun k hk => by injection hk with hk; omega)⟩
  have HF := hide hfin
  clear hb hb9 he1 hfin r0 r1 q0 hw0
  go_wp2_with fail
  all_goals first | go_ret | skip
  all_goals exact ⟨rfl, (unhide HF).1, (unhide HF).2⟩
set_option maxRecDepth 100000 in
set_option maxHeartbeats 16000000 in
theorem bad_no (n d : Int) (e : Nat) (w : World) (hT : Tab w) (o : Int) (he : HoldE w e o) (ok : ¬ Wd.okR n d) :
    Calls Tryz.prog 121 #[.agg #[.int .i64 n, .int .i64 d], .pointer (some ⟨e, 0, none⟩)] w fun r w' => r = .returned (.bool true) ∧ HoldE w' e 1 ∧ Below e w w' := by
  have HV := hide (fun W (hW : Below w.heap.size w W) => val_any n d W (hT.below hW))
  have hv : valE n d = 1 := if_neg ok
  rw [hv] at HV
  have qe := he.lt
  have HE := hide he
  clear ok hv he hT
  go_enter Tryz.func121, Tryz.ntmps121
  go_upto_region 1 with fail
  obtain ⟨n0, hsz, hw0⟩ := one_new w (.cells #[.int .i64 n, .int .i64 d] 23)
  generalize w.alloc (.cells #[.int .i64 n, .int .i64 d] 23) = W0 at *
  have r0 : W0.cell? ⟨w.heap.size, 0, none⟩ = some (.int .i64 n) := cells_of n0 0
  have r1 : W0.cell? ⟨w.heap.size, 1, none⟩ = some (.int .i64 d) := cells_of n0 1
  have q0 := lt_of_block n0
  have he0 : HoldE W0 e o := (hw0.block _ qe).trans (unhide HE)
  have HE0 := hide he0
  clear n0 hsz he0
  go_wp2_with fail
  refine ((unhide HV) _ (by first | exact hw0 | exact hw0.drew)).mono ?_
  rintro r W1 ⟨rfl, hb⟩
  have hb9 : Below w.heap.size w W1 := by first | exact below_step' hw0 hb | exact below_step' hw0.drew hb
  have he1 : HoldE W1 e o := (hb9.block _ qe).trans (unhide HE)
  have c1 : W1.cell? ⟨e, 0, none⟩ = some (.int .i64 o) := cells_of he1 0
  have fe1 := unfrozen_of he1 0
  have qe1 := he1.lt
  have hfin : HoldE (W1.setCell ⟨e, 0, none⟩ (.int .i64 1)) e 1 ∧ Below e w (W1.setCell ⟨e, 0, none⟩ (.int .i64 1)) := ⟨set1_block he1, (hb9.mono (by omega)).grown (set1_grown _ _ _) (by omega) (fun k hk => by injection hk with hk; omega)⟩
  have HF := hide hfin
  clear hb hb9 he1 hfin r0 r1 q0 hw0
  go_wp2_with fail
  all_goals first | go_ret | skip
  all_goals exact ⟨rfl, (unhide HF).1, (unhide HF).2⟩
set_option maxRecDepth 100000 in
set_option maxHeartbeats 16000000 in
theorem idxl_any (g k : Nat) (sa : Nat → Option Addr) (sc : Nat → Nat) (sl : Nat → List (Int × Int)) (w : World) (hL : ∀ j, j < k → w.cell? ⟨g, j, none⟩ = some (.slice (sa j) (sl j).length (sc j))) (hg : g < w.heap.size) (hk : k ≤ 9223372036854775806) :
    Calls Tryz.prog 159 #[.slice (some ⟨g, 0, none⟩) k k, Value.func (Fn.func 120) #[] #[]] w fun r w' => (∃ z : Int, r = .returned (.int .i64 z) ∧ (0 ≤ z ↔ ∃ j, j < k ∧ 64 < (sl j).length)) ∧ Below w.heap.size w w' := by
  have HL := hide hL
  have HLG := hide (fun A len cap W => long_any A len cap W)
  clear hL
  go_enter Tryz.func159, Tryz.ntmps159
  go_wp2_with fail
  go_loopw [8] (fun iv wr => ∃ i : Nat, i ≤ k ∧ iv = .int .i64 ((i : Nat) : Int) ∧ Hid (∀ j, j < i → ¬ 64 < (sl j).length) ∧ Below w.heap.size w wr) (fun iv _ => k - (intOf iv).toNat)
  case atStart => exact ⟨0, by omega, rfl, fun j hj => by omega, Below.refl _ _⟩
  case round =>
    obtain ⟨i, hi, rfl, hall, hb⟩ := hrel
    by_cases hlt : i < k
    · have d1 : decide ((i : Int) < (k : Int)) = true := decide_eq_true (by omega)
      have d2 : decide (i < k) = true := decide_eq_true hlt
      have k0 := (hb.cell (p := ⟨g, i, none⟩) hg).trans ((unhide HL) i hlt)
      obtain ⟨A, hA⟩ : ∃ z, z = sa i := ⟨_, rfl⟩
      obtain ⟨len, hlen⟩ : ∃ z, z = (sl i).length := ⟨_, rfl⟩
      obtain ⟨cap, hcap⟩ : ∃ z, z = sc i := ⟨_, rfl⟩
      rw [← hA, ← hlen, ← hcap] at k0
      have HLi := hide (fun W => (unhide HLG) A len cap W)
      have HLEN := Lib.hid hlen
      by_cases hlg : 64 < len
      · rw [decide_eq_true hlg] at HLi
        have HN := hide (show ∃ j, j < k ∧ 64 < (sl j).length from ⟨i, hlt, hlen ▸ hlg⟩)
        clear hlg hlen hA hcap hall
        go_wp2_with fail
        refine ((unhide HLi) _).mono ?_
        rintro e w' ⟨rfl, hb2⟩
        have hb3 : Below w.heap.size w w' := below_step' hb hb2
        go_wp2_with fail
        go_ret
        exact ⟨⟨_, rfl, fun _ => unhide HN, fun _ => by omega⟩, hb3⟩
      · rw [decide_eq_false hlg] at HLi
        have HN : Hid (∀ j, j < i + 1 → ¬ 64 < (sl j).length) := fun j hj => by
          by_cases hji : j = i
          · subst hji; exact hlen ▸ hlg
          · exact hall.out j (by omega)
        clear hlg hlen hA hcap hall
        go_wp2_with fail
        refine ((unhide HLi) _).mono ?_
        rintro e w' ⟨rfl, hb2⟩
        have hb3 : Below w.heap.size w w' := below_step' hb hb2
        go_wp2_with fail
        go_roundw
        case rel => exact ⟨i + 1, by omega, by go_num, HN, hb3⟩
        case measure => simp [intOf] <;> omega
    · obtain rfl : i = k := by omega
      have d1 : decide ((i : Int) < (i : Int)) = false := decide_eq_false (by omega)
      go_wp2_with fail
      go_ret
      exact ⟨⟨_, rfl, fun h => by omega, fun ⟨j, h1, h2⟩ => absurd h2 (hall.out j h1)⟩, hb⟩
set_option maxRecDepth 100000 in
set_option maxHeartbeats 16000000 in
theorem conl_any (g k : Nat) (sa : Nat → Option Addr) (sc : Nat → Nat) (sl : Nat → List (Int × Int)) (w : World) (hL : ∀ j, j < k → w.cell? ⟨g, j, none⟩ = some (.slice (sa j) (sl j).length (sc j))) (hg : g < w.heap.size) (hk : k ≤ 9223372036854775806) (o : Bool) (ho : o = true ↔ ∃ j, j < k ∧ 64 < (sl j).length) :
    Calls Tryz.prog 122 #[.slice (some ⟨g, 0, none⟩) k k, Value.func (Fn.func 120) #[] #[]] w fun r w' => r = .returned (.bool o) ∧ Below w.heap.size w w' := by
  have HI := hide (idxl_any g k sa sc sl w hL hg hk)
  have HO := hide ho
  clear hL hg hk ho
  go_enter Tryz.func122, Tryz.ntmps122
  go_wp2_with fail
  refine (unhide HI).mono ?_
  rintro e w' ⟨⟨z, rfl, hz⟩, hb⟩
  cases o with
  | true =>
    have d1 : decide (0 ≤ z) = true := decide_eq_true (hz.2 ((unhide HO).1 rfl))
    clear hz HO
    go_wp2_with fail
    all_goals first | go_ret | skip
    all_goals exact ⟨rfl, hb⟩
  | false =>
    have d1 : decide (0 ≤ z) = false := decide_eq_false (fun h => absurd ((unhide HO).2 (hz.1 h)) (by decide))
    clear hz HO
    go_wp2_with fail
    all_goals first | go_ret | skip
    all_goals exact ⟨rfl, hb⟩
set_option maxRecDepth 100000 in
set_option maxHeartbeats 16000000 in
theorem idxn_any (v : Int) (A : Option Addr) (cap : Nat) (l : List (Int × Int)) (e : Nat) (w0 w : World) (hT : Tab w0) (h0 : Below w0.heap.size w0 w) (hs : w0.heap.size ≤ e) (h : Rs w e A l) (hc : l.length ≤ cap) (hm : cap ≤ 9223372036854775807) (he : HoldE w e 0) (hv : v = if Oks l then 0 else 1) :
    Calls Tryz.prog 160 #[.slice A l.length cap, Value.func (Fn.func 121) #[] #[.pointer (some ⟨e, 0, none⟩)]] w fun r w' => (∃ z : Int, r = .returned (.int .i64 z) ∧ (0 ≤ z ↔ ¬ Oks l)) ∧ HoldE w' e v ∧ Below e w w' := by
  have HBO := hide (fun n d W (hW : Below e w W) (hE : HoldE W e 0) (ok : Wd.okR n d) => bad_ok n d e W (hT.below (h0.trans (hW.mono hs))) 0 hE ok)
  have HBN := hide (fun n d W (hW : Below e w W) (hE : HoldE W e 0) (ok : ¬ Wd.okR n d) => bad_no n d e W (hT.below (h0.trans (hW.mono hs))) 0 hE ok)
  have HE := hide he; have HH := hide h; have HVV := hide hv
  obtain ⟨m, hmm⟩ : ∃ m, m = l.length := ⟨_, rfl⟩
  have HM := Lib.hid hmm
  rw [← hmm] at hc ⊢
  clear he h hT h0 hs hmm hv
  go_enter Tryz.func160, Tryz.ntmps160
  go_wp2_with fail
  go_loopw [8] (fun iv wr => ∃ i : Nat, i ≤ m ∧ iv = .int .i64 ((i : Nat) : Int) ∧ Hid (∀ j, j < i → Wd.okR (rn l j) (rd l j)) ∧ Hid (HoldE wr e 0) ∧ Below e w wr) (fun iv _ => m - (intOf iv).toNat)
  case atStart => exact ⟨0, by omega, rfl, fun j hj => by omega, HE, Below.refl _ _⟩
  case round =>
    obtain ⟨i, hi, rfl, hall, hE, hb⟩ := hrel
    by_cases hlt : i < m
    · have d1 : decide ((i : Int) < (m : Int)) = true := decide_eq_true (by omega)
      have d2 : decide (i < m) = true := decide_eq_true hlt
      have hil : i < l.length := by rw [← HM.out]; exact hlt
      obtain ⟨b, off, rfl, hbb, hcell⟩ := (unhide HH) (by omega)
      have k0 := (hb.cell (p := ⟨b, off + i * 2, none⟩) hbb).trans (hcell i hil).1
      have k1 := (hb.cell (p := ⟨b, off + i * 2 + 1, none⟩) hbb).trans (hcell i hil).2
      have qb : b < wr.heap.size := Nat.lt_trans hbb (unhide hE).lt
      obtain ⟨n, hn⟩ : ∃ z, z = rn l i := ⟨_, rfl⟩
      obtain ⟨d, hd⟩ : ∃ z, z = rd l i := ⟨_, rfl⟩
      by_cases ok : Wd.okR (rn l i) (rd l i)
      · have HN : Hid (∀ j, j < i + 1 → Wd.okR (rn l j) (rd l j)) := fun j hj => by
          by_cases hji : j = i
          · subst hji; exact ok
          · exact hall.out j (by omega)
        have HC := hide ((unhide HBO) (rn l i) (rd l i) wr hb (unhide hE) ok)
        rw [← hn] at k0 HC
        rw [← hd] at k1 HC
        clear ok hn hd hall hcell hE
        go_wp2_with fail
        refine (unhide HC).mono ?_
        rintro r w' ⟨rfl, hE2, hb2⟩
        have hb3 : Below e w w' := hb.trans hb2
        have HE3 := hide hE2
        clear hE2
        go_wp2_with fail
        go_roundw
        case rel => exact ⟨i + 1, by omega, by go_num, HN, HE3, hb3⟩
        case measure => simp [intOf] <;> omega
      · have hno : ¬ Oks l := fun h => ok (h i hil)
        have HNO := hide hno
        have HC := hide ((unhide HBN) (rn l i) (rd l i) wr hb (unhide hE) ok)
        rw [← hn] at k0 HC
        rw [← hd] at k1 HC
        clear ok hn hd hall hcell hE hno
        go_wp2_with fail
        refine (unhide HC).mono ?_
        rintro r w' ⟨rfl, hE2, hb2⟩
        have hb3 : Below e w w' := hb.trans hb2
        have HE3 := hide hE2
        clear hE2
        go_wp2_with fail
        go_ret
        exact ⟨⟨_, rfl, fun _ => unhide HNO, fun _ => by omega⟩, by rw [unhide HVV, if_neg (unhide HNO)]; exact unhide HE3, hb3⟩
    · obtain rfl : i = m := by omega
      have d1 : decide ((i : Int) < (i : Int)) = false := decide_eq_false (by omega)
      have hok : Oks l := fun j hj => hall.out j (by rw [HM.out]; exact hj)
      have HOK := hide hok
      clear hok hall
      go_wp2_with fail
      go_ret
      exact ⟨⟨_, rfl, fun h => by omega, fun h => absurd (unhide HOK) h⟩, by rw [unhide HVV, if_pos (unhide HOK)]; exact unhide hE, hb⟩
set_option maxRecDepth 100000 in
set_option maxHeartbeats 16000000 in
theorem conn_any (v : Int) (A : Option Addr) (cap : Nat) (l : List (Int × Int)) (e : Nat) (w0 w : World) (hT : Tab w0) (h0 : Below w0.heap.size w0 w) (hs : w0.heap.size ≤ e) (h : Rs w e A l) (hc : l.length ≤ cap) (hm : cap ≤ 9223372036854775807) (he : HoldE w e 0) (hv : v = if Oks l then 0 else 1) (o : Bool) (ho : o = true ↔ ¬ Oks l) :
    Calls Tryz.prog 123 #[.slice A l.length cap, Value.func (Fn.func 121) #[] #[.pointer (some ⟨e, 0, none⟩)]] w fun r w' => r = .returned (.bool o) ∧ HoldE w' e v ∧ Below e w w' := by
  have HI := hide (idxn_any v A cap l e w0 w hT h0 hs h hc hm he hv)
  have HO := hide ho
  clear hT h0 hs h hc hm he ho hv
  go_enter Tryz.func123, Tryz.ntmps123
  go_wp2_with fail
  refine (unhide HI).mono ?_
  rintro r w' ⟨⟨z, rfl, hz⟩, hE, hb⟩
  have HE := hide hE
  clear hE
  cases o with
  | true =>
    have d1 : decide (0 ≤ z) = true := decide_eq_true (hz.2 ((unhide HO).1 rfl))
    clear hz HO
    go_wp2_with fail
    all_goals first | go_ret | skip
    all_goals exact ⟨rfl, unhide HE, hb⟩
  | false =>
    have d1 : decide (0 ≤ z) = false := decide_eq_false (fun h => absurd ((unhide HO).2 (hz.1 h)) (by decide))
    clear hz HO
    go_wp2_with fail
    all_goals first | go_ret | skip
    all_goals exact ⟨rfl, unhide HE, hb⟩

end Go.Proofs.YtpjgoogeokbaaaaGreatDoor
/- The program: the error of lists. -/
namespace Go.Proofs.YtpjgoogeokbaaaaGreatDoor
open Go.RowKit

/-- The error of lists. -/
noncomputable def lstE (k : Nat) (sl : Nat → List (Int × Int)) : Int := if ∃ j, j < k ∧ 64 < (sl j).length then 3 else if ∃ j, j < k ∧ ¬ Oks (sl j) then 1 else 0
set_option maxRecDepth 100000 in
set_option maxHeartbeats 16000000 in
theorem liste_any (g k : Nat) (sa : Nat → Option Addr) (sc : Nat → Nat) (sl : Nat → List (Int × Int)) (w : World) (hL : ∀ j, j < k → w.cell? ⟨g, j, none⟩ = some (.slice (sa j) (sl j).length (sc j))) (hg : g < w.heap.size) (hk : k ≤ 9223372036854775806) (hT : Tab w) (hR : ∀ j, j < k → Rs w w.heap.size (sa j) (sl j) ∧ (sl j).length ≤ sc j ∧ sc j ≤ 9223372036854775807) (v : Int) (hv : v = lstE k sl) :
    Calls Tryz.prog 68 #[.slice (some ⟨g, 0, none⟩) k k] w fun r w' => r = .returned (.int .i64 v) ∧ Below w.heap.size w w' := by
  have hmf : ∀ (fn : Fn) (first cap : Array Value) (w : World), (Instr.makeFunc fn first cap).run Tryz.prog w = .ok (.func fn first cap) w := fun _ _ _ _ => rfl
  by_cases hl : ∃ j, j < k ∧ 64 < (sl j).length
  · obtain rfl : v = 3 := by rw [hv]; exact if_pos hl
    have HC := hide (fun W (hW : Below w.heap.size w W) => conl_any g k sa sc sl W (fun j hj => (hW.cell (p := ⟨g, j, none⟩) hg).trans (hL j hj)) (Nat.lt_of_lt_of_le hg hW.size) hk true ⟨fun _ => hl, fun _ => rfl⟩)
    clear hl hv hL hg hT hR
    go_enter Tryz.func68, Tryz.ntmps68
    go_upto_region 2 with fail
    obtain ⟨n0, hsz, hw0⟩ := one_new w (.cells #[.int .i64 0] 24)
    generalize w.alloc (.cells #[.int .i64 0] 24) = W0 at *
    clear n0 hsz
    go_wp2_with fail
    refine ((unhide HC) _ (by first | exact hw0 | exact hw0.drew)).mono ?_
    rintro e W1 ⟨rfl, hb⟩
    have hb9 : Below w.heap.size w W1 := by first | exact below_step' hw0 hb | exact below_step' hw0.drew hb
    go_wp2_with fail
    all_goals first | go_ret | skip
    all_goals exact ⟨rfl, hb9⟩
  · have HV1 : Hid ((∃ j, j < k ∧ ¬ Oks (sl j)) → v = 1) := fun h => by rw [hv]; unfold lstE; rw [if_neg hl, if_pos h]
    have HV0 : Hid ((¬ ∃ j, j < k ∧ ¬ Oks (sl j)) → v = 0) := fun h => by rw [hv]; unfold lstE; rw [if_neg hl, if_neg h]
    have HC := hide (fun W (hW : Below w.heap.size w W) => conl_any g k sa sc sl W (fun j hj => (hW.cell (p := ⟨g, j, none⟩) hg).trans (hL j hj)) (Nat.lt_of_lt_of_le hg hW.size) hk false ⟨fun h => (by cases h), fun h => absurd h hl⟩)
    have HL := hide hL; have HR := hide hR; have HT := hide hT
    clear hl hv hL hT hR
    go_enter Tryz.func68, Tryz.ntmps68
    go_upto_region 2 with fail
    obtain ⟨n0, hsz, hw0⟩ := one_new w (.cells #[.int .i64 0] 24)
    generalize w.alloc (.cells #[.int .i64 0] 24) = W0 at *
    have q0 := lt_of_block n0
    have N0 := hide n0
    clear n0 hsz
    go_wp2_with fail
    refine ((unhide HC) _ (by first | exact hw0 | exact hw0.drew)).mono ?_
    rintro e W1 ⟨rfl, hb⟩
    have hb9 : Below w.heap.size w W1 := by first | exact below_step' hw0 hb | exact below_step' hw0.drew hb
    have HE : Hid (HoldE W1 w.heap.size 0) := (hb.block _ (by simpa using q0)).trans (unhide N0)
    clear hb hw0 q0 HC N0
    go_wp2_with fail
    go_loopw [14] (fun iv wr => ∃ i : Nat, i ≤ k ∧ iv = .int .i64 ((i : Nat) : Int) ∧ Hid (∀ j, j < i → Oks (sl j)) ∧ Hid (HoldE wr w.heap.size 0) ∧ Below w.heap.size w wr) (fun iv _ => k - (intOf iv).toNat)
    case atStart => exact ⟨0, by omega, rfl, fun j hj => by omega, HE, hb9⟩
    case round =>
      clear HE hb9
      obtain ⟨i, hi, rfl, hall, hE, hb⟩ := hrel
      by_cases hlt : i < k
      · have d1 : decide ((i : Int) < (k : Int)) = true := decide_eq_true (by omega)
        have d2 : decide (i < k) = true := decide_eq_true hlt
        have k0 := (hb.cell (p := ⟨g, i, none⟩) hg).trans ((unhide HL) i hlt)
        obtain ⟨hr, hr2, hr3⟩ := (unhide HR) i hlt
        obtain ⟨len, hlen⟩ : ∃ z, z = (sl i).length := ⟨_, rfl⟩
        obtain ⟨A, hA⟩ : ∃ z, z = sa i := ⟨_, rfl⟩
        obtain ⟨cap, hcap⟩ : ∃ z, z = sc i := ⟨_, rfl⟩
        by_cases ok : Oks (sl i)
        · have HCN := hide (conn_any 0 (sa i) (sc i) (sl i) w.heap.size w wr (unhide HT) hb (Nat.le_refl _) (hr.below hb) hr2 hr3 (unhide hE) (if_pos ok).symm false ⟨fun h => (by cases h), fun h => absurd ok h⟩)
          have HN : Hid (∀ j, j < i + 1 → Oks (sl j)) := fun j hj => by
            by_cases hji : j = i
            · subst hji; exact ok
            · exact hall.out j (by omega)
          rw [← hlen, ← hA, ← hcap] at k0 HCN
          clear ok hr hr2 hr3 hlen hA hcap hall hE
          go_wp2_with fail
          refine (unhide HCN).mono ?_
          rintro r w' ⟨rfl, hE2, hb2⟩
          have hb3 : Below w.heap.size w w' := hb.trans hb2
          have HE3 := hide hE2
          clear hE2
          go_wp2_with fail
          go_roundw
          case rel => exact ⟨i + 1, by omega, by go_num, HN, HE3, hb3⟩
          case measure => simp [intOf] <;> omega
        · have HCN := hide (conn_any 1 (sa i) (sc i) (sl i) w.heap.size w wr (unhide HT) hb (Nat.le_refl _) (hr.below hb) hr2 hr3 (unhide hE) (if_neg ok).symm true ⟨fun _ => ok, fun _ => rfl⟩)
          obtain rfl : v = 1 := (unhide HV1) ⟨i, hlt, ok⟩
          rw [← hlen, ← hA, ← hcap] at k0 HCN
          clear ok hr hr2 hr3 hlen hA hcap hall hE HV0 HV1
          go_wp2_with fail
          refine (unhide HCN).mono ?_
          rintro r w' ⟨rfl, hE2, hb2⟩
          have hb3 : Below w.heap.size w w' := hb.trans hb2
          have c1 : w'.cell? ⟨w.heap.size, 0, none⟩ = some (.int .i64 1) := cells_of hE2 0
          have q1 := hE2.lt
          clear hE2
          go_wp2_with fail
          all_goals first | go_ret | skip
          all_goals exact ⟨rfl, hb3⟩
      · obtain rfl : i = k := by omega
        have d1 : decide ((i : Int) < (i : Int)) = false := decide_eq_false (by omega)
        obtain rfl : v = 0 := (unhide HV0) (fun ⟨j, h1, h2⟩ => h2 (hall.out j h1))
        clear hall hE HV0 HV1
        go_wp2_with fail
        all_goals first | go_ret | skip
        all_goals exact ⟨rfl, hb⟩

end Go.Proofs.YtpjgoogeokbaaaaGreatDoor
/- The program: the sum of what a list holds. -/
namespace Go.Proofs.YtpjgoogeokbaaaaGreatDoor
open Go.RowKit

set_option maxRecDepth 100000 in
set_option maxHeartbeats 16000000 in
theorem total_any (A : Option Addr) (cap : Nat) (l : List (Int × Int)) (w : World) (h : Rs w w.heap.size A l) (hcp : l.length ≤ cap) (hm : cap ≤ 9223372036854775807) (hl : ¬ 64 < l.length) (hj : Oks l) (hT : Tab w) :
    Calls Tryz.prog 69 #[.slice A l.length cap, Value.func (Fn.func 50) #[] #[]] w fun e w' => PairR w (Wd.sumTo (qAt l) l.length).num ((Wd.sumTo (qAt l) l.length).den : Int) e w' := by
  have HJ := hide hj; have HRS := hide h; have HT := hide hT
  obtain ⟨m, hmm⟩ : ∃ m, m = l.length := ⟨_, rfl⟩
  have HM := Lib.hid hmm
  rw [← hmm] at hl hcp ⊢
  have HSZ : Hid (∀ i, i ≤ m → SzQ 200 (Wd.sumTo (qAt l) i)) := fun i hi => Wd.SzQ.mono'' B64_pos (Wd.szq_sum B64_pos i (fun k hk => okR_sz (hj k (by omega)))) (by omega)
  have HO := hide (fun W => rwhole_any 0 W (by omega) (by omega))
  clear hj h hmm hT
  go_enter Tryz.func69, Tryz.ntmps69
  go_upto_region 1 with fail
  obtain ⟨n0, hsz, hw0⟩ := one_new w (.cells #[.int .i64 0, .bool false, .slice none 0 0, .int .i64 0, .bool false, .slice none 0 0] 63)
  generalize w.alloc (.cells #[.int .i64 0, .bool false, .slice none 0 0, .int .i64 0, .bool false, .slice none 0 0] 63) = W0 at *
  have q0 := lt_of_block n0
  clear hsz
  go_wp2_with fail
  refine ((unhide HO) W0).mono ?_
  rintro e W1 ⟨s1a, neg1a, A1a, c1a, l1a, s1b, neg1b, A1b, c1b, l1b, rfl, g1, g2, hb⟩
  have hbx := boxt_new ⟨g1, g2⟩
  replace n0 := (hb.block _ q0).trans n0
  replace q0 := Nat.lt_of_lt_of_le q0 hb.size
  replace hw0 := below_step' hw0 hb
  clear hb g1 g2
  have hb := below_alloc (Below.refl W1.heap.size W1) (.cells #[.int .i64 s1a, .bool neg1a, .slice A1a l1a.length c1a, .int .i64 s1b, .bool neg1b, .slice A1b l1b.length c1b] 63)
  go_upto_region 2 with fail
  obtain ⟨bx, hbxe⟩ : ∃ b, b = W1.heap.size := ⟨_, rfl⟩
  rw [← hbxe] at hbx ⊢
  have hbB : w.heap.size < bx := by rw [hbxe]; exact q0
  generalize W1.alloc (.cells #[.int .i64 s1a, .bool neg1a, .slice A1a l1a.length c1a, .int .i64 s1b, .bool neg1b, .slice A1b l1b.length c1b] 63) = W3 at *
  replace n0 := (hb.block _ q0).trans n0
  replace q0 := Nat.lt_of_lt_of_le q0 hb.size
  replace hw0 := below_step' hw0 hb
  clear hb hbxe
  have HW0 := hide hw0; have N0 := hide n0; have HQ0 := hide q0
  have hbs := hw0.size
  clear n0 hw0
  go_wp2_with fail
  go_loopw [11] (fun iv wr => ∃ i : Nat, i ≤ m ∧ iv = .int .i64 ((i : Nat) : Int) ∧ BoxT wr bx (Wd.sumTo (qAt l) i) ∧ Hid (Below (w.heap.size + 1) W3 wr)) (fun iv _ => m - (intOf iv).toNat)
  case atStart => exact ⟨0, Nat.zero_le _, by first | rfl | go_num, hbx, hide (Below.refl _ _)⟩
  case round =>
    obtain ⟨i, hi, rfl, hbq, hgr⟩ := hrel
    have hwr : Below w.heap.size w wr := (unhide HW0).trans ((unhide hgr).mono (by omega))
    have hq0 := unhide HQ0
    have hgs := (unhide hgr).size
    by_cases hlt : i < m
    · have hil : i < l.length := by rw [← HM.out]; exact hlt
      obtain ⟨b, off, rfl, hbb, hcell⟩ := (unhide HRS) (by omega)
      have k0 := (hwr.cell (p := ⟨b, off + i * 2, none⟩) hbb).trans (hcell i hil).1
      have k1 := (hwr.cell (p := ⟨b, off + i * 2 + 1, none⟩) hbb).trans (hcell i hil).2
      have oki := (unhide HJ) i hil
      have zs1 := (unhide HSZ) i (by omega)
      have zs2 : SzQ 200 (qAt l i) := (okR_sz oki).mono (by omega)
      have hnext : Wd.sumTo (qAt l) (i + 1) = Wd.sumTo (qAt l) i + qAt l i := rfl
      have HNX := Lib.hid hnext
      have hofi : ∀ W, Calls Tryz.prog 50 #[.agg #[.int .i64 (rn l i), .int .i64 (rd l i)]] W fun e w' => PairR W (qAt l i).num ((qAt l i).den : Int) e w' := fun W => by
        have h := rof_any (rn l i) (rd l i) W (okR_int oki).1 (okR_int oki).2.1 (okR_int oki).2.2.1 (okR_int oki).2.2.2.1
        have e := Wd.qR_ok oki
        rw [show (qAt l i).num = rn l i from e.1, show ((qAt l i).den : Int) = rd l i from e.2]
        exact h
      have HOFi := hide hofi
      have dl1 : decide ((i : Int) < (m : Int)) = true := decide_eq_true (by omega)
      have dl2 : decide (i < m) = true := decide_eq_true hlt
      obtain ⟨nn, hnn⟩ : ∃ z, z = rn l i := ⟨_, rfl⟩
      obtain ⟨dd, hdd⟩ : ∃ z, z = rd l i := ⟨_, rfl⟩
      rw [← hnn] at k0 HOFi
      rw [← hdd] at k1 HOFi
      obtain ⟨x, hx⟩ : ∃ x, x = Wd.sumTo (qAt l) i := ⟨_, rfl⟩
      obtain ⟨y, hy⟩ : ∃ y, y = qAt l i := ⟨_, rfl⟩
      rw [← hx] at hbq zs1 HNX
      rw [← hy] at zs2 HNX HOFi
      clear hcell oki hnext hofi hnn hdd hx hy hil
      go_upto_region 5 with fail
      obtain ⟨n7, hsz7, hw7⟩ := one_new wr (.cells #[.int .i64 nn, .int .i64 dd] 23)
      have hbv := boxt_below hbq hw7
      have hgv := (unhide hgr).trans (hw7.mono (by omega))
      have HWV := hwr.trans (hw7.mono (by have := hwr.size; omega))
      generalize wr.alloc (.cells #[.int .i64 nn, .int .i64 dd] 23) = V at *
      have k7_0 : V.cell? ⟨wr.heap.size, 0, none⟩ = some (.int .i64 nn) := cells_of n7 0
      have k7_1 : V.cell? ⟨wr.heap.size, 1, none⟩ = some (.int .i64 dd) := cells_of n7 1
      have q7 := lt_of_block n7
      have hT' : Tab V := (unhide HT).below HWV
      have HAD := hide (opq_add hT' x y zs1 zs2 (by unfold lim; omega)).1
      have hgs7 := hgv.size
      have HGV := hide hgv
      obtain ⟨s1a, neg1a, A1a, c1a, l1a, s1b, neg1b, A1b, c1b, l1b, j1, f1'⟩ := hbv
      have kx_0 : V.cell? ⟨bx, 0, none⟩ = some (.int .i64 s1a) := cells_of j1 0
      have ux_0 := unfrozen_of j1 0
      have kx_1 : V.cell? ⟨bx, 1, none⟩ = some (.bool neg1a) := cells_of j1 1
      have ux_1 := unfrozen_of j1 1
      have kx_2 : V.cell? ⟨bx, 2, none⟩ = some (.slice A1a l1a.length c1a) := cells_of j1 2
      have ux_2 := unfrozen_of j1 2
      have kx_3 : V.cell? ⟨bx, 3, none⟩ = some (.int .i64 s1b) := cells_of j1 3
      have ux_3 := unfrozen_of j1 3
      have kx_4 : V.cell? ⟨bx, 4, none⟩ = some (.bool neg1b) := cells_of j1 4
      have ux_4 := unfrozen_of j1 4
      have kx_5 : V.cell? ⟨bx, 5, none⟩ = some (.slice A1b l1b.length c1b) := cells_of j1 5
      have ux_5 := unfrozen_of j1 5
      have qx := lt_of_block j1
      have F1 := hide f1'; have J1 := hide j1
      clear f1' j1 zs1 zs2 hT' hgv hgr hbq n7 hsz7 hw7 k0 k1 HWV hwr
      go_region_with (first | (go_at_call 50; refine ((unhide HOFi) _).mono ?_; rintro e w' ⟨s3a, neg3a, A3a, c3a, l3a, s3b, neg3b, A3b, c3b, l3b, rfl, g1, g2, hb3⟩; have iq3 := IQ.mk g1 g2; clear g1 g2; have hbw := below_step (w := V) (by (first | with_reducible assumption | (repeat (first | with_reducible exact Below.refl _ _ | with_reducible assumption | refine Below.drew ?_ | (refine Below.alloc ?_ (by simp <;> omega) _) | refine belowN ?_ _)))) hb3; obtain ⟨hc, hfz⟩ := bcell hbw) | (go_at_call 82; refine ((unhide HAD) s1a neg1a A1a c1a l1a s1b neg1b A1b c1b l1b s3a neg3a A3a c3a l3a s3b neg3b A3b c3b l3b _ (by (first | with_reducible assumption | (repeat (first | with_reducible exact Below.refl _ _ | with_reducible assumption | refine Below.drew ?_ | (refine Below.alloc ?_ (by simp <;> omega) _) | refine belowN ?_ _)))) ((unhide F1).below (by (first | with_reducible assumption | (repeat (first | with_reducible exact Below.refl _ _ | with_reducible assumption | refine Below.drew ?_ | (refine Below.alloc ?_ (by simp <;> omega) _) | refine belowN ?_ _))))).n ((unhide F1).below (by (first | with_reducible assumption | (repeat (first | with_reducible exact Below.refl _ _ | with_reducible assumption | refine Below.drew ?_ | (refine Below.alloc ?_ (by simp <;> omega) _) | refine belowN ?_ _))))).d (IQ.n (q := y) (by first | exact iq3 | exact IQ.below iq3 (Below.drew (Below.refl _ _)))) (IQ.d (q := y) (by first | exact iq3 | exact IQ.below iq3 (Below.drew (Below.refl _ _))))).mono ?_; rintro e w' ⟨s5a, neg5a, A5a, c5a, l5a, s5b, neg5b, A5b, c5b, l5b, rfl, g1, g2, hb5⟩; have iq5 := IQ.mk g1 g2; clear g1 g2; have hbw := below_step (w := V) (by (first | with_reducible assumption | (repeat (first | with_reducible exact Below.refl _ _ | with_reducible assumption | refine Below.drew ?_ | (refine Below.alloc ?_ (by simp <;> omega) _) | refine belowN ?_ _)))) hb5; obtain ⟨hc, hfz⟩ := bcell hbw))
      all_goals
        have hst := boxt_store (boxt_below ⟨_, _, _, _, _, _, _, _, _, _, unhide J1, unhide F1⟩ hbw) iq5 ((unhide HGV).trans (hbw.mono (by omega))) (by omega) (by have := hbw.size; omega)
        clear iq5
        go_wp2_with fail
        go_roundw
        case rel => exact ⟨i + 1, by omega, by first | rfl | go_num, HNX.out ▸ hst.1, hide hst.2⟩
        case measure => simp [intOf] <;> omega
    · obtain rfl : i = m := by omega
      have dl1 : decide ((i : Int) < (i : Int)) = false := decide_eq_false (by omega)
      have dl2 : decide (i < i) = false := decide_eq_false (by omega)
      have jr := ((unhide hgr).block w.heap.size (by omega)).trans (unhide N0)
      have r0 : wr.cell? ⟨w.heap.size, 0, none⟩ = some (.int .i64 0) := cells_of jr 0
      have fr0 := unfrozen_of jr 0
      have r1 : wr.cell? ⟨w.heap.size, 1, none⟩ = some (.bool false) := cells_of jr 1
      have fr1 := unfrozen_of jr 1
      have r2 : wr.cell? ⟨w.heap.size, 2, none⟩ = some (.slice none 0 0) := cells_of jr 2
      have fr2 := unfrozen_of jr 2
      have r3 : wr.cell? ⟨w.heap.size, 3, none⟩ = some (.int .i64 0) := cells_of jr 3
      have fr3 := unfrozen_of jr 3
      have r4 : wr.cell? ⟨w.heap.size, 4, none⟩ = some (.bool false) := cells_of jr 4
      have fr4 := unfrozen_of jr 4
      have r5 : wr.cell? ⟨w.heap.size, 5, none⟩ = some (.slice none 0 0) := cells_of jr 5
      have fr5 := unfrozen_of jr 5
      have qr := lt_of_block jr
      have HBLK := Lib.hid jr
      obtain ⟨s1a, neg1a, A1a, c1a, l1a, s1b, neg1b, A1b, c1b, l1b, j1, f1'⟩ := hbq
      have kx_0 : wr.cell? ⟨bx, 0, none⟩ = some (.int .i64 s1a) := cells_of j1 0
      have ux_0 := unfrozen_of j1 0
      have kx_1 : wr.cell? ⟨bx, 1, none⟩ = some (.bool neg1a) := cells_of j1 1
      have ux_1 := unfrozen_of j1 1
      have kx_2 : wr.cell? ⟨bx, 2, none⟩ = some (.slice A1a l1a.length c1a) := cells_of j1 2
      have ux_2 := unfrozen_of j1 2
      have kx_3 : wr.cell? ⟨bx, 3, none⟩ = some (.int .i64 s1b) := cells_of j1 3
      have ux_3 := unfrozen_of j1 3
      have kx_4 : wr.cell? ⟨bx, 4, none⟩ = some (.bool neg1b) := cells_of j1 4
      have ux_4 := unfrozen_of j1 4
      have kx_5 : wr.cell? ⟨bx, 5, none⟩ = some (.slice A1b l1b.length c1b) := cells_of j1 5
      have ux_5 := unfrozen_of j1 5
      have qx := lt_of_block j1
      have F1 := hide f1'
      have HWR := hide hwr
      clear f1' j1 jr hgr HSZ HJ HRS hwr
      go_wp2_with fail
      exact bodyPost_ret (v := (Value.agg #[.int .i64 s1a, .bool neg1a, .slice A1a l1a.length c1a, .int .i64 s1b, .bool neg1b, .slice A1b l1b.length c1b])) (by simp [results, Tryz.results69, go_sem, r0, r1, r2, r3, r4, r5, qr]) rfl
        ⟨s1a, neg1a, A1a, c1a, l1a, s1b, neg1b, A1b, c1b, l1b, rfl, (unhide F1).n.upto HBLK.out (noWord6 _ _ _ _ _ _ _ _ _ _) (set6_grown _ _ _ _ _ _ _ _), (unhide F1).d.upto HBLK.out (noWord6 _ _ _ _ _ _ _ _ _ _) (set6_grown _ _ _ _ _ _ _ _), (unhide HWR).grown (set6_grown _ _ _ _ _ _ _ _) (unhide HWR).size (fun k hk => by injection hk with hk; omega)⟩

end Go.Proofs.YtpjgoogeokbaaaaGreatDoor
/- The reference: the error of lists of numbers. -/
namespace Go.Proofs.YtpjgoogeokbaaaaGreatDoor
open Go.RowKit

set_option maxRecDepth 100000 in
set_option maxHeartbeats 4000000 in
theorem tAres_any (A : Option Addr) (cap : Nat) (l : List (Int × Int)) (w : World) (h : Rs w w.heap.size A l) (hc : l.length ≤ cap) (hm : cap ≤ 9223372036854775807) :
    Calls Tryz.prog 75 #[.slice A l.length cap] w fun e w' => e = .returned (.bool (decide (Oks l))) ∧ Below w.heap.size w w' := by
  obtain ⟨r, hr⟩ : ∃ r, r = decide (Oks l) := ⟨_, rfl⟩
  rw [← hr]
  have HR := Lib.hid hr
  clear hr
  by_cases h0 : l.length = 0
  · have hr : r = true := by rw [HR.out]; exact decide_eq_true (fun i hi => by omega)
    subst hr
    rw [h0]
    clear HR h h0 hc
    go_enter Tryz.func75, Tryz.ntmps75
    go_wp2_with fail
    go_loopw [3] (fun iv wr => iv = .int .i64 0 ∧ Below w.heap.size w wr) (fun iv _ => 0)
    case atStart => exact ⟨rfl, Below.refl _ _⟩
    case round =>
      obtain ⟨rfl, hb⟩ := hrel
      go_wp2_with fail
      go_ret
      exact ⟨rfl, hb⟩
  · obtain ⟨b, off, rfl, hbb, hcell⟩ := h (by omega)
    have HC := hide hcell
    obtain ⟨m, hmm⟩ : ∃ m, m = l.length := ⟨_, rfl⟩
    have HV := hide (fun i W => tIs_any (rn l i) (rd l i) W)
    have HM := Lib.hid hmm
    rw [← hmm] at hc h0 ⊢
    clear hcell hmm
    go_enter Tryz.func75, Tryz.ntmps75
    go_wp2_with fail
    go_loopw [3] (fun iv wr => ∃ i : Nat, i ≤ m ∧ iv = .int .i64 ((i : Nat) : Int) ∧ Hid (∀ j, j < i → Wd.okR (rn l j) (rd l j)) ∧ Below w.heap.size w wr) (fun iv _ => m - (intOf iv).toNat)
    case atStart => exact ⟨0, by omega, rfl, fun j hj => by omega, Below.refl _ _⟩
    case round =>
      obtain ⟨i, hi, rfl, hall, hb⟩ := hrel
      by_cases hlt : i < m
      · have d1 : decide ((i : Int) < (m : Int)) = true := decide_eq_true (by omega)
        have d2 : decide (i < m) = true := decide_eq_true hlt
        have kc := (unhide HC) i (by rw [← HM.out]; exact hlt)
        have k0 := (hb.cell (p := ⟨b, off + i * 2, none⟩) hbb).trans kc.1
        have k1 := (hb.cell (p := ⟨b, off + i * 2 + 1, none⟩) hbb).trans kc.2
        have HVi := hide ((unhide HV) i)
        by_cases ok : Wd.okR (rn l i) (rd l i)
        · rw [decide_eq_true ok] at HVi
          have HN : Hid (∀ j, j < i + 1 → Wd.okR (rn l j) (rd l j)) := fun j hj => by
            by_cases hji : j = i
            · subst hji; exact ok
            · exact hall.out j (by omega)
          clear ok kc hall
          go_wp2_with fail
          refine ((unhide HVi) _).mono ?_
          rintro e w' ⟨rfl, hb2⟩
          have hb3 : Below w.heap.size w w' := below_step' hb hb2
          go_wp2_with fail
          go_roundw
          case rel => exact ⟨i + 1, by omega, by go_num, HN, hb3⟩
          case measure => simp [intOf] <;> omega
        · rw [decide_eq_false ok] at HVi
          have hr : r = false := by rw [HR.out]; exact decide_eq_false (fun h => ok (h i (by rw [← HM.out]; exact hlt)))
          subst hr
          clear ok kc hall
          go_wp2_with fail
          refine ((unhide HVi) _).mono ?_
          rintro e w' ⟨rfl, hb2⟩
          have hb3 : Below w.heap.size w w' := below_step' hb hb2
          go_wp2_with fail
          go_ret
          exact ⟨rfl, hb3⟩
      · obtain rfl : i = m := by omega
        have hr : r = true := by rw [HR.out]; exact decide_eq_true (fun j hj => hall.out j (by rw [HM.out]; exact hj))
        subst hr
        have d1 : decide ((i : Int) < (i : Int)) = false := decide_eq_false (by omega)
        clear hall
        go_wp2_with fail
        go_ret
        exact ⟨rfl, hb⟩

set_option maxRecDepth 100000 in
set_option maxHeartbeats 2000000 in
theorem tAlls_any (A : Option Addr) (cap : Nat) (l : List (Int × Int)) (w : World) (h : Rs w w.heap.size A l) (hc : l.length ≤ cap) (hm : cap ≤ 9223372036854775807) :
    Calls Tryz.prog 40 #[.slice A l.length cap] w fun e w' => e = .returned (.int .i64 (if Oks l then 0 else 1)) ∧ Below w.heap.size w w' := by
  have HA := hide (tAres_any A cap l w h hc hm)
  by_cases ok : Oks l
  · rw [decide_eq_true ok] at HA
    rw [if_pos ok]
    clear ok h hc hm
    go_enter Tryz.func40, Tryz.ntmps40
    go_wp2_with fail
    refine (unhide HA).mono ?_
    rintro e w' ⟨rfl, hb2⟩
    go_wp2_with fail
    all_goals first | go_ret | skip
    exact ⟨rfl, hb2⟩
  · rw [decide_eq_false ok] at HA
    rw [if_neg ok]
    clear ok h hc hm
    go_enter Tryz.func40, Tryz.ntmps40
    go_wp2_with fail
    refine (unhide HA).mono ?_
    rintro e w' ⟨rfl, hb2⟩
    go_wp2_with fail
    all_goals first | go_ret | skip
    exact ⟨rfl, hb2⟩

end Go.Proofs.YtpjgoogeokbaaaaGreatDoor
