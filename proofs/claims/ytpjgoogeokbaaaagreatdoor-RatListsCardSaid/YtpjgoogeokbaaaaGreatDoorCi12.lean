/- Part 12 of the texts beneath a law of layer 1: RfQm1, RfQm2, RfQm3, RfQd, RfQt, RfSgn, RfInt, RfFlW, RfFlQ, RfDoB, RfRatv, RfToldv, JnR, TxD, TxI, TrL, RlB. -/
import Derived.Test.YtpjgoogeokbaaaaGreatDoorCi11
import Derived.Lib.Strings
/- The walk through the product of two integers as numbers of the reference. -/
namespace Go.Proofs.YtpjgoogeokbaaaaGreatDoor
open Go.RowKit

set_option maxRecDepth 100000 in
set_option maxHeartbeats 16000000 in
theorem qmul_tt (A1 : Option Addr) (c1 : Nat) (l1 : List Nat) (m1 : Bool) (A2 : Option Addr) (c2 : Nat) (l2 : List Nat) (m2 : Bool) (A3 : Option Addr) (c3 : Nat) (l3 : List Nat) (m3 : Bool) (A4 : Option Addr) (c4 : Nat) (l4 : List Nat) (m4 : Bool) (z1 b1 z3 b3 n : Int) (q : Rat) (w : World) (f1 : WholeF w A1 c1 l1 m1 z1) (f3 : WholeF w A3 c3 l3 m3 z3)
    (hd1 : ∀ W, Below w.heap.size w W → Calls Tryz.prog 95 #[(Value.agg #[.slice A1 l1.length c1, .bool m1, .slice A2 l2.length c2, .bool m2])] W fun e w' => WholeR W b1 e w') (hd3 : ∀ W, Below w.heap.size w W → Calls Tryz.prog 95 #[(Value.agg #[.slice A3 l3.length c3, .bool m3, .slice A4 l4.length c4, .bool m4])] W fun e w' => WholeR W b3 e w')
    (ho1 : ∀ (A7 : Option Addr) (c7 : Nat) (l7 : List Nat) (m7 : Bool) (W : World), Below w.heap.size w W → WholeF W A7 c7 l7 m7 b1 → Calls Tryz.prog 96 #[(Value.agg #[.slice A7 l7.length c7, .bool m7])] W fun e w' => e = .returned (.bool true) ∧ Below W.heap.size W w') (ho3 : ∀ (A7 : Option Addr) (c7 : Nat) (l7 : List Nat) (m7 : Bool) (W : World), Below w.heap.size w W → WholeF W A7 c7 l7 m7 b3 → Calls Tryz.prog 96 #[(Value.agg #[.slice A7 l7.length c7, .bool m7])] W fun e w' => e = .returned (.bool true) ∧ Below W.heap.size W w') (hn : OpW2 w 98 z1 z3 n) (hnum : n = q.num) (hden : b1 = (q.den : Int)) :
    Calls Tryz.prog 45 #[(Value.agg #[.slice A1 l1.length c1, .bool m1, .slice A2 l2.length c2, .bool m2]), (Value.agg #[.slice A3 l3.length c3, .bool m3, .slice A4 l4.length c4, .bool m4])] w fun e w' => QR w q e w' := by
  have H1 := hide f1
  have H3 := hide f3
  clear f1 f3
  have HD1 := hide hd1
  have HD3 := hide hd3
  have HO1 := hide ho1
  have HO3 := hide ho3
  have HN := hide hn
  clear hd1 hd3 ho1 ho3 hn
  go_enter Tryz.func45, Tryz.ntmps45
  go_upto_region 1 with fail
  obtain ⟨n0, n1, n2, hsz, hw0⟩ := three_new w (.cells #[.slice A1 l1.length c1, .bool m1, .slice A2 l2.length c2, .bool m2] 52) (.cells #[.slice A3 l3.length c3, .bool m3, .slice A4 l4.length c4, .bool m4] 52) (.cells #[.slice none 0 0, .bool false, .slice none 0 0, .bool false] 52)
  generalize (((w.alloc (.cells #[.slice A1 l1.length c1, .bool m1, .slice A2 l2.length c2, .bool m2] 52)).alloc (.cells #[.slice A3 l3.length c3, .bool m3, .slice A4 l4.length c4, .bool m4] 52)).alloc (.cells #[.slice none 0 0, .bool false, .slice none 0 0, .bool false] 52)) = W0 at *
  have k0_0 : W0.cell? ⟨w.heap.size, 0, none⟩ = some (.slice A1 l1.length c1) := cells_of n0 0
  have k0_1 : W0.cell? ⟨w.heap.size, 1, none⟩ = some (.bool m1) := cells_of n0 1
  have k0_2 : W0.cell? ⟨w.heap.size, 2, none⟩ = some (.slice A2 l2.length c2) := cells_of n0 2
  have k0_3 : W0.cell? ⟨w.heap.size, 3, none⟩ = some (.bool m2) := cells_of n0 3
  have q0 : w.heap.size < W0.heap.size := by omega
  have k1_0 : W0.cell? ⟨w.heap.size + 1, 0, none⟩ = some (.slice A3 l3.length c3) := cells_of n1 0
  have k1_1 : W0.cell? ⟨w.heap.size + 1, 1, none⟩ = some (.bool m3) := cells_of n1 1
  have k1_2 : W0.cell? ⟨w.heap.size + 1, 2, none⟩ = some (.slice A4 l4.length c4) := cells_of n1 2
  have k1_3 : W0.cell? ⟨w.heap.size + 1, 3, none⟩ = some (.bool m4) := cells_of n1 3
  have q1 : w.heap.size + 1 < W0.heap.size := by omega
  have k2_0 : W0.cell? ⟨w.heap.size + 1 + 1, 0, none⟩ = some (.slice none 0 0) := cells_of n2 0
  have k2_1 : W0.cell? ⟨w.heap.size + 1 + 1, 1, none⟩ = some (.bool false) := cells_of n2 1
  have k2_2 : W0.cell? ⟨w.heap.size + 1 + 1, 2, none⟩ = some (.slice none 0 0) := cells_of n2 2
  have k2_3 : W0.cell? ⟨w.heap.size + 1 + 1, 3, none⟩ = some (.bool false) := cells_of n2 3
  have q2 : w.heap.size + 1 + 1 < W0.heap.size := by omega
  have f2_0 := unfrozen_of n2 0
  have f2_1 := unfrozen_of n2 1
  have f2_2 := unfrozen_of n2 2
  have f2_3 := unfrozen_of n2 3
  have NR := Lib.hid n2
  clear hsz n0 n1 n2
  replace H1 := hide ((unhide H1).below hw0)
  replace H3 := hide ((unhide H3).below hw0)
  go_upto_region 1 with fail
  go_cut [5, 6] (fun s5_ s6_ wx => ∃ b5 b6 : Nat, s5_ = .pointer (some ⟨b5, 0, none⟩) ∧ s6_ = .pointer (some ⟨b6, 0, none⟩) ∧ BoxW wx b5 b1 ∧ BoxW wx b6 b3 ∧ Below W0.heap.size W0 wx ∧ W0.heap.size ≤ b5 ∧ W0.heap.size ≤ b6)
  case first =>
    have KEEP := hide (show ∀ X, Below W0.heap.size W0 X → X.cell? ⟨w.heap.size, 0, none⟩ = some (.slice A1 l1.length c1) ∧ X.cell? ⟨w.heap.size, 1, none⟩ = some (.bool m1) ∧ X.cell? ⟨w.heap.size, 2, none⟩ = some (.slice A2 l2.length c2) ∧ X.cell? ⟨w.heap.size, 3, none⟩ = some (.bool m2) ∧ X.cell? ⟨w.heap.size + 1, 0, none⟩ = some (.slice A3 l3.length c3) ∧ X.cell? ⟨w.heap.size + 1, 1, none⟩ = some (.bool m3) ∧ X.cell? ⟨w.heap.size + 1, 2, none⟩ = some (.slice A4 l4.length c4) ∧ X.cell? ⟨w.heap.size + 1, 3, none⟩ = some (.bool m4) from fun X hB => ⟨keep_cell hB q0 k0_0, keep_cell hB q0 k0_1, keep_cell hB q0 k0_2, keep_cell hB q0 k0_3, keep_cell hB q1 k1_0, keep_cell hB q1 k1_1, keep_cell hB q1 k1_2, keep_cell hB q1 k1_3⟩)
    go_region_held3 (fun w' => w'.cell? ⟨w.heap.size, 0, none⟩ = some (.slice A1 l1.length c1) ∧ w'.cell? ⟨w.heap.size, 1, none⟩ = some (.bool m1) ∧ w'.cell? ⟨w.heap.size, 2, none⟩ = some (.slice A2 l2.length c2) ∧ w'.cell? ⟨w.heap.size, 3, none⟩ = some (.bool m2) ∧ w'.cell? ⟨w.heap.size + 1, 0, none⟩ = some (.slice A3 l3.length c3) ∧ w'.cell? ⟨w.heap.size + 1, 1, none⟩ = some (.bool m3) ∧ w'.cell? ⟨w.heap.size + 1, 2, none⟩ = some (.slice A4 l4.length c4) ∧ w'.cell? ⟨w.heap.size + 1, 3, none⟩ = some (.bool m4)) (exact (unhide KEEP) _ (by (repeat (first | with_reducible exact Below.refl _ _ | with_reducible assumption | with_reducible refine Below.drew ?_ | with_reducible refine below_alloc ?_ _ | (with_reducible refine below_set ?_ ?_ _ _; rotate_left; (first | omega | (simp <;> omega))))))) (first | (go_at_call_of 95 (Value.agg #[.slice A1 l1.length c1, .bool m1, .slice A2 l2.length c2, .bool m2]); refine ((unhide HD1) _ (below_step' hw0 (by (repeat (first | with_reducible exact Below.refl _ _ | with_reducible assumption | with_reducible refine Below.drew ?_ | with_reducible refine below_alloc ?_ _))))).mono ?_; rintro e w' ⟨A5, c5, l5, m5, rfl, hf5, hb5⟩; have hbw := below_step (w := W0) (by (repeat (first | with_reducible exact Below.refl _ _ | with_reducible assumption | with_reducible refine Below.drew ?_ | with_reducible refine below_alloc ?_ _))) hb5; have hsw := hbw.size; obtain ⟨hc, hfz⟩ := bcell hbw; (try ((first | have u5a : FrW W0 w' _ := FrW.below (FrW.new (by (repeat (first | with_reducible exact Below.refl _ _ | with_reducible assumption | with_reducible refine Below.drew ?_ | with_reducible refine below_alloc ?_ _))) rfl) hb5 | have u5a : FrW W0 w' _ := FrW.below (FrW.drew (FrW.new (by (repeat (first | with_reducible exact Below.refl _ _ | with_reducible assumption | with_reducible refine Below.drew ?_ | with_reducible refine below_alloc ?_ _))) rfl)) hb5); (try simp only [World.size_alloc] at u5a); (try dsimp only [World.drew] at u5a); (try simp only [World.size_alloc] at u5a); obtain ⟨⟨u5a1, u5a2⟩, ⟨u5a3, u5a4⟩, ⟨u5a5, u5a6⟩, ⟨u5a7, u5a8⟩, u5a9, u5a10⟩ := FrW.facts u5a)); (try ((first | have u5b : FrW W0 w' _ := FrW.below (FrW.alloc (FrW.new (by (repeat (first | with_reducible exact Below.refl _ _ | with_reducible assumption | with_reducible refine Below.drew ?_ | with_reducible refine below_alloc ?_ _))) rfl)) hb5 | have u5b : FrW W0 w' _ := FrW.below (FrW.drew (FrW.alloc (FrW.new (by (repeat (first | with_reducible exact Below.refl _ _ | with_reducible assumption | with_reducible refine Below.drew ?_ | with_reducible refine below_alloc ?_ _))) rfl))) hb5); (try simp only [World.size_alloc] at u5b); (try dsimp only [World.drew] at u5b); (try simp only [World.size_alloc] at u5b); obtain ⟨⟨u5b1, u5b2⟩, ⟨u5b3, u5b4⟩, ⟨u5b5, u5b6⟩, ⟨u5b7, u5b8⟩, u5b9, u5b10⟩ := FrW.facts u5b))) | (go_at_call_of 95 (Value.agg #[.slice A3 l3.length c3, .bool m3, .slice A4 l4.length c4, .bool m4]); refine ((unhide HD3) _ (below_step' hw0 (by (repeat (first | with_reducible exact Below.refl _ _ | with_reducible assumption | with_reducible refine Below.drew ?_ | with_reducible refine below_alloc ?_ _))))).mono ?_; rintro e w' ⟨A6, c6, l6, m6, rfl, hf6, hb6⟩; have hf5 := WholeF.below (WholeF.below hf5 (by (repeat (first | with_reducible exact Below.refl _ _ | with_reducible assumption | with_reducible refine Below.drew ?_ | with_reducible refine below_alloc ?_ _)))) hb6; have hbw := below_step (w := W0) (by (repeat (first | with_reducible exact Below.refl _ _ | with_reducible assumption | with_reducible refine Below.drew ?_ | with_reducible refine below_alloc ?_ _))) hb6; have hsw := hbw.size; obtain ⟨hc, hfz⟩ := bcell hbw; (try ((first | have u6a : FrW W0 w' _ := FrW.below (FrW.new (by (repeat (first | with_reducible exact Below.refl _ _ | with_reducible assumption | with_reducible refine Below.drew ?_ | with_reducible refine below_alloc ?_ _))) rfl) hb6 | have u6a : FrW W0 w' _ := FrW.below (FrW.drew (FrW.new (by (repeat (first | with_reducible exact Below.refl _ _ | with_reducible assumption | with_reducible refine Below.drew ?_ | with_reducible refine below_alloc ?_ _))) rfl)) hb6); (try simp only [World.size_alloc] at u6a); (try dsimp only [World.drew] at u6a); (try simp only [World.size_alloc] at u6a); obtain ⟨⟨u6a1, u6a2⟩, ⟨u6a3, u6a4⟩, ⟨u6a5, u6a6⟩, ⟨u6a7, u6a8⟩, u6a9, u6a10⟩ := FrW.facts u6a)); (try ((first | have u6b : FrW W0 w' _ := FrW.below (FrW.alloc (FrW.new (by (repeat (first | with_reducible exact Below.refl _ _ | with_reducible assumption | with_reducible refine Below.drew ?_ | with_reducible refine below_alloc ?_ _))) rfl)) hb6 | have u6b : FrW W0 w' _ := FrW.below (FrW.drew (FrW.alloc (FrW.new (by (repeat (first | with_reducible exact Below.refl _ _ | with_reducible assumption | with_reducible refine Below.drew ?_ | with_reducible refine below_alloc ?_ _))) rfl))) hb6); (try simp only [World.size_alloc] at u6b); (try dsimp only [World.drew] at u6b); (try simp only [World.size_alloc] at u6b); obtain ⟨⟨u6b1, u6b2⟩, ⟨u6b3, u6b4⟩, ⟨u6b5, u6b6⟩, ⟨u6b7, u6b8⟩, u6b9, u6b10⟩ := FrW.facts u6b)); (try ((first | have u6c : FrW W0 w' _ := FrW.below u5a hb6 | have u6c : FrW W0 w' _ := FrW.below (FrW.alloc u5a) hb6 | have u6c : FrW W0 w' _ := FrW.below (FrW.alloc (FrW.alloc u5a)) hb6); (try simp only [World.size_alloc] at u6c); (try dsimp only [World.drew] at u6c); (try simp only [World.size_alloc] at u6c); obtain ⟨⟨u6c1, u6c2⟩, ⟨u6c3, u6c4⟩, ⟨u6c5, u6c6⟩, ⟨u6c7, u6c8⟩, u6c9, u6c10⟩ := FrW.facts u6c)); (try ((first | have u6d : FrW W0 w' _ := FrW.below u5b hb6 | have u6d : FrW W0 w' _ := FrW.below (FrW.alloc u5b) hb6 | have u6d : FrW W0 w' _ := FrW.below (FrW.alloc (FrW.alloc u5b)) hb6); (try simp only [World.size_alloc] at u6d); (try dsimp only [World.drew] at u6d); (try simp only [World.size_alloc] at u6d); obtain ⟨⟨u6d1, u6d2⟩, ⟨u6d3, u6d4⟩, ⟨u6d5, u6d6⟩, ⟨u6d7, u6d8⟩, u6d9, u6d10⟩ := FrW.facts u6d))))
    all_goals (go_wp2_with fail; go_meet; refine ⟨_, _, rfl, rfl, ?_⟩; first | with_reducible exact wput_two ⟨by assumption, by assumption, by first | assumption | omega⟩ hf5 hf6 hbw | with_reducible exact wput_two (FrW2.newR (by assumption) rfl) hf5.alloc hf6.alloc (below_alloc hbw _) | with_reducible exact wput_two (FrW2.newL (by assumption) rfl) hf5.alloc hf6.alloc (below_alloc hbw _) | with_reducible exact wput_nn hf5 hf6 hbw rfl rfl | with_reducible exact wput_mm hf5 hf6 hbw rfl rfl | with_reducible exact wput_ns (by assumption) hf5 hf6 hbw rfl)
  case rest =>
    revert hcut
    generalize wc = W1
    intro hcut
    obtain ⟨b5, b6, rfl, rfl, B5, B6, hbx, ob5, ob6⟩ := hcut
    obtain ⟨hc, hfz⟩ := bcell hbx
    replace k0_0 := (hc _ _ q0).trans k0_0
    replace k0_1 := (hc _ _ q0).trans k0_1
    replace k0_2 := (hc _ _ q0).trans k0_2
    replace k0_3 := (hc _ _ q0).trans k0_3
    replace q0 := Nat.lt_of_lt_of_le q0 hbx.size
    replace k1_0 := (hc _ _ q1).trans k1_0
    replace k1_1 := (hc _ _ q1).trans k1_1
    replace k1_2 := (hc _ _ q1).trans k1_2
    replace k1_3 := (hc _ _ q1).trans k1_3
    replace q1 := Nat.lt_of_lt_of_le q1 hbx.size
    replace ob5 : w.heap.size + 1 + 1 < b5 := Nat.lt_of_lt_of_le q2 ob5
    replace ob6 : w.heap.size + 1 + 1 < b6 := Nat.lt_of_lt_of_le q2 ob6
    replace k2_0 := (hc _ _ q2).trans k2_0
    replace f2_0 := (hfz _ _ q2).trans f2_0
    replace k2_1 := (hc _ _ q2).trans k2_1
    replace f2_1 := (hfz _ _ q2).trans f2_1
    replace k2_2 := (hc _ _ q2).trans k2_2
    replace f2_2 := (hfz _ _ q2).trans f2_2
    replace k2_3 := (hc _ _ q2).trans k2_3
    replace f2_3 := (hfz _ _ q2).trans f2_3
    replace NR := Lib.hid ((hbx.block _ q2).trans NR.out)
    replace q2 := Nat.lt_of_lt_of_le q2 hbx.size
    replace hw0 := below_step' hw0 hbx
    replace H1 := hide ((unhide H1).below hbx)
    replace H3 := hide ((unhide H3).below hbx)
    obtain ⟨A5, c5, l5, m5, n5, H5⟩ := B5
    have kb5_0 : W1.cell? ⟨b5, 0, none⟩ = some (.slice A5 l5.length c5) := cells_of n5 0
    have kb5_1 : W1.cell? ⟨b5, 1, none⟩ = some (.bool m5) := cells_of n5 1
    have qb5 := lt_of_block n5
    replace H5 := hide H5
    clear n5
    obtain ⟨A6, c6, l6, m6, n6, H6⟩ := B6
    have kb6_0 : W1.cell? ⟨b6, 0, none⟩ = some (.slice A6 l6.length c6) := cells_of n6 0
    have kb6_1 : W1.cell? ⟨b6, 1, none⟩ = some (.bool m6) := cells_of n6 1
    have qb6 := lt_of_block n6
    replace H6 := hide H6
    clear n6
    clear hbx hc hfz
    go_wp2_with fail
    refine ((unhide HO1) A5 c5 l5 m5 _ hw0 (unhide H5)).mono ?_
    rintro e W2 ⟨rfl, hbx⟩
    obtain ⟨hc, hfz⟩ := bcell hbx
    replace k0_0 := (hc _ _ q0).trans k0_0
    replace k0_1 := (hc _ _ q0).trans k0_1
    replace k0_2 := (hc _ _ q0).trans k0_2
    replace k0_3 := (hc _ _ q0).trans k0_3
    replace q0 := Nat.lt_of_lt_of_le q0 hbx.size
    replace k1_0 := (hc _ _ q1).trans k1_0
    replace k1_1 := (hc _ _ q1).trans k1_1
    replace k1_2 := (hc _ _ q1).trans k1_2
    replace k1_3 := (hc _ _ q1).trans k1_3
    replace q1 := Nat.lt_of_lt_of_le q1 hbx.size
    replace kb5_0 := (hc _ _ qb5).trans kb5_0
    replace kb5_1 := (hc _ _ qb5).trans kb5_1
    replace qb5 := Nat.lt_of_lt_of_le qb5 hbx.size
    replace kb6_0 := (hc _ _ qb6).trans kb6_0
    replace kb6_1 := (hc _ _ qb6).trans kb6_1
    replace qb6 := Nat.lt_of_lt_of_le qb6 hbx.size
    replace k2_0 := (hc _ _ q2).trans k2_0
    replace f2_0 := (hfz _ _ q2).trans f2_0
    replace k2_1 := (hc _ _ q2).trans k2_1
    replace f2_1 := (hfz _ _ q2).trans f2_1
    replace k2_2 := (hc _ _ q2).trans k2_2
    replace f2_2 := (hfz _ _ q2).trans f2_2
    replace k2_3 := (hc _ _ q2).trans k2_3
    replace f2_3 := (hfz _ _ q2).trans f2_3
    replace NR := Lib.hid ((hbx.block _ q2).trans NR.out)
    replace q2 := Nat.lt_of_lt_of_le q2 hbx.size
    replace hw0 := below_step' hw0 hbx
    replace H1 := hide ((unhide H1).below hbx)
    replace H3 := hide ((unhide H3).below hbx)
    replace H5 := hide ((unhide H5).below hbx)
    replace H6 := hide ((unhide H6).below hbx)
    clear hbx hc hfz
    go_wp2_with fail
    refine ((unhide HO3) A6 c6 l6 m6 _ hw0 (unhide H6)).mono ?_
    rintro e W3 ⟨rfl, hbx⟩
    obtain ⟨hc, hfz⟩ := bcell hbx
    replace k0_0 := (hc _ _ q0).trans k0_0
    replace k0_1 := (hc _ _ q0).trans k0_1
    replace k0_2 := (hc _ _ q0).trans k0_2
    replace k0_3 := (hc _ _ q0).trans k0_3
    replace q0 := Nat.lt_of_lt_of_le q0 hbx.size
    replace k1_0 := (hc _ _ q1).trans k1_0
    replace k1_1 := (hc _ _ q1).trans k1_1
    replace k1_2 := (hc _ _ q1).trans k1_2
    replace k1_3 := (hc _ _ q1).trans k1_3
    replace q1 := Nat.lt_of_lt_of_le q1 hbx.size
    replace kb5_0 := (hc _ _ qb5).trans kb5_0
    replace kb5_1 := (hc _ _ qb5).trans kb5_1
    replace qb5 := Nat.lt_of_lt_of_le qb5 hbx.size
    replace kb6_0 := (hc _ _ qb6).trans kb6_0
    replace kb6_1 := (hc _ _ qb6).trans kb6_1
    replace qb6 := Nat.lt_of_lt_of_le qb6 hbx.size
    replace k2_0 := (hc _ _ q2).trans k2_0
    replace f2_0 := (hfz _ _ q2).trans f2_0
    replace k2_1 := (hc _ _ q2).trans k2_1
    replace f2_1 := (hfz _ _ q2).trans f2_1
    replace k2_2 := (hc _ _ q2).trans k2_2
    replace f2_2 := (hfz _ _ q2).trans f2_2
    replace k2_3 := (hc _ _ q2).trans k2_3
    replace f2_3 := (hfz _ _ q2).trans f2_3
    replace NR := Lib.hid ((hbx.block _ q2).trans NR.out)
    replace q2 := Nat.lt_of_lt_of_le q2 hbx.size
    replace hw0 := below_step' hw0 hbx
    replace H1 := hide ((unhide H1).below hbx)
    replace H3 := hide ((unhide H3).below hbx)
    replace H5 := hide ((unhide H5).below hbx)
    replace H6 := hide ((unhide H6).below hbx)
    clear hbx hc hfz
    go_upto_region 3 with fail
    have KEEP := hide (show ∀ X, Below W3.heap.size W3 X → X.cell? ⟨w.heap.size, 0, none⟩ = some (.slice A1 l1.length c1) ∧ X.cell? ⟨w.heap.size, 1, none⟩ = some (.bool m1) ∧ X.cell? ⟨w.heap.size, 2, none⟩ = some (.slice A2 l2.length c2) ∧ X.cell? ⟨w.heap.size, 3, none⟩ = some (.bool m2) ∧ X.cell? ⟨w.heap.size + 1, 0, none⟩ = some (.slice A3 l3.length c3) ∧ X.cell? ⟨w.heap.size + 1, 1, none⟩ = some (.bool m3) ∧ X.cell? ⟨w.heap.size + 1, 2, none⟩ = some (.slice A4 l4.length c4) ∧ X.cell? ⟨w.heap.size + 1, 3, none⟩ = some (.bool m4) ∧ X.cell? ⟨b5, 0, none⟩ = some (.slice A5 l5.length c5) ∧ X.cell? ⟨b5, 1, none⟩ = some (.bool m5) ∧ X.cell? ⟨b6, 0, none⟩ = some (.slice A6 l6.length c6) ∧ X.cell? ⟨b6, 1, none⟩ = some (.bool m6) from fun X hB => ⟨keep_cell hB q0 k0_0, keep_cell hB q0 k0_1, keep_cell hB q0 k0_2, keep_cell hB q0 k0_3, keep_cell hB q1 k1_0, keep_cell hB q1 k1_1, keep_cell hB q1 k1_2, keep_cell hB q1 k1_3, keep_cell hB qb5 kb5_0, keep_cell hB qb5 kb5_1, keep_cell hB qb6 kb6_0, keep_cell hB qb6 kb6_1⟩)
    go_region_held3 (fun w' => w'.cell? ⟨w.heap.size, 0, none⟩ = some (.slice A1 l1.length c1) ∧ w'.cell? ⟨w.heap.size, 1, none⟩ = some (.bool m1) ∧ w'.cell? ⟨w.heap.size, 2, none⟩ = some (.slice A2 l2.length c2) ∧ w'.cell? ⟨w.heap.size, 3, none⟩ = some (.bool m2) ∧ w'.cell? ⟨w.heap.size + 1, 0, none⟩ = some (.slice A3 l3.length c3) ∧ w'.cell? ⟨w.heap.size + 1, 1, none⟩ = some (.bool m3) ∧ w'.cell? ⟨w.heap.size + 1, 2, none⟩ = some (.slice A4 l4.length c4) ∧ w'.cell? ⟨w.heap.size + 1, 3, none⟩ = some (.bool m4) ∧ w'.cell? ⟨b5, 0, none⟩ = some (.slice A5 l5.length c5) ∧ w'.cell? ⟨b5, 1, none⟩ = some (.bool m5) ∧ w'.cell? ⟨b6, 0, none⟩ = some (.slice A6 l6.length c6) ∧ w'.cell? ⟨b6, 1, none⟩ = some (.bool m6)) (first | with_reducible exact ⟨(cell_set4 _ _ _ _ _ _ (by omega)).trans (keep_cell hbw q0 k0_0), (cell_set4 _ _ _ _ _ _ (by omega)).trans (keep_cell hbw q0 k0_1), (cell_set4 _ _ _ _ _ _ (by omega)).trans (keep_cell hbw q0 k0_2), (cell_set4 _ _ _ _ _ _ (by omega)).trans (keep_cell hbw q0 k0_3), (cell_set4 _ _ _ _ _ _ (by omega)).trans (keep_cell hbw q1 k1_0), (cell_set4 _ _ _ _ _ _ (by omega)).trans (keep_cell hbw q1 k1_1), (cell_set4 _ _ _ _ _ _ (by omega)).trans (keep_cell hbw q1 k1_2), (cell_set4 _ _ _ _ _ _ (by omega)).trans (keep_cell hbw q1 k1_3), (cell_set4 _ _ _ _ _ _ (by omega)).trans (keep_cell hbw qb5 kb5_0), (cell_set4 _ _ _ _ _ _ (by omega)).trans (keep_cell hbw qb5 kb5_1), (cell_set4 _ _ _ _ _ _ (by omega)).trans (keep_cell hbw qb6 kb6_0), (cell_set4 _ _ _ _ _ _ (by omega)).trans (keep_cell hbw qb6 kb6_1)⟩ | with_reducible exact (unhide KEEP) _ (by (repeat (first | with_reducible exact Below.refl _ _ | with_reducible assumption | with_reducible refine Below.drew ?_ | with_reducible refine below_alloc ?_ _)))) (first | (go_at_call_of 98 (Value.agg #[.slice A1 l1.length c1, .bool m1]); refine ((unhide HN) A1 c1 l1 m1 A3 c3 l3 m3 _ (below_step' hw0 (by (repeat (first | with_reducible exact Below.refl _ _ | with_reducible assumption | with_reducible refine Below.drew ?_ | with_reducible refine below_alloc ?_ _)))) (WholeF.below (unhide H1) (by (repeat (first | with_reducible exact Below.refl _ _ | with_reducible assumption | with_reducible refine Below.drew ?_ | with_reducible refine below_alloc ?_ _)))) (WholeF.below (unhide H3) (by (repeat (first | with_reducible exact Below.refl _ _ | with_reducible assumption | with_reducible refine Below.drew ?_ | with_reducible refine below_alloc ?_ _))))).mono ?_; rintro e w' ⟨A10, c10, l10, m10, rfl, hf10, hb10⟩; have hbw := below_step (w := W3) (by (repeat (first | with_reducible exact Below.refl _ _ | with_reducible assumption | with_reducible refine Below.drew ?_ | with_reducible refine below_alloc ?_ _))) hb10; have hsw := hbw.size; obtain ⟨hc, hfz⟩ := bcell hbw))
    all_goals
      have hblk : w'.heap[w.heap.size + 1 + 1]? = some (.cells #[.slice none 0 0, .bool false, .slice none 0 0, .bool false] 52 (0, 0)) := (hbw.block _ q2).trans NR.out
      have HBLK := Lib.hid hblk
      have hb9 : Below w.heap.size w w' := below_step' hw0 hbw
      have hfi := (hf10)
      have hfj := ((unhide H5).below hbw)
      clear hblk
      go_wp2_with fail
      exact bodyPost_ret (v := (Value.agg #[.slice A10 l10.length c10, .bool m10, .slice A5 l5.length c5, .bool m5])) (by simp [results, Tryz.results45, go_sem, hc, k2_0, k2_1, k2_2, k2_3, q2]) rfl
        ⟨A10, c10, l10, m10, A5, c5, l5, m5, rfl, hnum ▸ hfi.upto HBLK.out (noW2_4 _ _ _ _ _ _ _ _) (set4_grown _ _ _ _ _ _), hden ▸ hfj.upto HBLK.out (noW2_4 _ _ _ _ _ _ _ _) (set4_grown _ _ _ _ _ _), hb9.grown (set4_grown _ _ _ _ _ _) hb9.size (fun k hk => by injection hk with hk; omega)⟩

end Go.Proofs.YtpjgoogeokbaaaaGreatDoor
/- The walk through the product of two numbers of the reference: the first is no integer. -/
namespace Go.Proofs.YtpjgoogeokbaaaaGreatDoor
open Go.RowKit

set_option maxRecDepth 100000 in
set_option maxHeartbeats 16000000 in
theorem qmul_f (A1 : Option Addr) (c1 : Nat) (l1 : List Nat) (m1 : Bool) (A2 : Option Addr) (c2 : Nat) (l2 : List Nat) (m2 : Bool) (A3 : Option Addr) (c3 : Nat) (l3 : List Nat) (m3 : Bool) (A4 : Option Addr) (c4 : Nat) (l4 : List Nat) (m4 : Bool) (z1 b1 z3 b3 n d : Int) (q : Rat) (w : World) (f1 : WholeF w A1 c1 l1 m1 z1) (f3 : WholeF w A3 c3 l3 m3 z3)
    (hd1 : ∀ W, Below w.heap.size w W → Calls Tryz.prog 95 #[(Value.agg #[.slice A1 l1.length c1, .bool m1, .slice A2 l2.length c2, .bool m2])] W fun e w' => WholeR W b1 e w') (hd3 : ∀ W, Below w.heap.size w W → Calls Tryz.prog 95 #[(Value.agg #[.slice A3 l3.length c3, .bool m3, .slice A4 l4.length c4, .bool m4])] W fun e w' => WholeR W b3 e w')
    (ho1 : ∀ (A7 : Option Addr) (c7 : Nat) (l7 : List Nat) (m7 : Bool) (W : World), Below w.heap.size w W → WholeF W A7 c7 l7 m7 b1 → Calls Tryz.prog 96 #[(Value.agg #[.slice A7 l7.length c7, .bool m7])] W fun e w' => e = .returned (.bool false) ∧ Below W.heap.size W w')  (hn : OpW2 w 98 z1 z3 n) (hm : OpW2 w 98 b1 b3 d) (hr : OpRQ w 92 n d q) :
    Calls Tryz.prog 45 #[(Value.agg #[.slice A1 l1.length c1, .bool m1, .slice A2 l2.length c2, .bool m2]), (Value.agg #[.slice A3 l3.length c3, .bool m3, .slice A4 l4.length c4, .bool m4])] w fun e w' => QR w q e w' := by
  have H1 := hide f1
  have H3 := hide f3
  clear f1 f3
  have HD1 := hide hd1
  have HD3 := hide hd3
  have HO1 := hide ho1
  have HN := hide hn
  have HM := hide hm
  have HR := hide hr
  clear hd1 hd3 ho1 hn hm hr
  go_enter Tryz.func45, Tryz.ntmps45
  go_upto_region 1 with fail
  obtain ⟨n0, n1, n2, hsz, hw0⟩ := three_new w (.cells #[.slice A1 l1.length c1, .bool m1, .slice A2 l2.length c2, .bool m2] 52) (.cells #[.slice A3 l3.length c3, .bool m3, .slice A4 l4.length c4, .bool m4] 52) (.cells #[.slice none 0 0, .bool false, .slice none 0 0, .bool false] 52)
  generalize (((w.alloc (.cells #[.slice A1 l1.length c1, .bool m1, .slice A2 l2.length c2, .bool m2] 52)).alloc (.cells #[.slice A3 l3.length c3, .bool m3, .slice A4 l4.length c4, .bool m4] 52)).alloc (.cells #[.slice none 0 0, .bool false, .slice none 0 0, .bool false] 52)) = W0 at *
  have k0_0 : W0.cell? ⟨w.heap.size, 0, none⟩ = some (.slice A1 l1.length c1) := cells_of n0 0
  have k0_1 : W0.cell? ⟨w.heap.size, 1, none⟩ = some (.bool m1) := cells_of n0 1
  have k0_2 : W0.cell? ⟨w.heap.size, 2, none⟩ = some (.slice A2 l2.length c2) := cells_of n0 2
  have k0_3 : W0.cell? ⟨w.heap.size, 3, none⟩ = some (.bool m2) := cells_of n0 3
  have q0 : w.heap.size < W0.heap.size := by omega
  have k1_0 : W0.cell? ⟨w.heap.size + 1, 0, none⟩ = some (.slice A3 l3.length c3) := cells_of n1 0
  have k1_1 : W0.cell? ⟨w.heap.size + 1, 1, none⟩ = some (.bool m3) := cells_of n1 1
  have k1_2 : W0.cell? ⟨w.heap.size + 1, 2, none⟩ = some (.slice A4 l4.length c4) := cells_of n1 2
  have k1_3 : W0.cell? ⟨w.heap.size + 1, 3, none⟩ = some (.bool m4) := cells_of n1 3
  have q1 : w.heap.size + 1 < W0.heap.size := by omega
  have k2_0 : W0.cell? ⟨w.heap.size + 1 + 1, 0, none⟩ = some (.slice none 0 0) := cells_of n2 0
  have k2_1 : W0.cell? ⟨w.heap.size + 1 + 1, 1, none⟩ = some (.bool false) := cells_of n2 1
  have k2_2 : W0.cell? ⟨w.heap.size + 1 + 1, 2, none⟩ = some (.slice none 0 0) := cells_of n2 2
  have k2_3 : W0.cell? ⟨w.heap.size + 1 + 1, 3, none⟩ = some (.bool false) := cells_of n2 3
  have q2 : w.heap.size + 1 + 1 < W0.heap.size := by omega
  have f2_0 := unfrozen_of n2 0
  have f2_1 := unfrozen_of n2 1
  have f2_2 := unfrozen_of n2 2
  have f2_3 := unfrozen_of n2 3
  have NR := Lib.hid n2
  clear hsz n0 n1 n2
  replace H1 := hide ((unhide H1).below hw0)
  replace H3 := hide ((unhide H3).below hw0)
  go_upto_region 1 with fail
  go_cut [5, 6] (fun s5_ s6_ wx => ∃ b5 b6 : Nat, s5_ = .pointer (some ⟨b5, 0, none⟩) ∧ s6_ = .pointer (some ⟨b6, 0, none⟩) ∧ BoxW wx b5 b1 ∧ BoxW wx b6 b3 ∧ Below W0.heap.size W0 wx ∧ W0.heap.size ≤ b5 ∧ W0.heap.size ≤ b6)
  case first =>
    have KEEP := hide (show ∀ X, Below W0.heap.size W0 X → X.cell? ⟨w.heap.size, 0, none⟩ = some (.slice A1 l1.length c1) ∧ X.cell? ⟨w.heap.size, 1, none⟩ = some (.bool m1) ∧ X.cell? ⟨w.heap.size, 2, none⟩ = some (.slice A2 l2.length c2) ∧ X.cell? ⟨w.heap.size, 3, none⟩ = some (.bool m2) ∧ X.cell? ⟨w.heap.size + 1, 0, none⟩ = some (.slice A3 l3.length c3) ∧ X.cell? ⟨w.heap.size + 1, 1, none⟩ = some (.bool m3) ∧ X.cell? ⟨w.heap.size + 1, 2, none⟩ = some (.slice A4 l4.length c4) ∧ X.cell? ⟨w.heap.size + 1, 3, none⟩ = some (.bool m4) from fun X hB => ⟨keep_cell hB q0 k0_0, keep_cell hB q0 k0_1, keep_cell hB q0 k0_2, keep_cell hB q0 k0_3, keep_cell hB q1 k1_0, keep_cell hB q1 k1_1, keep_cell hB q1 k1_2, keep_cell hB q1 k1_3⟩)
    go_region_held3 (fun w' => w'.cell? ⟨w.heap.size, 0, none⟩ = some (.slice A1 l1.length c1) ∧ w'.cell? ⟨w.heap.size, 1, none⟩ = some (.bool m1) ∧ w'.cell? ⟨w.heap.size, 2, none⟩ = some (.slice A2 l2.length c2) ∧ w'.cell? ⟨w.heap.size, 3, none⟩ = some (.bool m2) ∧ w'.cell? ⟨w.heap.size + 1, 0, none⟩ = some (.slice A3 l3.length c3) ∧ w'.cell? ⟨w.heap.size + 1, 1, none⟩ = some (.bool m3) ∧ w'.cell? ⟨w.heap.size + 1, 2, none⟩ = some (.slice A4 l4.length c4) ∧ w'.cell? ⟨w.heap.size + 1, 3, none⟩ = some (.bool m4)) (exact (unhide KEEP) _ (by (repeat (first | with_reducible exact Below.refl _ _ | with_reducible assumption | with_reducible refine Below.drew ?_ | with_reducible refine below_alloc ?_ _ | (with_reducible refine below_set ?_ ?_ _ _; rotate_left; (first | omega | (simp <;> omega))))))) (first | (go_at_call_of 95 (Value.agg #[.slice A1 l1.length c1, .bool m1, .slice A2 l2.length c2, .bool m2]); refine ((unhide HD1) _ (below_step' hw0 (by (repeat (first | with_reducible exact Below.refl _ _ | with_reducible assumption | with_reducible refine Below.drew ?_ | with_reducible refine below_alloc ?_ _))))).mono ?_; rintro e w' ⟨A5, c5, l5, m5, rfl, hf5, hb5⟩; have hbw := below_step (w := W0) (by (repeat (first | with_reducible exact Below.refl _ _ | with_reducible assumption | with_reducible refine Below.drew ?_ | with_reducible refine below_alloc ?_ _))) hb5; have hsw := hbw.size; obtain ⟨hc, hfz⟩ := bcell hbw; (try ((first | have u5a : FrW W0 w' _ := FrW.below (FrW.new (by (repeat (first | with_reducible exact Below.refl _ _ | with_reducible assumption | with_reducible refine Below.drew ?_ | with_reducible refine below_alloc ?_ _))) rfl) hb5 | have u5a : FrW W0 w' _ := FrW.below (FrW.drew (FrW.new (by (repeat (first | with_reducible exact Below.refl _ _ | with_reducible assumption | with_reducible refine Below.drew ?_ | with_reducible refine below_alloc ?_ _))) rfl)) hb5); (try simp only [World.size_alloc] at u5a); (try dsimp only [World.drew] at u5a); (try simp only [World.size_alloc] at u5a); obtain ⟨⟨u5a1, u5a2⟩, ⟨u5a3, u5a4⟩, ⟨u5a5, u5a6⟩, ⟨u5a7, u5a8⟩, u5a9, u5a10⟩ := FrW.facts u5a)); (try ((first | have u5b : FrW W0 w' _ := FrW.below (FrW.alloc (FrW.new (by (repeat (first | with_reducible exact Below.refl _ _ | with_reducible assumption | with_reducible refine Below.drew ?_ | with_reducible refine below_alloc ?_ _))) rfl)) hb5 | have u5b : FrW W0 w' _ := FrW.below (FrW.drew (FrW.alloc (FrW.new (by (repeat (first | with_reducible exact Below.refl _ _ | with_reducible assumption | with_reducible refine Below.drew ?_ | with_reducible refine below_alloc ?_ _))) rfl))) hb5); (try simp only [World.size_alloc] at u5b); (try dsimp only [World.drew] at u5b); (try simp only [World.size_alloc] at u5b); obtain ⟨⟨u5b1, u5b2⟩, ⟨u5b3, u5b4⟩, ⟨u5b5, u5b6⟩, ⟨u5b7, u5b8⟩, u5b9, u5b10⟩ := FrW.facts u5b))) | (go_at_call_of 95 (Value.agg #[.slice A3 l3.length c3, .bool m3, .slice A4 l4.length c4, .bool m4]); refine ((unhide HD3) _ (below_step' hw0 (by (repeat (first | with_reducible exact Below.refl _ _ | with_reducible assumption | with_reducible refine Below.drew ?_ | with_reducible refine below_alloc ?_ _))))).mono ?_; rintro e w' ⟨A6, c6, l6, m6, rfl, hf6, hb6⟩; have hf5 := WholeF.below (WholeF.below hf5 (by (repeat (first | with_reducible exact Below.refl _ _ | with_reducible assumption | with_reducible refine Below.drew ?_ | with_reducible refine below_alloc ?_ _)))) hb6; have hbw := below_step (w := W0) (by (repeat (first | with_reducible exact Below.refl _ _ | with_reducible assumption | with_reducible refine Below.drew ?_ | with_reducible refine below_alloc ?_ _))) hb6; have hsw := hbw.size; obtain ⟨hc, hfz⟩ := bcell hbw; (try ((first | have u6a : FrW W0 w' _ := FrW.below (FrW.new (by (repeat (first | with_reducible exact Below.refl _ _ | with_reducible assumption | with_reducible refine Below.drew ?_ | with_reducible refine below_alloc ?_ _))) rfl) hb6 | have u6a : FrW W0 w' _ := FrW.below (FrW.drew (FrW.new (by (repeat (first | with_reducible exact Below.refl _ _ | with_reducible assumption | with_reducible refine Below.drew ?_ | with_reducible refine below_alloc ?_ _))) rfl)) hb6); (try simp only [World.size_alloc] at u6a); (try dsimp only [World.drew] at u6a); (try simp only [World.size_alloc] at u6a); obtain ⟨⟨u6a1, u6a2⟩, ⟨u6a3, u6a4⟩, ⟨u6a5, u6a6⟩, ⟨u6a7, u6a8⟩, u6a9, u6a10⟩ := FrW.facts u6a)); (try ((first | have u6b : FrW W0 w' _ := FrW.below (FrW.alloc (FrW.new (by (repeat (first | with_reducible exact Below.refl _ _ | with_reducible assumption | with_reducible refine Below.drew ?_ | with_reducible refine below_alloc ?_ _))) rfl)) hb6 | have u6b : FrW W0 w' _ := FrW.below (FrW.drew (FrW.alloc (FrW.new (by (repeat (first | with_reducible exact Below.refl _ _ | with_reducible assumption | with_reducible refine Below.drew ?_ | with_reducible refine below_alloc ?_ _))) rfl))) hb6); (try simp only [World.size_alloc] at u6b); (try dsimp only [World.drew] at u6b); (try simp only [World.size_alloc] at u6b); obtain ⟨⟨u6b1, u6b2⟩, ⟨u6b3, u6b4⟩, ⟨u6b5, u6b6⟩, ⟨u6b7, u6b8⟩, u6b9, u6b10⟩ := FrW.facts u6b)); (try ((first | have u6c : FrW W0 w' _ := FrW.below u5a hb6 | have u6c : FrW W0 w' _ := FrW.below (FrW.alloc u5a) hb6 | have u6c : FrW W0 w' _ := FrW.below (FrW.alloc (FrW.alloc u5a)) hb6); (try simp only [World.size_alloc] at u6c); (try dsimp only [World.drew] at u6c); (try simp only [World.size_alloc] at u6c); obtain ⟨⟨u6c1, u6c2⟩, ⟨u6c3, u6c4⟩, ⟨u6c5, u6c6⟩, ⟨u6c7, u6c8⟩, u6c9, u6c10⟩ := FrW.facts u6c)); (try ((first | have u6d : FrW W0 w' _ := FrW.below u5b hb6 | have u6d : FrW W0 w' _ := FrW.below (FrW.alloc u5b) hb6 | have u6d : FrW W0 w' _ := FrW.below (FrW.alloc (FrW.alloc u5b)) hb6); (try simp only [World.size_alloc] at u6d); (try dsimp only [World.drew] at u6d); (try simp only [World.size_alloc] at u6d); obtain ⟨⟨u6d1, u6d2⟩, ⟨u6d3, u6d4⟩, ⟨u6d5, u6d6⟩, ⟨u6d7, u6d8⟩, u6d9, u6d10⟩ := FrW.facts u6d))))
    all_goals (go_wp2_with fail; go_meet; refine ⟨_, _, rfl, rfl, ?_⟩; first | with_reducible exact wput_two ⟨by assumption, by assumption, by first | assumption | omega⟩ hf5 hf6 hbw | with_reducible exact wput_two (FrW2.newR (by assumption) rfl) hf5.alloc hf6.alloc (below_alloc hbw _) | with_reducible exact wput_two (FrW2.newL (by assumption) rfl) hf5.alloc hf6.alloc (below_alloc hbw _) | with_reducible exact wput_nn hf5 hf6 hbw rfl rfl | with_reducible exact wput_mm hf5 hf6 hbw rfl rfl | with_reducible exact wput_ns (by assumption) hf5 hf6 hbw rfl)
  case rest =>
    revert hcut
    generalize wc = W1
    intro hcut
    obtain ⟨b5, b6, rfl, rfl, B5, B6, hbx, ob5, ob6⟩ := hcut
    obtain ⟨hc, hfz⟩ := bcell hbx
    replace k0_0 := (hc _ _ q0).trans k0_0
    replace k0_1 := (hc _ _ q0).trans k0_1
    replace k0_2 := (hc _ _ q0).trans k0_2
    replace k0_3 := (hc _ _ q0).trans k0_3
    replace q0 := Nat.lt_of_lt_of_le q0 hbx.size
    replace k1_0 := (hc _ _ q1).trans k1_0
    replace k1_1 := (hc _ _ q1).trans k1_1
    replace k1_2 := (hc _ _ q1).trans k1_2
    replace k1_3 := (hc _ _ q1).trans k1_3
    replace q1 := Nat.lt_of_lt_of_le q1 hbx.size
    replace ob5 : w.heap.size + 1 + 1 < b5 := Nat.lt_of_lt_of_le q2 ob5
    replace ob6 : w.heap.size + 1 + 1 < b6 := Nat.lt_of_lt_of_le q2 ob6
    replace k2_0 := (hc _ _ q2).trans k2_0
    replace f2_0 := (hfz _ _ q2).trans f2_0
    replace k2_1 := (hc _ _ q2).trans k2_1
    replace f2_1 := (hfz _ _ q2).trans f2_1
    replace k2_2 := (hc _ _ q2).trans k2_2
    replace f2_2 := (hfz _ _ q2).trans f2_2
    replace k2_3 := (hc _ _ q2).trans k2_3
    replace f2_3 := (hfz _ _ q2).trans f2_3
    replace NR := Lib.hid ((hbx.block _ q2).trans NR.out)
    replace q2 := Nat.lt_of_lt_of_le q2 hbx.size
    replace hw0 := below_step' hw0 hbx
    replace H1 := hide ((unhide H1).below hbx)
    replace H3 := hide ((unhide H3).below hbx)
    obtain ⟨A5, c5, l5, m5, n5, H5⟩ := B5
    have kb5_0 : W1.cell? ⟨b5, 0, none⟩ = some (.slice A5 l5.length c5) := cells_of n5 0
    have kb5_1 : W1.cell? ⟨b5, 1, none⟩ = some (.bool m5) := cells_of n5 1
    have qb5 := lt_of_block n5
    replace H5 := hide H5
    clear n5
    obtain ⟨A6, c6, l6, m6, n6, H6⟩ := B6
    have kb6_0 : W1.cell? ⟨b6, 0, none⟩ = some (.slice A6 l6.length c6) := cells_of n6 0
    have kb6_1 : W1.cell? ⟨b6, 1, none⟩ = some (.bool m6) := cells_of n6 1
    have qb6 := lt_of_block n6
    replace H6 := hide H6
    clear n6
    clear hbx hc hfz
    go_wp2_with fail
    refine ((unhide HO1) A5 c5 l5 m5 _ hw0 (unhide H5)).mono ?_
    rintro e W2 ⟨rfl, hbx⟩
    obtain ⟨hc, hfz⟩ := bcell hbx
    replace k0_0 := (hc _ _ q0).trans k0_0
    replace k0_1 := (hc _ _ q0).trans k0_1
    replace k0_2 := (hc _ _ q0).trans k0_2
    replace k0_3 := (hc _ _ q0).trans k0_3
    replace q0 := Nat.lt_of_lt_of_le q0 hbx.size
    replace k1_0 := (hc _ _ q1).trans k1_0
    replace k1_1 := (hc _ _ q1).trans k1_1
    replace k1_2 := (hc _ _ q1).trans k1_2
    replace k1_3 := (hc _ _ q1).trans k1_3
    replace q1 := Nat.lt_of_lt_of_le q1 hbx.size
    replace kb5_0 := (hc _ _ qb5).trans kb5_0
    replace kb5_1 := (hc _ _ qb5).trans kb5_1
    replace qb5 := Nat.lt_of_lt_of_le qb5 hbx.size
    replace kb6_0 := (hc _ _ qb6).trans kb6_0
    replace kb6_1 := (hc _ _ qb6).trans kb6_1
    replace qb6 := Nat.lt_of_lt_of_le qb6 hbx.size
    replace k2_0 := (hc _ _ q2).trans k2_0
    replace f2_0 := (hfz _ _ q2).trans f2_0
    replace k2_1 := (hc _ _ q2).trans k2_1
    replace f2_1 := (hfz _ _ q2).trans f2_1
    replace k2_2 := (hc _ _ q2).trans k2_2
    replace f2_2 := (hfz _ _ q2).trans f2_2
    replace k2_3 := (hc _ _ q2).trans k2_3
    replace f2_3 := (hfz _ _ q2).trans f2_3
    replace NR := Lib.hid ((hbx.block _ q2).trans NR.out)
    replace q2 := Nat.lt_of_lt_of_le q2 hbx.size
    replace hw0 := below_step' hw0 hbx
    replace H1 := hide ((unhide H1).below hbx)
    replace H3 := hide ((unhide H3).below hbx)
    replace H5 := hide ((unhide H5).below hbx)
    replace H6 := hide ((unhide H6).below hbx)
    clear hbx hc hfz
    go_upto_region 4 with fail
    have KEEP := hide (show ∀ X, Below W2.heap.size W2 X → X.cell? ⟨w.heap.size, 0, none⟩ = some (.slice A1 l1.length c1) ∧ X.cell? ⟨w.heap.size, 1, none⟩ = some (.bool m1) ∧ X.cell? ⟨w.heap.size, 2, none⟩ = some (.slice A2 l2.length c2) ∧ X.cell? ⟨w.heap.size, 3, none⟩ = some (.bool m2) ∧ X.cell? ⟨w.heap.size + 1, 0, none⟩ = some (.slice A3 l3.length c3) ∧ X.cell? ⟨w.heap.size + 1, 1, none⟩ = some (.bool m3) ∧ X.cell? ⟨w.heap.size + 1, 2, none⟩ = some (.slice A4 l4.length c4) ∧ X.cell? ⟨w.heap.size + 1, 3, none⟩ = some (.bool m4) ∧ X.cell? ⟨b5, 0, none⟩ = some (.slice A5 l5.length c5) ∧ X.cell? ⟨b5, 1, none⟩ = some (.bool m5) ∧ X.cell? ⟨b6, 0, none⟩ = some (.slice A6 l6.length c6) ∧ X.cell? ⟨b6, 1, none⟩ = some (.bool m6) from fun X hB => ⟨keep_cell hB q0 k0_0, keep_cell hB q0 k0_1, keep_cell hB q0 k0_2, keep_cell hB q0 k0_3, keep_cell hB q1 k1_0, keep_cell hB q1 k1_1, keep_cell hB q1 k1_2, keep_cell hB q1 k1_3, keep_cell hB qb5 kb5_0, keep_cell hB qb5 kb5_1, keep_cell hB qb6 kb6_0, keep_cell hB qb6 kb6_1⟩)
    go_region_held3 (fun w' => w'.cell? ⟨w.heap.size, 0, none⟩ = some (.slice A1 l1.length c1) ∧ w'.cell? ⟨w.heap.size, 1, none⟩ = some (.bool m1) ∧ w'.cell? ⟨w.heap.size, 2, none⟩ = some (.slice A2 l2.length c2) ∧ w'.cell? ⟨w.heap.size, 3, none⟩ = some (.bool m2) ∧ w'.cell? ⟨w.heap.size + 1, 0, none⟩ = some (.slice A3 l3.length c3) ∧ w'.cell? ⟨w.heap.size + 1, 1, none⟩ = some (.bool m3) ∧ w'.cell? ⟨w.heap.size + 1, 2, none⟩ = some (.slice A4 l4.length c4) ∧ w'.cell? ⟨w.heap.size + 1, 3, none⟩ = some (.bool m4) ∧ w'.cell? ⟨b5, 0, none⟩ = some (.slice A5 l5.length c5) ∧ w'.cell? ⟨b5, 1, none⟩ = some (.bool m5) ∧ w'.cell? ⟨b6, 0, none⟩ = some (.slice A6 l6.length c6) ∧ w'.cell? ⟨b6, 1, none⟩ = some (.bool m6)) (first | with_reducible exact ⟨(cell_set4 _ _ _ _ _ _ (by omega)).trans (keep_cell hbw q0 k0_0), (cell_set4 _ _ _ _ _ _ (by omega)).trans (keep_cell hbw q0 k0_1), (cell_set4 _ _ _ _ _ _ (by omega)).trans (keep_cell hbw q0 k0_2), (cell_set4 _ _ _ _ _ _ (by omega)).trans (keep_cell hbw q0 k0_3), (cell_set4 _ _ _ _ _ _ (by omega)).trans (keep_cell hbw q1 k1_0), (cell_set4 _ _ _ _ _ _ (by omega)).trans (keep_cell hbw q1 k1_1), (cell_set4 _ _ _ _ _ _ (by omega)).trans (keep_cell hbw q1 k1_2), (cell_set4 _ _ _ _ _ _ (by omega)).trans (keep_cell hbw q1 k1_3), (cell_set4 _ _ _ _ _ _ (by omega)).trans (keep_cell hbw qb5 kb5_0), (cell_set4 _ _ _ _ _ _ (by omega)).trans (keep_cell hbw qb5 kb5_1), (cell_set4 _ _ _ _ _ _ (by omega)).trans (keep_cell hbw qb6 kb6_0), (cell_set4 _ _ _ _ _ _ (by omega)).trans (keep_cell hbw qb6 kb6_1)⟩ | with_reducible exact (unhide KEEP) _ (by (repeat (first | with_reducible exact Below.refl _ _ | with_reducible assumption | with_reducible refine Below.drew ?_ | with_reducible refine below_alloc ?_ _)))) (first | (go_at_call_of 98 (Value.agg #[.slice A1 l1.length c1, .bool m1]); refine ((unhide HN) A1 c1 l1 m1 A3 c3 l3 m3 _ (below_step' hw0 (by (repeat (first | with_reducible exact Below.refl _ _ | with_reducible assumption | with_reducible refine Below.drew ?_ | with_reducible refine below_alloc ?_ _)))) (WholeF.below (unhide H1) (by (repeat (first | with_reducible exact Below.refl _ _ | with_reducible assumption | with_reducible refine Below.drew ?_ | with_reducible refine below_alloc ?_ _)))) (WholeF.below (unhide H3) (by (repeat (first | with_reducible exact Below.refl _ _ | with_reducible assumption | with_reducible refine Below.drew ?_ | with_reducible refine below_alloc ?_ _))))).mono ?_; rintro e w' ⟨A10, c10, l10, m10, rfl, hf10, hb10⟩; have hbw := below_step (w := W2) (by (repeat (first | with_reducible exact Below.refl _ _ | with_reducible assumption | with_reducible refine Below.drew ?_ | with_reducible refine below_alloc ?_ _))) hb10; have hsw := hbw.size; obtain ⟨hc, hfz⟩ := bcell hbw) | (go_at_call_of 98 (Value.agg #[.slice A5 l5.length c5, .bool m5]); refine ((unhide HM) A5 c5 l5 m5 A6 c6 l6 m6 _ (below_step' hw0 (by (repeat (first | with_reducible exact Below.refl _ _ | with_reducible assumption | with_reducible refine Below.drew ?_ | with_reducible refine below_alloc ?_ _)))) (WholeF.below (unhide H5) (by (repeat (first | with_reducible exact Below.refl _ _ | with_reducible assumption | with_reducible refine Below.drew ?_ | with_reducible refine below_alloc ?_ _)))) (WholeF.below (unhide H6) (by (repeat (first | with_reducible exact Below.refl _ _ | with_reducible assumption | with_reducible refine Below.drew ?_ | with_reducible refine below_alloc ?_ _))))).mono ?_; rintro e w' ⟨A11, c11, l11, m11, rfl, hf11, hb11⟩; have hf10 := WholeF.below (WholeF.below hf10 (by (repeat (first | with_reducible exact Below.refl _ _ | with_reducible assumption | with_reducible refine Below.drew ?_ | with_reducible refine below_alloc ?_ _)))) hb11; have hbw := below_step (w := W2) (by (repeat (first | with_reducible exact Below.refl _ _ | with_reducible assumption | with_reducible refine Below.drew ?_ | with_reducible refine below_alloc ?_ _))) hb11; have hsw := hbw.size; obtain ⟨hc, hfz⟩ := bcell hbw) | (go_at_call_of 92 (Value.agg #[.slice A10 l10.length c10, .bool m10]); refine ((unhide HR) A10 c10 l10 m10 A11 c11 l11 m11 _ (below_step' hw0 (by (repeat (first | with_reducible exact Below.refl _ _ | with_reducible assumption | with_reducible refine Below.drew ?_ | with_reducible refine below_alloc ?_ _)))) (WholeF.below hf10 (by (repeat (first | with_reducible exact Below.refl _ _ | with_reducible assumption | with_reducible refine Below.drew ?_ | with_reducible refine below_alloc ?_ _)))) (WholeF.below hf11 (by (repeat (first | with_reducible exact Below.refl _ _ | with_reducible assumption | with_reducible refine Below.drew ?_ | with_reducible refine below_alloc ?_ _))))).mono ?_; rintro e w' ⟨A12, c12, l12, m12, A13, c13, l13, m13, rfl, hf12, hf13, hb12⟩; have hf10 := WholeF.below (WholeF.below hf10 (by (repeat (first | with_reducible exact Below.refl _ _ | with_reducible assumption | with_reducible refine Below.drew ?_ | with_reducible refine below_alloc ?_ _)))) hb12; have hf11 := WholeF.below (WholeF.below hf11 (by (repeat (first | with_reducible exact Below.refl _ _ | with_reducible assumption | with_reducible refine Below.drew ?_ | with_reducible refine below_alloc ?_ _)))) hb12; have hbw := below_step (w := W2) (by (repeat (first | with_reducible exact Below.refl _ _ | with_reducible assumption | with_reducible refine Below.drew ?_ | with_reducible refine below_alloc ?_ _))) hb12; have hsw := hbw.size; obtain ⟨hc, hfz⟩ := bcell hbw))
    all_goals
      have hblk : w'.heap[w.heap.size + 1 + 1]? = some (.cells #[.slice none 0 0, .bool false, .slice none 0 0, .bool false] 52 (0, 0)) := (hbw.block _ q2).trans NR.out
      have HBLK := Lib.hid hblk
      have hb9 : Below w.heap.size w w' := below_step' hw0 hbw
      have hfi := (hf12)
      have hfj := (hf13)
      clear hblk
      go_wp2_with fail
      exact bodyPost_ret (v := (Value.agg #[.slice A12 l12.length c12, .bool m12, .slice A13 l13.length c13, .bool m13])) (by simp [results, Tryz.results45, go_sem, hc, k2_0, k2_1, k2_2, k2_3, q2]) rfl
        ⟨A12, c12, l12, m12, A13, c13, l13, m13, rfl, hfi.upto HBLK.out (noW2_4 _ _ _ _ _ _ _ _) (set4_grown _ _ _ _ _ _), hfj.upto HBLK.out (noW2_4 _ _ _ _ _ _ _ _) (set4_grown _ _ _ _ _ _), hb9.grown (set4_grown _ _ _ _ _ _) hb9.size (fun k hk => by injection hk with hk; omega)⟩

end Go.Proofs.YtpjgoogeokbaaaaGreatDoor
/- The walk through the product of two numbers of the reference: the second is no integer. -/
namespace Go.Proofs.YtpjgoogeokbaaaaGreatDoor
open Go.RowKit

set_option maxRecDepth 100000 in
set_option maxHeartbeats 16000000 in
theorem qmul_tf (A1 : Option Addr) (c1 : Nat) (l1 : List Nat) (m1 : Bool) (A2 : Option Addr) (c2 : Nat) (l2 : List Nat) (m2 : Bool) (A3 : Option Addr) (c3 : Nat) (l3 : List Nat) (m3 : Bool) (A4 : Option Addr) (c4 : Nat) (l4 : List Nat) (m4 : Bool) (z1 b1 z3 b3 n d : Int) (q : Rat) (w : World) (f1 : WholeF w A1 c1 l1 m1 z1) (f3 : WholeF w A3 c3 l3 m3 z3)
    (hd1 : ∀ W, Below w.heap.size w W → Calls Tryz.prog 95 #[(Value.agg #[.slice A1 l1.length c1, .bool m1, .slice A2 l2.length c2, .bool m2])] W fun e w' => WholeR W b1 e w') (hd3 : ∀ W, Below w.heap.size w W → Calls Tryz.prog 95 #[(Value.agg #[.slice A3 l3.length c3, .bool m3, .slice A4 l4.length c4, .bool m4])] W fun e w' => WholeR W b3 e w')
    (ho1 : ∀ (A7 : Option Addr) (c7 : Nat) (l7 : List Nat) (m7 : Bool) (W : World), Below w.heap.size w W → WholeF W A7 c7 l7 m7 b1 → Calls Tryz.prog 96 #[(Value.agg #[.slice A7 l7.length c7, .bool m7])] W fun e w' => e = .returned (.bool true) ∧ Below W.heap.size W w') (ho3 : ∀ (A7 : Option Addr) (c7 : Nat) (l7 : List Nat) (m7 : Bool) (W : World), Below w.heap.size w W → WholeF W A7 c7 l7 m7 b3 → Calls Tryz.prog 96 #[(Value.agg #[.slice A7 l7.length c7, .bool m7])] W fun e w' => e = .returned (.bool false) ∧ Below W.heap.size W w') (hn : OpW2 w 98 z1 z3 n) (hm : OpW2 w 98 b1 b3 d) (hr : OpRQ w 92 n d q) :
    Calls Tryz.prog 45 #[(Value.agg #[.slice A1 l1.length c1, .bool m1, .slice A2 l2.length c2, .bool m2]), (Value.agg #[.slice A3 l3.length c3, .bool m3, .slice A4 l4.length c4, .bool m4])] w fun e w' => QR w q e w' := by
  have H1 := hide f1
  have H3 := hide f3
  clear f1 f3
  have HD1 := hide hd1
  have HD3 := hide hd3
  have HO1 := hide ho1
  have HO3 := hide ho3
  have HN := hide hn
  have HM := hide hm
  have HR := hide hr
  clear hd1 hd3 ho1 ho3 hn hm hr
  go_enter Tryz.func45, Tryz.ntmps45
  go_upto_region 1 with fail
  obtain ⟨n0, n1, n2, hsz, hw0⟩ := three_new w (.cells #[.slice A1 l1.length c1, .bool m1, .slice A2 l2.length c2, .bool m2] 52) (.cells #[.slice A3 l3.length c3, .bool m3, .slice A4 l4.length c4, .bool m4] 52) (.cells #[.slice none 0 0, .bool false, .slice none 0 0, .bool false] 52)
  generalize (((w.alloc (.cells #[.slice A1 l1.length c1, .bool m1, .slice A2 l2.length c2, .bool m2] 52)).alloc (.cells #[.slice A3 l3.length c3, .bool m3, .slice A4 l4.length c4, .bool m4] 52)).alloc (.cells #[.slice none 0 0, .bool false, .slice none 0 0, .bool false] 52)) = W0 at *
  have k0_0 : W0.cell? ⟨w.heap.size, 0, none⟩ = some (.slice A1 l1.length c1) := cells_of n0 0
  have k0_1 : W0.cell? ⟨w.heap.size, 1, none⟩ = some (.bool m1) := cells_of n0 1
  have k0_2 : W0.cell? ⟨w.heap.size, 2, none⟩ = some (.slice A2 l2.length c2) := cells_of n0 2
  have k0_3 : W0.cell? ⟨w.heap.size, 3, none⟩ = some (.bool m2) := cells_of n0 3
  have q0 : w.heap.size < W0.heap.size := by omega
  have k1_0 : W0.cell? ⟨w.heap.size + 1, 0, none⟩ = some (.slice A3 l3.length c3) := cells_of n1 0
  have k1_1 : W0.cell? ⟨w.heap.size + 1, 1, none⟩ = some (.bool m3) := cells_of n1 1
  have k1_2 : W0.cell? ⟨w.heap.size + 1, 2, none⟩ = some (.slice A4 l4.length c4) := cells_of n1 2
  have k1_3 : W0.cell? ⟨w.heap.size + 1, 3, none⟩ = some (.bool m4) := cells_of n1 3
  have q1 : w.heap.size + 1 < W0.heap.size := by omega
  have k2_0 : W0.cell? ⟨w.heap.size + 1 + 1, 0, none⟩ = some (.slice none 0 0) := cells_of n2 0
  have k2_1 : W0.cell? ⟨w.heap.size + 1 + 1, 1, none⟩ = some (.bool false) := cells_of n2 1
  have k2_2 : W0.cell? ⟨w.heap.size + 1 + 1, 2, none⟩ = some (.slice none 0 0) := cells_of n2 2
  have k2_3 : W0.cell? ⟨w.heap.size + 1 + 1, 3, none⟩ = some (.bool false) := cells_of n2 3
  have q2 : w.heap.size + 1 + 1 < W0.heap.size := by omega
  have f2_0 := unfrozen_of n2 0
  have f2_1 := unfrozen_of n2 1
  have f2_2 := unfrozen_of n2 2
  have f2_3 := unfrozen_of n2 3
  have NR := Lib.hid n2
  clear hsz n0 n1 n2
  replace H1 := hide ((unhide H1).below hw0)
  replace H3 := hide ((unhide H3).below hw0)
  go_upto_region 1 with fail
  go_cut [5, 6] (fun s5_ s6_ wx => ∃ b5 b6 : Nat, s5_ = .pointer (some ⟨b5, 0, none⟩) ∧ s6_ = .pointer (some ⟨b6, 0, none⟩) ∧ BoxW wx b5 b1 ∧ BoxW wx b6 b3 ∧ Below W0.heap.size W0 wx ∧ W0.heap.size ≤ b5 ∧ W0.heap.size ≤ b6)
  case first =>
    have KEEP := hide (show ∀ X, Below W0.heap.size W0 X → X.cell? ⟨w.heap.size, 0, none⟩ = some (.slice A1 l1.length c1) ∧ X.cell? ⟨w.heap.size, 1, none⟩ = some (.bool m1) ∧ X.cell? ⟨w.heap.size, 2, none⟩ = some (.slice A2 l2.length c2) ∧ X.cell? ⟨w.heap.size, 3, none⟩ = some (.bool m2) ∧ X.cell? ⟨w.heap.size + 1, 0, none⟩ = some (.slice A3 l3.length c3) ∧ X.cell? ⟨w.heap.size + 1, 1, none⟩ = some (.bool m3) ∧ X.cell? ⟨w.heap.size + 1, 2, none⟩ = some (.slice A4 l4.length c4) ∧ X.cell? ⟨w.heap.size + 1, 3, none⟩ = some (.bool m4) from fun X hB => ⟨keep_cell hB q0 k0_0, keep_cell hB q0 k0_1, keep_cell hB q0 k0_2, keep_cell hB q0 k0_3, keep_cell hB q1 k1_0, keep_cell hB q1 k1_1, keep_cell hB q1 k1_2, keep_cell hB q1 k1_3⟩)
    go_region_held3 (fun w' => w'.cell? ⟨w.heap.size, 0, none⟩ = some (.slice A1 l1.length c1) ∧ w'.cell? ⟨w.heap.size, 1, none⟩ = some (.bool m1) ∧ w'.cell? ⟨w.heap.size, 2, none⟩ = some (.slice A2 l2.length c2) ∧ w'.cell? ⟨w.heap.size, 3, none⟩ = some (.bool m2) ∧ w'.cell? ⟨w.heap.size + 1, 0, none⟩ = some (.slice A3 l3.length c3) ∧ w'.cell? ⟨w.heap.size + 1, 1, none⟩ = some (.bool m3) ∧ w'.cell? ⟨w.heap.size + 1, 2, none⟩ = some (.slice A4 l4.length c4) ∧ w'.cell? ⟨w.heap.size + 1, 3, none⟩ = some (.bool m4)) (exact (unhide KEEP) _ (by (repeat (first | with_reducible exact Below.refl _ _ | with_reducible assumption | with_reducible refine Below.drew ?_ | with_reducible refine below_alloc ?_ _ | (with_reducible refine below_set ?_ ?_ _ _; rotate_left; (first | omega | (simp <;> omega))))))) (first | (go_at_call_of 95 (Value.agg #[.slice A1 l1.length c1, .bool m1, .slice A2 l2.length c2, .bool m2]); refine ((unhide HD1) _ (below_step' hw0 (by (repeat (first | with_reducible exact Below.refl _ _ | with_reducible assumption | with_reducible refine Below.drew ?_ | with_reducible refine below_alloc ?_ _))))).mono ?_; rintro e w' ⟨A5, c5, l5, m5, rfl, hf5, hb5⟩; have hbw := below_step (w := W0) (by (repeat (first | with_reducible exact Below.refl _ _ | with_reducible assumption | with_reducible refine Below.drew ?_ | with_reducible refine below_alloc ?_ _))) hb5; have hsw := hbw.size; obtain ⟨hc, hfz⟩ := bcell hbw; (try ((first | have u5a : FrW W0 w' _ := FrW.below (FrW.new (by (repeat (first | with_reducible exact Below.refl _ _ | with_reducible assumption | with_reducible refine Below.drew ?_ | with_reducible refine below_alloc ?_ _))) rfl) hb5 | have u5a : FrW W0 w' _ := FrW.below (FrW.drew (FrW.new (by (repeat (first | with_reducible exact Below.refl _ _ | with_reducible assumption | with_reducible refine Below.drew ?_ | with_reducible refine below_alloc ?_ _))) rfl)) hb5); (try simp only [World.size_alloc] at u5a); (try dsimp only [World.drew] at u5a); (try simp only [World.size_alloc] at u5a); obtain ⟨⟨u5a1, u5a2⟩, ⟨u5a3, u5a4⟩, ⟨u5a5, u5a6⟩, ⟨u5a7, u5a8⟩, u5a9, u5a10⟩ := FrW.facts u5a)); (try ((first | have u5b : FrW W0 w' _ := FrW.below (FrW.alloc (FrW.new (by (repeat (first | with_reducible exact Below.refl _ _ | with_reducible assumption | with_reducible refine Below.drew ?_ | with_reducible refine below_alloc ?_ _))) rfl)) hb5 | have u5b : FrW W0 w' _ := FrW.below (FrW.drew (FrW.alloc (FrW.new (by (repeat (first | with_reducible exact Below.refl _ _ | with_reducible assumption | with_reducible refine Below.drew ?_ | with_reducible refine below_alloc ?_ _))) rfl))) hb5); (try simp only [World.size_alloc] at u5b); (try dsimp only [World.drew] at u5b); (try simp only [World.size_alloc] at u5b); obtain ⟨⟨u5b1, u5b2⟩, ⟨u5b3, u5b4⟩, ⟨u5b5, u5b6⟩, ⟨u5b7, u5b8⟩, u5b9, u5b10⟩ := FrW.facts u5b))) | (go_at_call_of 95 (Value.agg #[.slice A3 l3.length c3, .bool m3, .slice A4 l4.length c4, .bool m4]); refine ((unhide HD3) _ (below_step' hw0 (by (repeat (first | with_reducible exact Below.refl _ _ | with_reducible assumption | with_reducible refine Below.drew ?_ | with_reducible refine below_alloc ?_ _))))).mono ?_; rintro e w' ⟨A6, c6, l6, m6, rfl, hf6, hb6⟩; have hf5 := WholeF.below (WholeF.below hf5 (by (repeat (first | with_reducible exact Below.refl _ _ | with_reducible assumption | with_reducible refine Below.drew ?_ | with_reducible refine below_alloc ?_ _)))) hb6; have hbw := below_step (w := W0) (by (repeat (first | with_reducible exact Below.refl _ _ | with_reducible assumption | with_reducible refine Below.drew ?_ | with_reducible refine below_alloc ?_ _))) hb6; have hsw := hbw.size; obtain ⟨hc, hfz⟩ := bcell hbw; (try ((first | have u6a : FrW W0 w' _ := FrW.below (FrW.new (by (repeat (first | with_reducible exact Below.refl _ _ | with_reducible assumption | with_reducible refine Below.drew ?_ | with_reducible refine below_alloc ?_ _))) rfl) hb6 | have u6a : FrW W0 w' _ := FrW.below (FrW.drew (FrW.new (by (repeat (first | with_reducible exact Below.refl _ _ | with_reducible assumption | with_reducible refine Below.drew ?_ | with_reducible refine below_alloc ?_ _))) rfl)) hb6); (try simp only [World.size_alloc] at u6a); (try dsimp only [World.drew] at u6a); (try simp only [World.size_alloc] at u6a); obtain ⟨⟨u6a1, u6a2⟩, ⟨u6a3, u6a4⟩, ⟨u6a5, u6a6⟩, ⟨u6a7, u6a8⟩, u6a9, u6a10⟩ := FrW.facts u6a)); (try ((first | have u6b : FrW W0 w' _ := FrW.below (FrW.alloc (FrW.new (by (repeat (first | with_reducible exact Below.refl _ _ | with_reducible assumption | with_reducible refine Below.drew ?_ | with_reducible refine below_alloc ?_ _))) rfl)) hb6 | have u6b : FrW W0 w' _ := FrW.below (FrW.drew (FrW.alloc (FrW.new (by (repeat (first | with_reducible exact Below.refl _ _ | with_reducible assumption | with_reducible refine Below.drew ?_ | with_reducible refine below_alloc ?_ _))) rfl))) hb6); (try simp only [World.size_alloc] at u6b); (try dsimp only [World.drew] at u6b); (try simp only [World.size_alloc] at u6b); obtain ⟨⟨u6b1, u6b2⟩, ⟨u6b3, u6b4⟩, ⟨u6b5, u6b6⟩, ⟨u6b7, u6b8⟩, u6b9, u6b10⟩ := FrW.facts u6b)); (try ((first | have u6c : FrW W0 w' _ := FrW.below u5a hb6 | have u6c : FrW W0 w' _ := FrW.below (FrW.alloc u5a) hb6 | have u6c : FrW W0 w' _ := FrW.below (FrW.alloc (FrW.alloc u5a)) hb6); (try simp only [World.size_alloc] at u6c); (try dsimp only [World.drew] at u6c); (try simp only [World.size_alloc] at u6c); obtain ⟨⟨u6c1, u6c2⟩, ⟨u6c3, u6c4⟩, ⟨u6c5, u6c6⟩, ⟨u6c7, u6c8⟩, u6c9, u6c10⟩ := FrW.facts u6c)); (try ((first | have u6d : FrW W0 w' _ := FrW.below u5b hb6 | have u6d : FrW W0 w' _ := FrW.below (FrW.alloc u5b) hb6 | have u6d : FrW W0 w' _ := FrW.below (FrW.alloc (FrW.alloc u5b)) hb6); (try simp only [World.size_alloc] at u6d); (try dsimp only [World.drew] at u6d); (try simp only [World.size_alloc] at u6d); obtain ⟨⟨u6d1, u6d2⟩, ⟨u6d3, u6d4⟩, ⟨u6d5, u6d6⟩, ⟨u6d7, u6d8⟩, u6d9, u6d10⟩ := FrW.facts u6d))))
    all_goals (go_wp2_with fail; go_meet; refine ⟨_, _, rfl, rfl, ?_⟩; first | with_reducible exact wput_two ⟨by assumption, by assumption, by first | assumption | omega⟩ hf5 hf6 hbw | with_reducible exact wput_two (FrW2.newR (by assumption) rfl) hf5.alloc hf6.alloc (below_alloc hbw _) | with_reducible exact wput_two (FrW2.newL (by assumption) rfl) hf5.alloc hf6.alloc (below_alloc hbw _) | with_reducible exact wput_nn hf5 hf6 hbw rfl rfl | with_reducible exact wput_mm hf5 hf6 hbw rfl rfl | with_reducible exact wput_ns (by assumption) hf5 hf6 hbw rfl)
  case rest =>
    revert hcut
    generalize wc = W1
    intro hcut
    obtain ⟨b5, b6, rfl, rfl, B5, B6, hbx, ob5, ob6⟩ := hcut
    obtain ⟨hc, hfz⟩ := bcell hbx
    replace k0_0 := (hc _ _ q0).trans k0_0
    replace k0_1 := (hc _ _ q0).trans k0_1
    replace k0_2 := (hc _ _ q0).trans k0_2
    replace k0_3 := (hc _ _ q0).trans k0_3
    replace q0 := Nat.lt_of_lt_of_le q0 hbx.size
    replace k1_0 := (hc _ _ q1).trans k1_0
    replace k1_1 := (hc _ _ q1).trans k1_1
    replace k1_2 := (hc _ _ q1).trans k1_2
    replace k1_3 := (hc _ _ q1).trans k1_3
    replace q1 := Nat.lt_of_lt_of_le q1 hbx.size
    replace ob5 : w.heap.size + 1 + 1 < b5 := Nat.lt_of_lt_of_le q2 ob5
    replace ob6 : w.heap.size + 1 + 1 < b6 := Nat.lt_of_lt_of_le q2 ob6
    replace k2_0 := (hc _ _ q2).trans k2_0
    replace f2_0 := (hfz _ _ q2).trans f2_0
    replace k2_1 := (hc _ _ q2).trans k2_1
    replace f2_1 := (hfz _ _ q2).trans f2_1
    replace k2_2 := (hc _ _ q2).trans k2_2
    replace f2_2 := (hfz _ _ q2).trans f2_2
    replace k2_3 := (hc _ _ q2).trans k2_3
    replace f2_3 := (hfz _ _ q2).trans f2_3
    replace NR := Lib.hid ((hbx.block _ q2).trans NR.out)
    replace q2 := Nat.lt_of_lt_of_le q2 hbx.size
    replace hw0 := below_step' hw0 hbx
    replace H1 := hide ((unhide H1).below hbx)
    replace H3 := hide ((unhide H3).below hbx)
    obtain ⟨A5, c5, l5, m5, n5, H5⟩ := B5
    have kb5_0 : W1.cell? ⟨b5, 0, none⟩ = some (.slice A5 l5.length c5) := cells_of n5 0
    have kb5_1 : W1.cell? ⟨b5, 1, none⟩ = some (.bool m5) := cells_of n5 1
    have qb5 := lt_of_block n5
    replace H5 := hide H5
    clear n5
    obtain ⟨A6, c6, l6, m6, n6, H6⟩ := B6
    have kb6_0 : W1.cell? ⟨b6, 0, none⟩ = some (.slice A6 l6.length c6) := cells_of n6 0
    have kb6_1 : W1.cell? ⟨b6, 1, none⟩ = some (.bool m6) := cells_of n6 1
    have qb6 := lt_of_block n6
    replace H6 := hide H6
    clear n6
    clear hbx hc hfz
    go_wp2_with fail
    refine ((unhide HO1) A5 c5 l5 m5 _ hw0 (unhide H5)).mono ?_
    rintro e W2 ⟨rfl, hbx⟩
    obtain ⟨hc, hfz⟩ := bcell hbx
    replace k0_0 := (hc _ _ q0).trans k0_0
    replace k0_1 := (hc _ _ q0).trans k0_1
    replace k0_2 := (hc _ _ q0).trans k0_2
    replace k0_3 := (hc _ _ q0).trans k0_3
    replace q0 := Nat.lt_of_lt_of_le q0 hbx.size
    replace k1_0 := (hc _ _ q1).trans k1_0
    replace k1_1 := (hc _ _ q1).trans k1_1
    replace k1_2 := (hc _ _ q1).trans k1_2
    replace k1_3 := (hc _ _ q1).trans k1_3
    replace q1 := Nat.lt_of_lt_of_le q1 hbx.size
    replace kb5_0 := (hc _ _ qb5).trans kb5_0
    replace kb5_1 := (hc _ _ qb5).trans kb5_1
    replace qb5 := Nat.lt_of_lt_of_le qb5 hbx.size
    replace kb6_0 := (hc _ _ qb6).trans kb6_0
    replace kb6_1 := (hc _ _ qb6).trans kb6_1
    replace qb6 := Nat.lt_of_lt_of_le qb6 hbx.size
    replace k2_0 := (hc _ _ q2).trans k2_0
    replace f2_0 := (hfz _ _ q2).trans f2_0
    replace k2_1 := (hc _ _ q2).trans k2_1
    replace f2_1 := (hfz _ _ q2).trans f2_1
    replace k2_2 := (hc _ _ q2).trans k2_2
    replace f2_2 := (hfz _ _ q2).trans f2_2
    replace k2_3 := (hc _ _ q2).trans k2_3
    replace f2_3 := (hfz _ _ q2).trans f2_3
    replace NR := Lib.hid ((hbx.block _ q2).trans NR.out)
    replace q2 := Nat.lt_of_lt_of_le q2 hbx.size
    replace hw0 := below_step' hw0 hbx
    replace H1 := hide ((unhide H1).below hbx)
    replace H3 := hide ((unhide H3).below hbx)
    replace H5 := hide ((unhide H5).below hbx)
    replace H6 := hide ((unhide H6).below hbx)
    clear hbx hc hfz
    go_wp2_with fail
    refine ((unhide HO3) A6 c6 l6 m6 _ hw0 (unhide H6)).mono ?_
    rintro e W3 ⟨rfl, hbx⟩
    obtain ⟨hc, hfz⟩ := bcell hbx
    replace k0_0 := (hc _ _ q0).trans k0_0
    replace k0_1 := (hc _ _ q0).trans k0_1
    replace k0_2 := (hc _ _ q0).trans k0_2
    replace k0_3 := (hc _ _ q0).trans k0_3
    replace q0 := Nat.lt_of_lt_of_le q0 hbx.size
    replace k1_0 := (hc _ _ q1).trans k1_0
    replace k1_1 := (hc _ _ q1).trans k1_1
    replace k1_2 := (hc _ _ q1).trans k1_2
    replace k1_3 := (hc _ _ q1).trans k1_3
    replace q1 := Nat.lt_of_lt_of_le q1 hbx.size
    replace kb5_0 := (hc _ _ qb5).trans kb5_0
    replace kb5_1 := (hc _ _ qb5).trans kb5_1
    replace qb5 := Nat.lt_of_lt_of_le qb5 hbx.size
    replace kb6_0 := (hc _ _ qb6).trans kb6_0
    replace kb6_1 := (hc _ _ qb6).trans kb6_1
    replace qb6 := Nat.lt_of_lt_of_le qb6 hbx.size
    replace k2_0 := (hc _ _ q2).trans k2_0
    replace f2_0 := (hfz _ _ q2).trans f2_0
    replace k2_1 := (hc _ _ q2).trans k2_1
    replace f2_1 := (hfz _ _ q2).trans f2_1
    replace k2_2 := (hc _ _ q2).trans k2_2
    replace f2_2 := (hfz _ _ q2).trans f2_2
    replace k2_3 := (hc _ _ q2).trans k2_3
    replace f2_3 := (hfz _ _ q2).trans f2_3
    replace NR := Lib.hid ((hbx.block _ q2).trans NR.out)
    replace q2 := Nat.lt_of_lt_of_le q2 hbx.size
    replace hw0 := below_step' hw0 hbx
    replace H1 := hide ((unhide H1).below hbx)
    replace H3 := hide ((unhide H3).below hbx)
    replace H5 := hide ((unhide H5).below hbx)
    replace H6 := hide ((unhide H6).below hbx)
    clear hbx hc hfz
    go_upto_region 4 with fail
    have KEEP := hide (show ∀ X, Below W3.heap.size W3 X → X.cell? ⟨w.heap.size, 0, none⟩ = some (.slice A1 l1.length c1) ∧ X.cell? ⟨w.heap.size, 1, none⟩ = some (.bool m1) ∧ X.cell? ⟨w.heap.size, 2, none⟩ = some (.slice A2 l2.length c2) ∧ X.cell? ⟨w.heap.size, 3, none⟩ = some (.bool m2) ∧ X.cell? ⟨w.heap.size + 1, 0, none⟩ = some (.slice A3 l3.length c3) ∧ X.cell? ⟨w.heap.size + 1, 1, none⟩ = some (.bool m3) ∧ X.cell? ⟨w.heap.size + 1, 2, none⟩ = some (.slice A4 l4.length c4) ∧ X.cell? ⟨w.heap.size + 1, 3, none⟩ = some (.bool m4) ∧ X.cell? ⟨b5, 0, none⟩ = some (.slice A5 l5.length c5) ∧ X.cell? ⟨b5, 1, none⟩ = some (.bool m5) ∧ X.cell? ⟨b6, 0, none⟩ = some (.slice A6 l6.length c6) ∧ X.cell? ⟨b6, 1, none⟩ = some (.bool m6) from fun X hB => ⟨keep_cell hB q0 k0_0, keep_cell hB q0 k0_1, keep_cell hB q0 k0_2, keep_cell hB q0 k0_3, keep_cell hB q1 k1_0, keep_cell hB q1 k1_1, keep_cell hB q1 k1_2, keep_cell hB q1 k1_3, keep_cell hB qb5 kb5_0, keep_cell hB qb5 kb5_1, keep_cell hB qb6 kb6_0, keep_cell hB qb6 kb6_1⟩)
    go_region_held3 (fun w' => w'.cell? ⟨w.heap.size, 0, none⟩ = some (.slice A1 l1.length c1) ∧ w'.cell? ⟨w.heap.size, 1, none⟩ = some (.bool m1) ∧ w'.cell? ⟨w.heap.size, 2, none⟩ = some (.slice A2 l2.length c2) ∧ w'.cell? ⟨w.heap.size, 3, none⟩ = some (.bool m2) ∧ w'.cell? ⟨w.heap.size + 1, 0, none⟩ = some (.slice A3 l3.length c3) ∧ w'.cell? ⟨w.heap.size + 1, 1, none⟩ = some (.bool m3) ∧ w'.cell? ⟨w.heap.size + 1, 2, none⟩ = some (.slice A4 l4.length c4) ∧ w'.cell? ⟨w.heap.size + 1, 3, none⟩ = some (.bool m4) ∧ w'.cell? ⟨b5, 0, none⟩ = some (.slice A5 l5.length c5) ∧ w'.cell? ⟨b5, 1, none⟩ = some (.bool m5) ∧ w'.cell? ⟨b6, 0, none⟩ = some (.slice A6 l6.length c6) ∧ w'.cell? ⟨b6, 1, none⟩ = some (.bool m6)) (first | with_reducible exact ⟨(cell_set4 _ _ _ _ _ _ (by omega)).trans (keep_cell hbw q0 k0_0), (cell_set4 _ _ _ _ _ _ (by omega)).trans (keep_cell hbw q0 k0_1), (cell_set4 _ _ _ _ _ _ (by omega)).trans (keep_cell hbw q0 k0_2), (cell_set4 _ _ _ _ _ _ (by omega)).trans (keep_cell hbw q0 k0_3), (cell_set4 _ _ _ _ _ _ (by omega)).trans (keep_cell hbw q1 k1_0), (cell_set4 _ _ _ _ _ _ (by omega)).trans (keep_cell hbw q1 k1_1), (cell_set4 _ _ _ _ _ _ (by omega)).trans (keep_cell hbw q1 k1_2), (cell_set4 _ _ _ _ _ _ (by omega)).trans (keep_cell hbw q1 k1_3), (cell_set4 _ _ _ _ _ _ (by omega)).trans (keep_cell hbw qb5 kb5_0), (cell_set4 _ _ _ _ _ _ (by omega)).trans (keep_cell hbw qb5 kb5_1), (cell_set4 _ _ _ _ _ _ (by omega)).trans (keep_cell hbw qb6 kb6_0), (cell_set4 _ _ _ _ _ _ (by omega)).trans (keep_cell hbw qb6 kb6_1)⟩ | with_reducible exact (unhide KEEP) _ (by (repeat (first | with_reducible exact Below.refl _ _ | with_reducible assumption | with_reducible refine Below.drew ?_ | with_reducible refine below_alloc ?_ _)))) (first | (go_at_call_of 98 (Value.agg #[.slice A1 l1.length c1, .bool m1]); refine ((unhide HN) A1 c1 l1 m1 A3 c3 l3 m3 _ (below_step' hw0 (by (repeat (first | with_reducible exact Below.refl _ _ | with_reducible assumption | with_reducible refine Below.drew ?_ | with_reducible refine below_alloc ?_ _)))) (WholeF.below (unhide H1) (by (repeat (first | with_reducible exact Below.refl _ _ | with_reducible assumption | with_reducible refine Below.drew ?_ | with_reducible refine below_alloc ?_ _)))) (WholeF.below (unhide H3) (by (repeat (first | with_reducible exact Below.refl _ _ | with_reducible assumption | with_reducible refine Below.drew ?_ | with_reducible refine below_alloc ?_ _))))).mono ?_; rintro e w' ⟨A10, c10, l10, m10, rfl, hf10, hb10⟩; have hbw := below_step (w := W3) (by (repeat (first | with_reducible exact Below.refl _ _ | with_reducible assumption | with_reducible refine Below.drew ?_ | with_reducible refine below_alloc ?_ _))) hb10; have hsw := hbw.size; obtain ⟨hc, hfz⟩ := bcell hbw) | (go_at_call_of 98 (Value.agg #[.slice A5 l5.length c5, .bool m5]); refine ((unhide HM) A5 c5 l5 m5 A6 c6 l6 m6 _ (below_step' hw0 (by (repeat (first | with_reducible exact Below.refl _ _ | with_reducible assumption | with_reducible refine Below.drew ?_ | with_reducible refine below_alloc ?_ _)))) (WholeF.below (unhide H5) (by (repeat (first | with_reducible exact Below.refl _ _ | with_reducible assumption | with_reducible refine Below.drew ?_ | with_reducible refine below_alloc ?_ _)))) (WholeF.below (unhide H6) (by (repeat (first | with_reducible exact Below.refl _ _ | with_reducible assumption | with_reducible refine Below.drew ?_ | with_reducible refine below_alloc ?_ _))))).mono ?_; rintro e w' ⟨A11, c11, l11, m11, rfl, hf11, hb11⟩; have hf10 := WholeF.below (WholeF.below hf10 (by (repeat (first | with_reducible exact Below.refl _ _ | with_reducible assumption | with_reducible refine Below.drew ?_ | with_reducible refine below_alloc ?_ _)))) hb11; have hbw := below_step (w := W3) (by (repeat (first | with_reducible exact Below.refl _ _ | with_reducible assumption | with_reducible refine Below.drew ?_ | with_reducible refine below_alloc ?_ _))) hb11; have hsw := hbw.size; obtain ⟨hc, hfz⟩ := bcell hbw) | (go_at_call_of 92 (Value.agg #[.slice A10 l10.length c10, .bool m10]); refine ((unhide HR) A10 c10 l10 m10 A11 c11 l11 m11 _ (below_step' hw0 (by (repeat (first | with_reducible exact Below.refl _ _ | with_reducible assumption | with_reducible refine Below.drew ?_ | with_reducible refine below_alloc ?_ _)))) (WholeF.below hf10 (by (repeat (first | with_reducible exact Below.refl _ _ | with_reducible assumption | with_reducible refine Below.drew ?_ | with_reducible refine below_alloc ?_ _)))) (WholeF.below hf11 (by (repeat (first | with_reducible exact Below.refl _ _ | with_reducible assumption | with_reducible refine Below.drew ?_ | with_reducible refine below_alloc ?_ _))))).mono ?_; rintro e w' ⟨A12, c12, l12, m12, A13, c13, l13, m13, rfl, hf12, hf13, hb12⟩; have hf10 := WholeF.below (WholeF.below hf10 (by (repeat (first | with_reducible exact Below.refl _ _ | with_reducible assumption | with_reducible refine Below.drew ?_ | with_reducible refine below_alloc ?_ _)))) hb12; have hf11 := WholeF.below (WholeF.below hf11 (by (repeat (first | with_reducible exact Below.refl _ _ | with_reducible assumption | with_reducible refine Below.drew ?_ | with_reducible refine below_alloc ?_ _)))) hb12; have hbw := below_step (w := W3) (by (repeat (first | with_reducible exact Below.refl _ _ | with_reducible assumption | with_reducible refine Below.drew ?_ | with_reducible refine below_alloc ?_ _))) hb12; have hsw := hbw.size; obtain ⟨hc, hfz⟩ := bcell hbw))
    all_goals
      have hblk : w'.heap[w.heap.size + 1 + 1]? = some (.cells #[.slice none 0 0, .bool false, .slice none 0 0, .bool false] 52 (0, 0)) := (hbw.block _ q2).trans NR.out
      have HBLK := Lib.hid hblk
      have hb9 : Below w.heap.size w w' := below_step' hw0 hbw
      have hfi := (hf12)
      have hfj := (hf13)
      clear hblk
      go_wp2_with fail
      exact bodyPost_ret (v := (Value.agg #[.slice A12 l12.length c12, .bool m12, .slice A13 l13.length c13, .bool m13])) (by simp [results, Tryz.results45, go_sem, hc, k2_0, k2_1, k2_2, k2_3, q2]) rfl
        ⟨A12, c12, l12, m12, A13, c13, l13, m13, rfl, hfi.upto HBLK.out (noW2_4 _ _ _ _ _ _ _ _) (set4_grown _ _ _ _ _ _), hfj.upto HBLK.out (noW2_4 _ _ _ _ _ _ _ _) (set4_grown _ _ _ _ _ _), hb9.grown (set4_grown _ _ _ _ _ _) hb9.size (fun k hk => by injection hk with hk; omega)⟩

end Go.Proofs.YtpjgoogeokbaaaaGreatDoor
/- The walk through the quotient of numbers of the reference. -/
namespace Go.Proofs.YtpjgoogeokbaaaaGreatDoor
open Go.RowKit

end Go.Proofs.YtpjgoogeokbaaaaGreatDoor
/- The reference's numbers: what their products and quotients are. -/
namespace Go.Proofs.YtpjgoogeokbaaaaGreatDoor
open Go.RowKit

theorem tqmul_any (K : Nat) (A1 : Option Addr) (c1 : Nat) (l1 : List Nat) (m1 : Bool) (A2 : Option Addr) (c2 : Nat) (l2 : List Nat) (m2 : Bool) (A3 : Option Addr) (c3 : Nat) (l3 : List Nat) (m3 : Bool) (A4 : Option Addr) (c4 : Nat) (l4 : List Nat) (m4 : Bool) (x y : Rat) (w : World) (h1 : QV w A1 c1 l1 m1 A2 c2 l2 m2 x) (h2 : QV w A3 c3 l3 m3 A4 c4 l4 m4 y) (sx : Wd.SzQ B32 K x) (sy : Wd.SzQ B32 K y) (hK : 4 * K + 4 ≤ 35184372088832) :
    Calls Tryz.prog 45 #[.agg #[.slice A1 l1.length c1, .bool m1, .slice A2 l2.length c2, .bool m2], .agg #[.slice A3 l3.length c3, .bool m3, .slice A4 l4.length c4, .bool m4]] w fun e w' => QR w (x * y) e w' := by
  have hd1 := fun W (hW : Below w.heap.size w W) => tdenv_any A1 c1 l1 m1 A2 c2 l2 m2 x W (h1.below hW)
  have hd3 := fun W (hW : Below w.heap.size w W) => tdenv_any A3 c3 l3 m3 A4 c4 l4 m4 y W (h2.below hW)
  have hx := x.den_nz; have hy := y.den_nz
  have an := ow_mul (w := w) sx.1 sy.1 (by omega) rfl
  have am := ow_mul (w := w) sx.2 sy.2 (by omega) rfl
  have ar := oq_ratio (w := w) (sx.1.mul sy.1) (sx.2.mul sy.2) (Int.mul_ne_zero (by omega) (by omega)) (by omega) (Wd.mul_q x y)
  by_cases e1 : (x.den : Int) = 1
  · by_cases e2 : (y.den : Int) = 1
    · exact qmul_tt A1 c1 l1 m1 A2 c2 l2 m2 A3 c3 l3 m3 A4 c4 l4 m4 x.num (x.den : Int) y.num (y.den : Int) _ (x * y) w h1.num h2.num hd1 hd3 (o_one (decide_eq_true e1).symm) (o_one (decide_eq_true e2).symm) an (Wd.mul_i e1 e2).1 (Wd.mul_i e1 e2).2
    · exact qmul_tf A1 c1 l1 m1 A2 c2 l2 m2 A3 c3 l3 m3 A4 c4 l4 m4 x.num (x.den : Int) y.num (y.den : Int) _ _ (x * y) w h1.num h2.num hd1 hd3 (o_one (decide_eq_true e1).symm) (o_one (decide_eq_false e2).symm) an am ar
  · exact qmul_f A1 c1 l1 m1 A2 c2 l2 m2 A3 c3 l3 m3 A4 c4 l4 m4 x.num (x.den : Int) y.num (y.den : Int) _ _ (x * y) w h1.num h2.num hd1 hd3 (o_one (decide_eq_false e1).symm) an am ar
end Go.Proofs.YtpjgoogeokbaaaaGreatDoor
/- The reference: signs of numbers. -/
namespace Go.Proofs.YtpjgoogeokbaaaaGreatDoor
open Go.RowKit

end Go.Proofs.YtpjgoogeokbaaaaGreatDoor
/- The reference: integers as numbers. -/
namespace Go.Proofs.YtpjgoogeokbaaaaGreatDoor
open Go.RowKit

set_option maxRecDepth 100000 in
set_option maxHeartbeats 2000000 in
theorem tInt_any (n : Int) (q : Rat) (w : World) (b1 : -9223372036854775808 ≤ n) (b2 : n ≤ 9223372036854775807) (hn : n = q.num) (hd : (1 : Int) = (q.den : Int)) :
    Calls Tryz.prog 72 #[.int .i64 n] w fun e w' => QR w q e w' := by
  have HO1 := hide (fun W => (tofInt_any n W b1 b2).mono (fun e w' h => h.1))
  have HO2 := hide tone_any
  have HN := Lib.hid hn; have HD := Lib.hid hd
  clear b1 b2 hn hd
  go_enter Tryz.func72, Tryz.ntmps72
  go_wp2_with fail
  obtain ⟨n0, hsz, hw0⟩ := one_new w (.cells #[.slice none 0 0, .bool false, .slice none 0 0, .bool false] 52)
  generalize (w.alloc (.cells #[.slice none 0 0, .bool false, .slice none 0 0, .bool false] 52)) = W0 at *
  have p0 : W0.cell? ⟨w.heap.size, 0, none⟩ = some (.slice none 0 0) := cells_of n0 0
  have p1 : W0.cell? ⟨w.heap.size, 1, none⟩ = some (.bool false) := cells_of n0 1
  have p2 : W0.cell? ⟨w.heap.size, 2, none⟩ = some (.slice none 0 0) := cells_of n0 2
  have p3 : W0.cell? ⟨w.heap.size, 3, none⟩ = some (.bool false) := cells_of n0 3
  have v0 := unfrozen_of n0 0; have v1 := unfrozen_of n0 1; have v2 := unfrozen_of n0 2; have v3 := unfrozen_of n0 3
  have q0 := lt_of_block n0
  have NR := Lib.hid n0
  clear n0 hsz
  refine ((unhide HO1) _).mono ?_
  rintro e W1 ⟨A1, c1, l1, m1, rfl, f1, hb1⟩
  have F1 := hide f1; have HB1 := hide hb1
  clear f1 hb1
  go_wp2_with fail
  refine ((unhide HO2) _).mono ?_
  rintro e W2 ⟨A2, c2, l2, m2, rfl, f2, hb2⟩
  have F1' := hide ((unhide F1).below hb2)
  have hb2' := below_step' (unhide HB1) hb2
  obtain ⟨hc, hfz⟩ := bcell hb2'
  have hblk := (hb2'.block _ q0).trans NR.out
  have HBLK := Lib.hid hblk
  have F2 := hide f2; have hb9 := below_step' hw0 hb2'
  have HB9 := hide hb9
  clear f2 hb2 hb2' hblk hb9
  go_wp2_with fail
  exact bodyPost_ret (v := .agg #[.slice A1 l1.length c1, .bool m1, .slice A2 l2.length c2, .bool m2]) (by simp [results, Tryz.results72, go_sem, hc, p0, p1, p2, p3, q0]) rfl
    ⟨A1, c1, l1, m1, A2, c2, l2, m2, rfl, HN.out ▸ (unhide F1').upto HBLK.out (noW2_4 _ _ _ _ _ _ _ _) (set4_grown _ _ _ _ _ _), HD.out ▸ (unhide F2).upto HBLK.out (noW2_4 _ _ _ _ _ _ _ _) (set4_grown _ _ _ _ _ _), (unhide HB9).grown (set4_grown _ _ _ _ _ _) (unhide HB9).size (fun k hk => by injection hk with hk; omega)⟩

end Go.Proofs.YtpjgoogeokbaaaaGreatDoor
/- The reference: the greatest integer below a quotient of whole numbers. -/
namespace Go.Proofs.YtpjgoogeokbaaaaGreatDoor
open Go.RowKit

end Go.Proofs.YtpjgoogeokbaaaaGreatDoor
/- The reference: the integer below and above a number, and one divided by it. -/
namespace Go.Proofs.YtpjgoogeokbaaaaGreatDoor
open Go.RowKit

end Go.Proofs.YtpjgoogeokbaaaaGreatDoor
/- Blocks that hold numbers of the reference; whether one is nought. -/
namespace Go.Proofs.YtpjgoogeokbaaaaGreatDoor
open Go.RowKit

/-- Block b is new beside Wp and has room for a number of the reference. -/
structure FrQ (Wp W : World) (b : Nat) : Prop where
  old : Wp.heap.size ≤ b
  zero : W.heap[b]? = some (.cells #[.slice none 0 0, .bool false, .slice none 0 0, .bool false] 52 (0, 0))
theorem FrQ.lt {Wp W : World} {b : Nat} (h : FrQ Wp W b) : b < W.heap.size := lt_of_block h.zero
theorem FrQ.drew {Wp W : World} {b : Nat} (h : FrQ Wp W b) : FrQ Wp W.drew b := ⟨h.old, h.zero⟩
theorem FrQ.below {Wp W w' : World} {b : Nat} (h : FrQ Wp W b) (hb : Below W.heap.size W w') : FrQ Wp w' b := ⟨h.old, (hb.block _ h.lt).trans h.zero⟩
theorem FrQ.new {Wp W : World} {b : Nat} (hb : Below Wp.heap.size Wp W) (e : b = W.heap.size) : FrQ Wp (W.alloc (.cells #[.slice none 0 0, .bool false, .slice none 0 0, .bool false] 52 (0, 0))) b := by
  subst e; exact ⟨hb.size, heap_alloc_new W _⟩
theorem FrQ.alloc {Wp W : World} {b : Nat} {o : Obj} (h : FrQ Wp W b) : FrQ Wp (W.alloc o) b := ⟨h.old, (Below.heap_alloc W _ b h.lt).trans h.zero⟩
structure FrQ2 (Wp W : World) (b c : Nat) : Prop where
  one : FrQ Wp W b
  two : FrQ Wp W c
  ne : b ≠ c
theorem FrQ2.newR {Wp W : World} {b c : Nat} (h : FrQ Wp W b) (e : c = W.heap.size) : FrQ2 Wp (W.alloc (.cells #[.slice none 0 0, .bool false, .slice none 0 0, .bool false] 52 (0, 0))) b c := by
  have hl := h.lt
  have ho := h.old
  subst e
  exact ⟨h.alloc, ⟨by omega, heap_alloc_new W _⟩, by omega⟩
theorem FrQ2.newL {Wp W : World} {b c : Nat} (h : FrQ Wp W c) (e : b = W.heap.size) : FrQ2 Wp (W.alloc (.cells #[.slice none 0 0, .bool false, .slice none 0 0, .bool false] 52 (0, 0))) b c := by
  have hl := h.lt
  have ho := h.old
  subst e
  exact ⟨⟨by omega, heap_alloc_new W _⟩, h.alloc, by omega⟩
theorem QV.upto {w w' : World} {g : Nat} {A1a : Option Addr} {c1a : Nat} {l1a : List Nat} {m1a : Bool} {A1b : Option Addr} {c1b : Nat} {l1b : List Nat} {m1b : Bool} {x1 : Rat} {T : TypeId} {cs : Array Value} (h : QV w A1a c1a l1a m1a A1b c1b l1b m1b x1) (hg : w.heap[g]? = some (.cells cs T (0, 0))) (hn : NoW2 cs) (hgr : w.grownBy w' (some g)) : QV w' A1a c1a l1a m1a A1b c1b l1b m1b x1 := by
  obtain ⟨d, h2, h3⟩ := h.den
  exact ⟨h.num.upto hg hn hgr, d, h2.upto hg hn hgr, h3⟩
theorem QV.alloc {W : World} {o : Obj} {A1a : Option Addr} {c1a : Nat} {l1a : List Nat} {m1a : Bool} {A1b : Option Addr} {c1b : Nat} {l1b : List Nat} {m1b : Bool} {x1 : Rat} (h1 : QV W A1a c1a l1a m1a A1b c1b l1b m1b x1) : QV (W.alloc o) A1a c1a l1a m1a A1b c1b l1b m1b x1 := h1.below ((Below.refl _ _).alloc (Nat.le_refl _) _)
/-- Block b holds a number. -/
def BoxQ (w : World) (b : Nat) (x : Rat) : Prop := ∃ A c l m A' c' l' m', w.heap[b]? = some (.cells #[.slice A (List.length l) c, .bool m, .slice A' (List.length l') c', .bool m'] 52 (0, 0)) ∧ QV w A c l m A' c' l' m' x
theorem BoxQ.below {w w' : World} {b : Nat} {x : Rat} (h : BoxQ w b x) (hb : Below w.heap.size w w') : BoxQ w' b x := by
  obtain ⟨A, c, l, m, A', c', l', m', h1, h2⟩ := h
  exact ⟨A, c, l, m, A', c', l', m', (hb.block _ (lt_of_block h1)).trans h1, h2.below hb⟩
theorem BoxQ.new {W : World} {b : Nat} {A1a : Option Addr} {c1a : Nat} {l1a : List Nat} {m1a : Bool} {A1b : Option Addr} {c1b : Nat} {l1b : List Nat} {m1b : Bool} {x1 : Rat} (h1 : QV W A1a c1a l1a m1a A1b c1b l1b m1b x1) (e : b = W.heap.size) : BoxQ (W.alloc (.cells #[.slice A1a l1a.length c1a, .bool m1a, .slice A1b l1b.length c1b, .bool m1b] 52)) b x1 := by
  subst e; exact ⟨_, _, _, _, _, _, _, _, heap_alloc_new W _, h1.alloc⟩
theorem BoxQ.alloc {W : World} {b : Nat} {x : Rat} {o : Obj} (h : BoxQ W b x) : BoxQ (W.alloc o) b x := h.below ((Below.refl _ _).alloc (Nat.le_refl _) _)
theorem FrQ.facts {Wp W : World} {b : Nat} (h : FrQ Wp W b) : (W.cell? ⟨b, 0, none⟩ = some (.slice none 0 0) ∧ W.cell? ⟨b, 1, none⟩ = some (.bool false) ∧ W.cell? ⟨b, 2, none⟩ = some (.slice none 0 0) ∧ W.cell? ⟨b, 3, none⟩ = some (.bool false)) ∧
    (W.frozen? ⟨b, 0, none⟩ = false ∧ W.frozen? ⟨b, 1, none⟩ = false ∧ W.frozen? ⟨b, 2, none⟩ = false ∧ W.frozen? ⟨b, 3, none⟩ = false) ∧
    ((∀ o, (W.alloc o).cell? ⟨b, 0, none⟩ = some (.slice none 0 0)) ∧ (∀ o, (W.alloc o).cell? ⟨b, 1, none⟩ = some (.bool false)) ∧ (∀ o, (W.alloc o).cell? ⟨b, 2, none⟩ = some (.slice none 0 0)) ∧ (∀ o, (W.alloc o).cell? ⟨b, 3, none⟩ = some (.bool false))) ∧
    ((∀ o, (W.alloc o).frozen? ⟨b, 0, none⟩ = false) ∧ (∀ o, (W.alloc o).frozen? ⟨b, 1, none⟩ = false) ∧ (∀ o, (W.alloc o).frozen? ⟨b, 2, none⟩ = false) ∧ (∀ o, (W.alloc o).frozen? ⟨b, 3, none⟩ = false)) ∧
    ¬ (b = W.heap.size) ∧ ¬ (W.heap.size = b) :=
  ⟨⟨cells_of h.zero 0, cells_of h.zero 1, cells_of h.zero 2, cells_of h.zero 3⟩, ⟨unfrozen_of h.zero 0, unfrozen_of h.zero 1, unfrozen_of h.zero 2, unfrozen_of h.zero 3⟩,
   ⟨fun o => cells_of (h.alloc (o := o)).zero 0, fun o => cells_of (h.alloc (o := o)).zero 1, fun o => cells_of (h.alloc (o := o)).zero 2, fun o => cells_of (h.alloc (o := o)).zero 3⟩,
   ⟨fun o => unfrozen_of (h.alloc (o := o)).zero 0, fun o => unfrozen_of (h.alloc (o := o)).zero 1, fun o => unfrozen_of (h.alloc (o := o)).zero 2, fun o => unfrozen_of (h.alloc (o := o)).zero 3⟩, by have := h.lt; omega, by have := h.lt; omega⟩
theorem set4_block {W : World} {b : Nat} {a0 a1 a2 a3 u0 u1 u2 u3 : Value} {T : TypeId} (h : W.heap[b]? = some (.cells #[a0, a1, a2, a3] T (0, 0))) : ((((W.setCell ⟨b, 0, none⟩ u0).setCell ⟨b, 1, none⟩ u1).setCell ⟨b, 2, none⟩ u2).setCell ⟨b, 3, none⟩ u3).heap[b]? = some (.cells #[u0, u1, u2, u3] T (0, 0)) := by
  simp [World.setCell, Array.getElem?_modify, h]
end Go.Proofs.YtpjgoogeokbaaaaGreatDoor
/- The reference: numbers as they are told, nought without a denominator among them. -/
namespace Go.Proofs.YtpjgoogeokbaaaaGreatDoor
open Go.RowKit

set_option maxRecDepth 100000 in
set_option maxHeartbeats 2000000 in
theorem tRatv_any (A1 : Option Addr) (c1 : Nat) (l1 : List Nat) (m1 : Bool) (A2 : Option Addr) (c2 : Nat) (l2 : List Nat) (m2 : Bool) (q : Rat) (w : World) (h : QV w A1 c1 l1 m1 A2 c2 l2 m2 q) :
    Calls Tryz.prog 94 #[.agg #[.slice A1 l1.length c1, .bool m1, .slice A2 l2.length c2, .bool m2]] w fun e w' => RatP w q e w' := by
  have HS1 := hide (fun W (hW : Below w.heap.size w W) => tsmall_any A1 c1 l1 m1 q.num W (h.num.below hW))
  have HS2 := hide (fun A c l m W (f : WholeF W A c l m (q.den : Int)) => tsmall_any A c l m (q.den : Int) W f)
  have HD := hide (fun W (hW : Below w.heap.size w W) => tdenv_any A1 c1 l1 m1 A2 c2 l2 m2 q W (h.below hW))
  have ht : (Wd.fits q → Wd.told q = ⟨q.num, q.den, 0⟩) ∧ (¬ Wd.fits q → Wd.told q = ⟨0, 0, 3⟩) := ⟨fun h => if_pos h, fun h => if_neg h⟩
  have hfi : Wd.fits q ↔ q.num.natAbs ≤ 1000000000000 ∧ q.den ≤ 1000000000000 := Iff.rfl
  have HT := hide (And.intro ht hfi)
  clear h ht hfi
  go_enter Tryz.func94, Tryz.ntmps94
  go_wp2_with fail
  obtain ⟨n0, n1, hsz, hw0⟩ := two_new w (.cells #[.slice A1 l1.length c1, .bool m1, .slice A2 l2.length c2, .bool m2] 52) (.cells #[.int .i64 0, .int .i64 0] 23)
  generalize ((w.alloc (.cells #[.slice A1 l1.length c1, .bool m1, .slice A2 l2.length c2, .bool m2] 52)).alloc (.cells #[.int .i64 0, .int .i64 0] 23)) = W0 at *
  have k0 : W0.cell? ⟨w.heap.size, 0, none⟩ = some (.slice A1 l1.length c1) := cells_of n0 0
  have k1 : W0.cell? ⟨w.heap.size, 1, none⟩ = some (.bool m1) := cells_of n0 1
  have k2 : W0.cell? ⟨w.heap.size, 2, none⟩ = some (.slice A2 l2.length c2) := cells_of n0 2
  have k3 : W0.cell? ⟨w.heap.size, 3, none⟩ = some (.bool m2) := cells_of n0 3
  have p0 : W0.cell? ⟨w.heap.size + 1, 0, none⟩ = some (.int .i64 0) := cells_of n1 0
  have p1 : W0.cell? ⟨w.heap.size + 1, 1, none⟩ = some (.int .i64 0) := cells_of n1 1
  have v0 := unfrozen_of n1 0; have v1 := unfrozen_of n1 1
  have q0 := lt_of_block n0; have q1 := lt_of_block n1
  clear n0 n1 hsz
  refine ((unhide HS1) _ hw0).mono ?_
  rintro e W1 ⟨x1, ok1, rfl, hok1, hx1, hb1⟩
  obtain ⟨hc1, hf1⟩ := bcell hb1
  have hw1 := below_step' hw0 hb1
  have OK1 := Lib.hid hok1; have X1 := hide hx1; have HB1 := hide hb1; have HW1 := hide hw1
  clear hok1 hx1 hb1 hw1
  go_wp2_with fail
  refine ((unhide HD) _ (unhide HW1)).mono ?_
  rintro e W2 ⟨A9, c9, l9, m9, rfl, f9, hb2⟩
  have F9 := hide f9
  clear f9
  have hb2' := below_step' (unhide HB1) hb2
  obtain ⟨hc2, hf2⟩ := bcell hb2'
  have hw2 := below_step' hw0 hb2'
  have HB2 := hide hb2'; have HW2 := hide hw2
  clear hb2 hb2' hw2 hc1 hf1
  go_wp2_with fail
  refine ((unhide HS2) A9 c9 l9 m9 _ (unhide F9)).mono ?_
  rintro e W3 ⟨x2, ok2, rfl, hok2, hx2, hb3⟩
  have hb3' := below_step' (unhide HB2) hb3
  obtain ⟨hc3, hf3⟩ := bcell hb3'
  have hw3 := below_step' hw0 hb3'
  have OK2 := Lib.hid hok2; have X2 := hide hx2; have HW3 := hide hw3
  have hg9 : ∀ u0 u1 : Value, Below w.heap.size w ((W3.setCell ⟨w.heap.size + 1, 0, none⟩ u0).setCell ⟨w.heap.size + 1, 1, none⟩ u1) := fun u0 u1 => hw3.grown (set2_grown _ _ _ _) hw3.size (fun k hk => by injection hk with hk; omega)
  have HG9 := hide hg9
  clear hok2 hx2 hb3 hb3' hw3 hc2 hf2 hg9 HS1 HS2 HD HB1 HB2 HW1 HW2
  cases ok1 <;> cases ok2
  · have hn : ¬ Wd.fits q := fun h => by have := (unhide HT).2.1 h; have h2 := of_decide_eq_false OK1.out.symm; omega
    have HN := Lib.hid ((unhide HT).1.2 hn)
    clear hn
    go_wp2_with fail
    exact bodyPost_ret (v := .tuple #[.agg #[.int .i64 0, .int .i64 0], .bool false]) (by simp [results, Tryz.results94, go_sem, hc3, p0, p1, q1]) rfl ⟨0, 0, false, rfl, (unhide HG9) _ _, .inr ⟨rfl, HN.out⟩⟩
  · have hn : ¬ Wd.fits q := fun h => by have := (unhide HT).2.1 h; have h2 := of_decide_eq_false OK1.out.symm; omega
    have HN := Lib.hid ((unhide HT).1.2 hn)
    clear hn
    go_wp2_with fail
    exact bodyPost_ret (v := .tuple #[.agg #[.int .i64 0, .int .i64 0], .bool false]) (by simp [results, Tryz.results94, go_sem, hc3, p0, p1, q1]) rfl ⟨0, 0, false, rfl, (unhide HG9) _ _, .inr ⟨rfl, HN.out⟩⟩
  · have hn : ¬ Wd.fits q := fun h => by have := (unhide HT).2.1 h; have h2 := of_decide_eq_false OK2.out.symm; omega
    have HN := Lib.hid ((unhide HT).1.2 hn)
    clear hn
    go_wp2_with fail
    exact bodyPost_ret (v := .tuple #[.agg #[.int .i64 0, .int .i64 0], .bool false]) (by simp [results, Tryz.results94, go_sem, hc3, p0, p1, q1]) rfl ⟨0, 0, false, rfl, (unhide HG9) _ _, .inr ⟨rfl, HN.out⟩⟩
  · have e1 := (unhide X1) rfl
    have e2 := (unhide X2) rfl
    subst e1 e2
    by_cases hfit : Wd.fits q
    · have HN := Lib.hid ((unhide HT).1.1 hfit)
      obtain ⟨a1, a2⟩ := (unhide HT).2.1 hfit
      have d1 : decide (q.num < -1000000000000) = false := decide_eq_false (by omega)
      have d2 : decide (1000000000000 < q.num) = false := decide_eq_false (by omega)
      have d3 : decide ((1000000000000 : Int) < (q.den : Int)) = false := decide_eq_false (by omega)
      clear hfit
      go_wp2_with fail
      all_goals first | omega | skip
      exact bodyPost_ret (v := .tuple #[.agg #[.int .i64 q.num, .int .i64 q.den], .bool true]) (by simp [results, Tryz.results94, go_sem, hc3, p0, p1, q1]) rfl ⟨q.num, q.den, true, rfl, (unhide HG9) _ _, .inl ⟨rfl, HN.out⟩⟩
    · have HN := Lib.hid ((unhide HT).1.2 hfit)
      have hor : q.num < -1000000000000 ∨ 1000000000000 < q.num ∨ (1000000000000 : Int) < (q.den : Int) := by
        have h1 := (unhide HT).2.2
        by_cases a : q.num < -1000000000000
        · exact .inl a
        by_cases b : 1000000000000 < q.num
        · exact .inr (.inl b)
        by_cases c : (1000000000000 : Int) < (q.den : Int)
        · exact .inr (.inr c)
        exact absurd (h1 ⟨by omega, by omega⟩) hfit
      clear hfit
      go_wp2_with fail
      all_goals first | omega | skip
      all_goals exact bodyPost_ret (v := .tuple #[.agg #[.int .i64 0, .int .i64 0], .bool false]) (by simp [results, Tryz.results94, go_sem, hc3, p0, p1, q1]) rfl ⟨0, 0, false, rfl, (unhide HG9) _ _, .inr ⟨rfl, HN.out⟩⟩
end Go.Proofs.YtpjgoogeokbaaaaGreatDoor
/- The reference: what is told, of nought without a denominator, too. -/
namespace Go.Proofs.YtpjgoogeokbaaaaGreatDoor
open Go.RowKit

set_option maxRecDepth 100000 in
set_option maxHeartbeats 2000000 in
theorem ttoldv_any (A1 : Option Addr) (c1 : Nat) (l1 : List Nat) (m1 : Bool) (A2 : Option Addr) (c2 : Nat) (l2 : List Nat) (m2 : Bool) (q : Rat) (w : World) (h : QV w A1 c1 l1 m1 A2 c2 l2 m2 q) :
    Calls Tryz.prog 42 #[.agg #[.slice A1 l1.length c1, .bool m1, .slice A2 l2.length c2, .bool m2]] w fun e w' => TolR w (Wd.told q) e w' := by
  have HR := hide (fun W (hW : Below w.heap.size w W) => tRatv_any A1 c1 l1 m1 A2 c2 l2 m2 q W (h.below hW))
  clear h
  go_enter Tryz.func42, Tryz.ntmps42
  go_wp2_with fail
  obtain ⟨n0, n1, hsz, hw0⟩ := two_new w (.cells #[.slice A1 l1.length c1, .bool m1, .slice A2 l2.length c2, .bool m2] 52) (.cells #[.int .i64 0, .int .i64 0] 23)
  generalize ((w.alloc (.cells #[.slice A1 l1.length c1, .bool m1, .slice A2 l2.length c2, .bool m2] 52)).alloc (.cells #[.int .i64 0, .int .i64 0] 23)) = W0 at *
  have p0 : W0.cell? ⟨w.heap.size + 1, 0, none⟩ = some (.int .i64 0) := cells_of n1 0
  have p1 : W0.cell? ⟨w.heap.size + 1, 1, none⟩ = some (.int .i64 0) := cells_of n1 1
  have v0 := unfrozen_of n1 0; have v1 := unfrozen_of n1 1
  have q1 := lt_of_block n1
  clear n0 n1 hsz
  refine ((unhide HR) _ hw0).mono ?_
  rintro e W1 ⟨n, d, ok, rfl, hb, hor⟩
  rcases hor with ⟨rfl, ht⟩ | ⟨rfl, ht⟩
  · have HT9 := Lib.hid ht
    clear ht
    have hbA := hb.alloc hb.size (.cells #[.int .i64 n, .int .i64 d] 23)
    obtain ⟨hc, hf⟩ := bcell hbA
    obtain ⟨hc', hf'⟩ := bcell hb
    have hwA := below_step' hw0 hbA
    have HWA := hide hwA
    clear hbA hb hwA
    go_wp2_with fail
    exact bodyPost_ret (v := .tuple #[.agg #[.int .i64 n, .int .i64 d], .int .i64 0]) (by simp [results, Tryz.results42, go_sem, hc, hc', p0, p1, q1]) rfl
      ⟨by rw [HT9.out], (unhide HWA).grown (set2_grown _ _ _ _) (unhide HWA).size (fun k hk => by injection hk with hk; omega)⟩
  · have HT9 := Lib.hid ht
    clear ht
    have hbA := hb.alloc hb.size (.cells #[.int .i64 n, .int .i64 d] 23)
    obtain ⟨hc, hf⟩ := bcell hbA
    obtain ⟨hc', hf'⟩ := bcell hb
    have hwA := below_step' hw0 hbA
    have HWA := hide hwA
    clear hbA hb hwA
    go_wp2_with fail
    exact bodyPost_ret (v := .tuple #[.agg #[.int .i64 0, .int .i64 0], .int .i64 3]) (by simp [results, Tryz.results42, go_sem, hc, hc', p0, p1, q1]) rfl
      ⟨by rw [HT9.out], (unhide HWA).grown (set2_grown _ _ _ _) (unhide HWA).size (fun k hk => by injection hk with hk; omega)⟩
end Go.Proofs.YtpjgoogeokbaaaaGreatDoor
/- The reference: the number of a continued fraction. -/
namespace Go.Proofs.YtpjgoogeokbaaaaGreatDoor
open Go.RowKit

theorem boxq_below {w w' : World} {b : Nat} {q : Rat} (h : BoxQ w b q) (hb : Below w.heap.size w w') : BoxQ w' b q := BoxQ.below h hb
theorem boxq_st {w W : World} {B b : Nat} {q : Rat} {A2a : Option Addr} {c2a : Nat} {l2a : List Nat} {m2a : Bool} {A2b : Option Addr} {c2b : Nat} {l2b : List Nat} {m2b : Bool} {x2 : Rat} (hq : BoxQ W b q) (hv : QV W A2a c2a l2a m2a A2b c2b l2b m2b x2) (hb : Below B w W) (hB : B ≤ b) (hBW : B ≤ W.heap.size) : BoxQ ((((W.setCell ⟨b, 0, none⟩ (.slice A2a l2a.length c2a)).setCell ⟨b, 1, none⟩ (.bool m2a)).setCell ⟨b, 2, none⟩ (.slice A2b l2b.length c2b)).setCell ⟨b, 3, none⟩ (.bool m2b)) b x2 ∧ Below B w ((((W.setCell ⟨b, 0, none⟩ (.slice A2a l2a.length c2a)).setCell ⟨b, 1, none⟩ (.bool m2a)).setCell ⟨b, 2, none⟩ (.slice A2b l2b.length c2b)).setCell ⟨b, 3, none⟩ (.bool m2b)) := by
  obtain ⟨A, c, l, m, A', c', l', m', h1, h2⟩ := hq
  have hg := set4_grown W b (.slice A2a l2a.length c2a) (.bool m2a) (.slice A2b l2b.length c2b) (.bool m2b)
  exact ⟨⟨_, _, _, _, _, _, _, _, set4_block h1, hv.upto h1 (noW2_4 _ _ _ _ _ _ _ _) hg⟩, hb.grown hg hBW (fun k hk => by injection hk with hk; omega)⟩
end Go.Proofs.YtpjgoogeokbaaaaGreatDoor
/- Digits and numerals of texts: what the program tells of them. -/
namespace Go.Proofs.YtpjgoogeokbaaaaGreatDoor
open Go.RowKit

namespace Wd
end Wd
end Go.Proofs.YtpjgoogeokbaaaaGreatDoor
/- Whole numbers of the program: the number of digits. -/
namespace Go.Proofs.YtpjgoogeokbaaaaGreatDoor
open Go.RowKit

namespace Wd
end Wd
end Go.Proofs.YtpjgoogeokbaaaaGreatDoor
/- Integers as numbers of the reference. -/
namespace Go.Proofs.YtpjgoogeokbaaaaGreatDoor
open Go.RowKit

theorem qv_zero (W : World) : QV W none 0 [] false none 0 [] false (Rat.divInt (0) 1) := by
  have h0 : WholeF W none 0 [] false 0 := ⟨NatT.nil_ W 0 (by omega), rfl⟩
  obtain ⟨o1, o2⟩ := Wd.one_parts 0
  exact ⟨by rw [o1]; exact h0, 0, h0, .inr ⟨rfl, by omega⟩⟩
theorem tint_any (n : Int) (W : World) (b1 : -9223372036854775808 ≤ n) (b2 : n ≤ 9223372036854775807) :
    Calls Tryz.prog 72 #[.int .i64 n] W fun e w' => QR W (Rat.divInt (n) 1) e w' :=
  tInt_any n _ W b1 b2 (Wd.one_parts n).1.symm (Wd.one_parts n).2.symm
end Go.Proofs.YtpjgoogeokbaaaaGreatDoor
/- The reference: the sum of a list. -/
namespace Go.Proofs.YtpjgoogeokbaaaaGreatDoor
open Go.RowKit

/-- What is told of a list: its sum, its product. -/
noncomputable def tsumT (l : List (Int × Int)) : Wd.Told := if 64 < l.length then ⟨0, 0, 3⟩ else if Oks l then Wd.told (Wd.sumTo (qAt l) l.length) else ⟨0, 0, 1⟩
noncomputable def tprodT (l : List (Int × Int)) : Wd.Told := if 64 < l.length then ⟨0, 0, 3⟩ else if Oks l then Wd.told (Wd.prodTo (qAt l) l.length) else ⟨0, 0, 1⟩
set_option maxRecDepth 100000 in
set_option maxHeartbeats 16000000 in
theorem tsum_long (A : Option Addr) (cap : Nat) (l : List (Int × Int)) (w : World) (hcp : l.length ≤ cap) (hm : cap ≤ 9223372036854775807) (hl : 64 < l.length) :
    Calls Tryz.prog 23 #[.slice A l.length cap] w fun e w' => TolR w ⟨0, 0, 3⟩ e w' := by
  have d1 : decide ((64 : Int) < (l.length : Int)) = true := decide_eq_true (by omega)
  have d2 : decide (64 < l.length) = true := decide_eq_true (by omega)
  go_enter Tryz.func23, Tryz.ntmps23
  go_upto_region 1 with fail
  obtain ⟨n0, hsz, hw0⟩ := one_new w (.cells #[.int .i64 0, .int .i64 0] 23)
  generalize w.alloc (.cells #[.int .i64 0, .int .i64 0] 23) = W0 at *
  have r0 : W0.cell? ⟨w.heap.size, 0, none⟩ = some (.int .i64 0) := cells_of n0 0
  have r1 : W0.cell? ⟨w.heap.size, 1, none⟩ = some (.int .i64 0) := cells_of n0 1
  have f0 := unfrozen_of n0 0; have f1 := unfrozen_of n0 1
  have q0 := lt_of_block n0
  clear n0 hsz
  go_wp2_with fail
  exact bodyPost_ret (v := .tuple #[.agg #[.int .i64 0, .int .i64 0], .int .i64 3]) (by simp [results, Tryz.results23, go_sem, r0, r1, q0]) rfl
    ⟨rfl, hw0.grown (set2_grown _ _ _ _) hw0.size (fun k hk => by injection hk with hk; omega)⟩
set_option maxRecDepth 100000 in
set_option maxHeartbeats 16000000 in
theorem tsum_bad (A : Option Addr) (cap : Nat) (l : List (Int × Int)) (w : World) (h : Rs w w.heap.size A l) (hcp : l.length ≤ cap) (hm : cap ≤ 9223372036854775807) (hl : ¬ 64 < l.length) (hj : ¬ Oks l) :
    Calls Tryz.prog 23 #[.slice A l.length cap] w fun e w' => TolR w ⟨0, 0, 1⟩ e w' := by
  have d1 : decide ((64 : Int) < (l.length : Int)) = false := decide_eq_false (by omega)
  have d2 : decide (64 < l.length) = false := decide_eq_false (by omega)
  have HA := hide (fun W (hW : Below w.heap.size w W) => tAlls_any A cap l W ((h.below hW).up hW.size) hcp hm)
  rw [if_neg hj] at HA
  clear hj h
  go_enter Tryz.func23, Tryz.ntmps23
  go_upto_region 1 with fail
  obtain ⟨n0, hsz, hw0⟩ := one_new w (.cells #[.int .i64 0, .int .i64 0] 23)
  generalize w.alloc (.cells #[.int .i64 0, .int .i64 0] 23) = W0 at *
  have r0 : W0.cell? ⟨w.heap.size, 0, none⟩ = some (.int .i64 0) := cells_of n0 0
  have r1 : W0.cell? ⟨w.heap.size, 1, none⟩ = some (.int .i64 0) := cells_of n0 1
  have f0 := unfrozen_of n0 0; have f1 := unfrozen_of n0 1
  have q0 := lt_of_block n0
  clear n0 hsz
  go_wp2_with fail
  refine ((unhide HA) _ hw0).mono ?_
  rintro e W1 ⟨rfl, hb⟩
  obtain ⟨hc, hfz⟩ := bcell hb
  replace r0 := (hc _ _ q0).trans r0
  replace r1 := (hc _ _ q0).trans r1
  replace f0 := (hfz _ _ q0).trans f0
  replace f1 := (hfz _ _ q0).trans f1
  replace q0 := Nat.lt_of_lt_of_le q0 hb.size
  replace hw0 := below_step' hw0 hb
  clear hc hfz
  clear hb
  go_wp2_with fail
  exact bodyPost_ret (v := .tuple #[.agg #[.int .i64 0, .int .i64 0], .int .i64 1]) (by simp [results, Tryz.results23, go_sem, r0, r1, q0]) rfl
    ⟨rfl, hw0.grown (set2_grown _ _ _ _) hw0.size (fun k hk => by injection hk with hk; omega)⟩
set_option maxRecDepth 100000 in
set_option maxHeartbeats 16000000 in
theorem tsum_ok (A : Option Addr) (cap : Nat) (l : List (Int × Int)) (w : World) (h : Rs w w.heap.size A l) (hcp : l.length ≤ cap) (hm : cap ≤ 9223372036854775807) (hl : ¬ 64 < l.length) (hj : Oks l) :
    Calls Tryz.prog 23 #[.slice A l.length cap] w fun e w' => TolR w (Wd.told (Wd.sumTo (qAt l) l.length)) e w' := by
  have d1 : decide ((64 : Int) < (l.length : Int)) = false := decide_eq_false (by omega)
  have d2 : decide (64 < l.length) = false := decide_eq_false (by omega)
  have HA := hide (fun W (hW : Below w.heap.size w W) => tAlls_any A cap l W ((h.below hW).up hW.size) hcp hm)
  rw [if_pos hj] at HA
  have HJ := hide hj; have HRS := hide h
  obtain ⟨m, hmm⟩ : ∃ m, m = l.length := ⟨_, rfl⟩
  have HM := Lib.hid hmm
  rw [← hmm] at hl hcp d1 d2 HA ⊢
  have HSZ : Hid (∀ i, i ≤ m → Wd.SzQ B32 200 (Wd.sumTo (qAt l) i)) := fun i hi => (Wd.szq_sum B32_pos i (fun k hk => okR_szq (hj k (by omega)))).mono'' B32_pos (by omega)
  have HO := hide (fun W => tint_any 1 W (by omega) (by omega))
  clear hj h hmm
  go_enter Tryz.func23, Tryz.ntmps23
  go_upto_region 1 with fail
  obtain ⟨n0, hsz, hw0⟩ := one_new w (.cells #[.int .i64 0, .int .i64 0] 23)
  generalize w.alloc (.cells #[.int .i64 0, .int .i64 0] 23) = W0 at *
  have r0 : W0.cell? ⟨w.heap.size, 0, none⟩ = some (.int .i64 0) := cells_of n0 0
  have r1 : W0.cell? ⟨w.heap.size, 1, none⟩ = some (.int .i64 0) := cells_of n0 1
  have f0 := unfrozen_of n0 0; have f1 := unfrozen_of n0 1
  have q0 := lt_of_block n0
  clear n0 hsz
  go_wp2_with fail
  refine ((unhide HA) _ hw0).mono ?_
  rintro e W1 ⟨rfl, hb⟩
  obtain ⟨hc, hfz⟩ := bcell hb
  replace r0 := (hc _ _ q0).trans r0
  replace r1 := (hc _ _ q0).trans r1
  replace f0 := (hfz _ _ q0).trans f0
  replace f1 := (hfz _ _ q0).trans f1
  replace q0 := Nat.lt_of_lt_of_le q0 hb.size
  replace hw0 := below_step' hw0 hb
  clear hc hfz
  clear hb
  go_upto_region 7 with fail
  have hbx := BoxQ.new (qv_zero W1) rfl
  have hb := below_alloc (Below.refl W1.heap.size W1) (.cells #[.slice none 0 0, .bool false, .slice none 0 0, .bool false] 52)
  obtain ⟨bx, hbxe⟩ : ∃ b, b = W1.heap.size := ⟨_, rfl⟩
  rw [← hbxe] at hbx ⊢
  have hbB : w.heap.size < bx := by rw [hbxe]; exact q0
  have hqx : bx < (W1.alloc (.cells #[.slice none 0 0, .bool false, .slice none 0 0, .bool false] 52)).heap.size := by rw [hbxe]; simp
  generalize W1.alloc (.cells #[.slice none 0 0, .bool false, .slice none 0 0, .bool false] 52) = W3 at *
  obtain ⟨hc, hfz⟩ := bcell hb
  replace r0 := (hc _ _ q0).trans r0
  replace r1 := (hc _ _ q0).trans r1
  replace f0 := (hfz _ _ q0).trans f0
  replace f1 := (hfz _ _ q0).trans f1
  replace q0 := Nat.lt_of_lt_of_le q0 hb.size
  replace hw0 := below_step' hw0 hb
  clear hc hfz
  clear hb hbxe
  have HW0 := hide hw0; have HRES := hide (And.intro (And.intro r0 r1) (And.intro (And.intro f0 f1) q0))
  have hbs := (unhide HW0).size
  clear r0 r1 f0 f1 q0 hw0 HA
  go_wp2_with fail
  go_loopw [6] (fun iv wr => ∃ i : Nat, i ≤ m ∧ iv = .int .i64 ((i : Nat) : Int) ∧ BoxQ wr bx (Wd.sumTo (qAt l) i) ∧ Hid (Below (w.heap.size + 1) W3 wr)) (fun iv _ => m - (intOf iv).toNat)
  case atStart => exact ⟨0, Nat.zero_le _, by first | rfl | go_num, hbx, hide (Below.refl _ _)⟩
  case round =>
    obtain ⟨i, hi, rfl, hbq, hgr⟩ := hrel
    have hwr : Below w.heap.size w wr := (unhide HW0).trans ((unhide hgr).mono (by omega))
    have hq0 := (unhide HRES).2.2
    have hgs := (unhide hgr).size
    by_cases hlt : i < m
    · have hil : i < l.length := by rw [← HM.out]; exact hlt
      obtain ⟨b, off, rfl, hbb, hcell⟩ := (unhide HRS) (by omega)
      have k0 := (hwr.cell (p := ⟨b, off + i * 2, none⟩) hbb).trans (hcell i hil).1
      have k1 := (hwr.cell (p := ⟨b, off + i * 2 + 1, none⟩) hbb).trans (hcell i hil).2
      have oki := (unhide HJ) i hil
      have zs1 := (unhide HSZ) i (by omega)
      have zs2 : Wd.SzQ B32 200 (qAt l i) := (okR_szq oki).mono'' B32_pos (by omega)
      have hnext : Wd.sumTo (qAt l) (i + 1) = Wd.sumTo (qAt l) i + qAt l i := rfl
      have HNX := Lib.hid hnext
      have HOFi := hide (fun W => of_ok oki W)
      have hqa : qAt l i = Wd.qR (rn l i) (rd l i) := rfl
      rw [← hqa] at HOFi
      obtain ⟨nn, hnn⟩ : ∃ z, z = rn l i := ⟨_, rfl⟩
      obtain ⟨dd, hdd⟩ : ∃ z, z = rd l i := ⟨_, rfl⟩
      rw [← hnn] at k0 HOFi
      rw [← hdd] at k1 HOFi
      obtain ⟨x, hx⟩ : ∃ x, x = Wd.sumTo (qAt l) i := ⟨_, rfl⟩
      obtain ⟨y, hy⟩ : ∃ y, y = qAt l i := ⟨_, rfl⟩
      rw [← hx] at hbq zs1 HNX
      rw [← hy] at zs2 HNX HOFi
      have HAD : Hid (∀ (A1 : Option Addr) (c1 : Nat) (l1 : List Nat) (m1 : Bool) (A2 : Option Addr) (c2 : Nat) (l2 : List Nat) (m2 : Bool) (A3 : Option Addr) (c3 : Nat) (l3 : List Nat) (m3 : Bool) (A4 : Option Addr) (c4 : Nat) (l4 : List Nat) (m4 : Bool) W, QV W A1 c1 l1 m1 A2 c2 l2 m2 (x) → QV W A3 c3 l3 m3 A4 c4 l4 m4 (y) → Calls Tryz.prog 43 #[(Value.agg #[.slice A1 l1.length c1, .bool m1, .slice A2 l2.length c2, .bool m2]), (Value.agg #[.slice A3 l3.length c3, .bool m3, .slice A4 l4.length c4, .bool m4])] W fun e w' => QR W (x + y) e w') := fun A1 c1 l1 m1 A2 c2 l2 m2 A3 c3 l3 m3 A4 c4 l4 m4 W g1 g3 => tqadd_any 200 A1 c1 l1 m1 A2 c2 l2 m2 A3 c3 l3 m3 A4 c4 l4 m4 x y W g1 g3 zs1 zs2 (by omega)
      have dl1 : decide ((i : Int) < (m : Int)) = true := decide_eq_true (by omega)
      have dl2 : decide (i < m) = true := decide_eq_true hlt
      clear hcell oki zs1 zs2 hnext hqa hnn hdd hx hy hil
      obtain ⟨A1, c1, l1, m1, A2, c2, l2, m2, j1, f1'⟩ := hbq
      have kx_0 : wr.cell? ⟨bx, 0, none⟩ = some (.slice A1 l1.length c1) := cells_of j1 0
      have ux_0 := unfrozen_of j1 0
      have kx_1 : wr.cell? ⟨bx, 1, none⟩ = some (.bool m1) := cells_of j1 1
      have ux_1 := unfrozen_of j1 1
      have kx_2 : wr.cell? ⟨bx, 2, none⟩ = some (.slice A2 l2.length c2) := cells_of j1 2
      have ux_2 := unfrozen_of j1 2
      have kx_3 : wr.cell? ⟨bx, 3, none⟩ = some (.bool m2) := cells_of j1 3
      have ux_3 := unfrozen_of j1 3
      have qx := lt_of_block j1
      have F1 := hide f1'; have J1 := hide j1
      clear f1' j1
      go_wp2_with fail
      go_region_with (first | (go_at_call 41; refine ((unhide HOFi) _).mono ?_; rintro e w' ⟨A3, c3, l3, m3, A4, c4, l4, m4, rfl, g1, g2, hb3⟩; have iq3 := QV.of g1 g2; clear g1 g2; have hbw := below_step (w := wr) (by (first | with_reducible assumption | (repeat (first | with_reducible exact Below.refl _ _ | with_reducible assumption | refine Below.drew ?_ | (refine Below.alloc ?_ (by simp <;> omega) _) | refine belowN ?_ _)))) hb3; obtain ⟨hc, hfz⟩ := bcell hbw) | (go_at_call 43; refine ((unhide HAD) A1 c1 l1 m1 A2 c2 l2 m2 A3 c3 l3 m3 A4 c4 l4 m4 _ (QV.below (unhide F1) (by (first | with_reducible assumption | (repeat (first | with_reducible exact Below.refl _ _ | with_reducible assumption | refine Below.drew ?_ | (refine Below.alloc ?_ (by simp <;> omega) _) | refine belowN ?_ _))))) (by first | exact iq3 | exact QV.below iq3 (by (first | with_reducible assumption | (repeat (first | with_reducible exact Below.refl _ _ | with_reducible assumption | refine Below.drew ?_ | (refine Below.alloc ?_ (by simp <;> omega) _) | refine belowN ?_ _)))))).mono ?_; rintro e w' ⟨A5, c5, l5, m5, A6, c6, l6, m6, rfl, g1, g2, hb5⟩; have iq5 := QV.of g1 g2; clear g1 g2; have hbw := below_step (w := wr) (by (first | with_reducible assumption | (repeat (first | with_reducible exact Below.refl _ _ | with_reducible assumption | refine Below.drew ?_ | (refine Below.alloc ?_ (by simp <;> omega) _) | refine belowN ?_ _)))) hb5; obtain ⟨hc, hfz⟩ := bcell hbw))
      all_goals
        have hst := boxq_st (boxq_below ⟨_, _, _, _, _, _, _, _, unhide J1, unhide F1⟩ hbw) iq5 ((unhide hgr).trans (hbw.mono (by omega))) (by omega) (by have := hbw.size; omega)
        clear iq5
        go_wp2_with fail
        go_roundw
        case rel => exact ⟨i + 1, by omega, by first | rfl | go_num, HNX.out ▸ hst.1, hide hst.2⟩
        case measure => simp [intOf] <;> omega
    · obtain rfl : i = m := by omega
      have dl1 : decide ((i : Int) < (i : Int)) = false := decide_eq_false (by omega)
      have dl2 : decide (i < i) = false := decide_eq_false (by omega)
      clear HSZ HJ HRS
      obtain ⟨⟨r0, r1⟩, ⟨f0, f1⟩, q0⟩ := unhide HRES
      have hblk := (unhide hgr).block w.heap.size (by omega)
      replace r0 := (World.cell?_of_block (a := ⟨w.heap.size, 0, none⟩) hblk).trans r0
      replace r1 := (World.cell?_of_block (a := ⟨w.heap.size, 1, none⟩) hblk).trans r1
      replace f0 := (World.frozen?_of_block (a := ⟨w.heap.size, 0, none⟩) hblk).trans f0
      replace f1 := (World.frozen?_of_block (a := ⟨w.heap.size, 1, none⟩) hblk).trans f1
      replace q0 := Nat.lt_of_lt_of_le q0 hgs
      obtain ⟨A1, c1, l1, m1, A2, c2, l2, m2, j1, f1'⟩ := hbq
      have kx_0 : wr.cell? ⟨bx, 0, none⟩ = some (.slice A1 l1.length c1) := cells_of j1 0
      have ux_0 := unfrozen_of j1 0
      have kx_1 : wr.cell? ⟨bx, 1, none⟩ = some (.bool m1) := cells_of j1 1
      have ux_1 := unfrozen_of j1 1
      have kx_2 : wr.cell? ⟨bx, 2, none⟩ = some (.slice A2 l2.length c2) := cells_of j1 2
      have ux_2 := unfrozen_of j1 2
      have kx_3 : wr.cell? ⟨bx, 3, none⟩ = some (.bool m2) := cells_of j1 3
      have ux_3 := unfrozen_of j1 3
      have qx := lt_of_block j1
      have HRAT := hide (ttoldv_any A1 c1 l1 m1 A2 c2 l2 m2 _ wr f1')
      have hw0 := hwr
      clear f1' j1 hblk hwr hgr HRES HW0
      go_wp2_with fail
      refine (unhide HRAT).mono ?_
      rintro e W5 ⟨rfl, hb⟩
      obtain ⟨hc, hfz⟩ := bcell hb
      replace r0 := (hc _ _ q0).trans r0
      replace r1 := (hc _ _ q0).trans r1
      replace f0 := (hfz _ _ q0).trans f0
      replace f1 := (hfz _ _ q0).trans f1
      replace q0 := Nat.lt_of_lt_of_le q0 hb.size
      replace hw0 := below_step' hw0 hb
      clear hc hfz
      clear hb
      go_wp2_with fail
      exact bodyPost_ret (v := .tuple #[.agg #[.int .i64 (Wd.told (Wd.sumTo (qAt l) i)).n, .int .i64 (Wd.told (Wd.sumTo (qAt l) i)).d], .int .i64 (Wd.told (Wd.sumTo (qAt l) i)).e]) (by simp [results, Tryz.results23, go_sem, r0, r1, q0]) rfl
        ⟨rfl, hw0.grown (set2_grown _ _ _ _) hw0.size (fun k hk => by injection hk with hk; omega)⟩
theorem tsum_any (A : Option Addr) (cap : Nat) (l : List (Int × Int)) (w : World) (h : Rs w w.heap.size A l) (hcp : l.length ≤ cap) (hm : cap ≤ 9223372036854775807) :
    Calls Tryz.prog 23 #[.slice A l.length cap] w fun e w' => TolR w (tsumT l) e w' := by
  unfold tsumT
  by_cases hl : 64 < l.length
  · rw [if_pos hl]; exact tsum_long A cap l w hcp hm hl
  · rw [if_neg hl]
    by_cases hj : Oks l
    · rw [if_pos hj]; exact tsum_ok A cap l w h hcp hm hl hj
    · rw [if_neg hj]; exact tsum_bad A cap l w h hcp hm hl hj


end Go.Proofs.YtpjgoogeokbaaaaGreatDoor
