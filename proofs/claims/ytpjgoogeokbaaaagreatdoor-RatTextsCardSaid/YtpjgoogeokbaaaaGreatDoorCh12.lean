/- Part 12 of the texts beneath a law of layer 1: RfQm3, RfQd, RfQt, RfSgn, RfInt, JnZ, Simp, Cf, Join, RfFlW, RfFlQ, RfHalf, RfRat, RfTold, RfDoB, RfRatv, RfToldv, JnR, TxD, TxI, TrL, TxM. -/
import Derived.Test.YtpjgoogeokbaaaaGreatDoorCh11
import Derived.Lib.Strings
/- The walk through the product of two numbers of the reference: the second is no integer. -/
namespace Go.Proofs.YtpjgoogeokbaaaaGreatDoor
open Go.RowKit

set_option maxRecDepth 100000 in
set_option maxHeartbeats 16000000 in
theorem qmul_tf (A1 : Option Addr) (c1 : Nat) (l1 : List Nat) (m1 : Bool) (A2 : Option Addr) (c2 : Nat) (l2 : List Nat) (m2 : Bool) (A3 : Option Addr) (c3 : Nat) (l3 : List Nat) (m3 : Bool) (A4 : Option Addr) (c4 : Nat) (l4 : List Nat) (m4 : Bool) (z1 b1 z3 b3 n d : Int) (q : Rat) (w : World) (f1 : WholeF w A1 c1 l1 m1 z1) (f3 : WholeF w A3 c3 l3 m3 z3)
    (hd1 : ∀ W, Below w.heap.size w W → Calls Tryz.prog 95 #[(Value.agg #[.slice A1 l1.length c1, .bool m1, .slice A2 l2.length c2, .bool m2])] W fun e w' => WholeR W b1 e w') (hd3 : ∀ W, Below w.heap.size w W → Calls Tryz.prog 95 #[(Value.agg #[.slice A3 l3.length c3, .bool m3, .slice A4 l4.length c4, .bool m4])] W fun e w' => WholeR W b3 e w')
    (ho1 : ∀ (A7 : Option Addr) (c7 : Nat) (l7 : List Nat) (m7 : Bool) (W : World), Below w.heap.size w W → WholeF W A7 c7 l7 m7 b1 → Calls Tryz.prog 96 #[(Value.agg #[.slice A7 l7.length c7, .bool m7])] W fun e w' => e = .returned (.bool true) ∧ Below W.heap.size W w') (ho3 : ∀ (A7 : Option Addr) (c7 : Nat) (l7 : List Nat) (m7 : Bool) (W : World), Below w.heap.size w W → WholeF W A7 c7 l7 m7 b3 → Calls Tryz.prog 96 #[(Value.agg #[.slice A7 l7.length c7, .bool m7])] W fun e w' => e = .returned (.bool false) ∧ Below W.heap.size W w') (hn : OpW2 w 98 z1 z3 n) (hm : OpW2 w 98 b1 b3 d) (hr : OpRQ w 92 n d q) :
    Calls Tryz.prog 45 #[(Value.agg #[.slice A1 l1.length c1, .bool m1, .slice A2 l2.length c2, .bool m2]), (Value.agg #[.slice A3 l3.length c3, .bool m3, .slice A4 l4.length c4, .bool m4])] w fun e w' => QR w q e w' := by
  have H1 := hide f1
  have H3 := hide f3
  clear f1 f3
  have HD1 := hide hd1
  have HD3 := hide hd3
  have HO1 := hide ho1
  have HO3 := hide ho3
  have HN := hide hn
  have HM := hide hm
  have HR := hide hr
  clear hd1 hd3 ho1 ho3 hn hm hr
  go_enter Tryz.func45, Tryz.ntmps45
  go_upto_region 1 with fail
  obtain ⟨n0, n1, n2, hsz, hw0⟩ := three_new w (.cells #[.slice A1 l1.length c1, .bool m1, .slice A2 l2.length c2, .bool m2] 52) (.cells #[.slice A3 l3.length c3, .bool m3, .slice A4 l4.length c4, .bool m4] 52) (.cells #[.slice none 0 0, .bool false, .slice none 0 0, .bool false] 52)
  generalize (((w.alloc (.cells #[.slice A1 l1.length c1, .bool m1, .slice A2 l2.length c2, .bool m2] 52)).alloc (.cells #[.slice A3 l3.length c3, .bool m3, .slice A4 l4.length c4, .bool m4] 52)).alloc (.cells #[.slice none 0 0, .bool false, .slice none 0 0, .bool false] 52)) = W0 at *
  have k0_0 : W0.cell? ⟨w.heap.size, 0, none⟩ = some (.slice A1 l1.length c1) := cells_of n0 0
  have k0_1 : W0.cell? ⟨w.heap.size, 1, none⟩ = some (.bool m1) := cells_of n0 1
  have k0_2 : W0.cell? ⟨w.heap.size, 2, none⟩ = some (.slice A2 l2.length c2) := cells_of n0 2
  have k0_3 : W0.cell? ⟨w.heap.size, 3, none⟩ = some (.bool m2) := cells_of n0 3
  have q0 : w.heap.size < W0.heap.size := by omega
  have k1_0 : W0.cell? ⟨w.heap.size + 1, 0, none⟩ = some (.slice A3 l3.length c3) := cells_of n1 0
  have k1_1 : W0.cell? ⟨w.heap.size + 1, 1, none⟩ = some (.bool m3) := cells_of n1 1
  have k1_2 : W0.cell? ⟨w.heap.size + 1, 2, none⟩ = some (.slice A4 l4.length c4) := cells_of n1 2
  have k1_3 : W0.cell? ⟨w.heap.size + 1, 3, none⟩ = some (.bool m4) := cells_of n1 3
  have q1 : w.heap.size + 1 < W0.heap.size := by omega
  have k2_0 : W0.cell? ⟨w.heap.size + 1 + 1, 0, none⟩ = some (.slice none 0 0) := cells_of n2 0
  have k2_1 : W0.cell? ⟨w.heap.size + 1 + 1, 1, none⟩ = some (.bool false) := cells_of n2 1
  have k2_2 : W0.cell? ⟨w.heap.size + 1 + 1, 2, none⟩ = some (.slice none 0 0) := cells_of n2 2
  have k2_3 : W0.cell? ⟨w.heap.size + 1 + 1, 3, none⟩ = some (.bool false) := cells_of n2 3
  have q2 : w.heap.size + 1 + 1 < W0.heap.size := by omega
  have f2_0 := unfrozen_of n2 0
  have f2_1 := unfrozen_of n2 1
  have f2_2 := unfrozen_of n2 2
  have f2_3 := unfrozen_of n2 3
  have NR := Lib.hid n2
  clear hsz n0 n1 n2
  replace H1 := hide ((unhide H1).below hw0)
  replace H3 := hide ((unhide H3).below hw0)
  go_upto_region 1 with fail
  go_cut [5, 6] (fun s5_ s6_ wx => ∃ b5 b6 : Nat, s5_ = .pointer (some ⟨b5, 0, none⟩) ∧ s6_ = .pointer (some ⟨b6, 0, none⟩) ∧ BoxW wx b5 b1 ∧ BoxW wx b6 b3 ∧ Below W0.heap.size W0 wx ∧ W0.heap.size ≤ b5 ∧ W0.heap.size ≤ b6)
  case first =>
    have KEEP := hide (show ∀ X, Below W0.heap.size W0 X → X.cell? ⟨w.heap.size, 0, none⟩ = some (.slice A1 l1.length c1) ∧ X.cell? ⟨w.heap.size, 1, none⟩ = some (.bool m1) ∧ X.cell? ⟨w.heap.size, 2, none⟩ = some (.slice A2 l2.length c2) ∧ X.cell? ⟨w.heap.size, 3, none⟩ = some (.bool m2) ∧ X.cell? ⟨w.heap.size + 1, 0, none⟩ = some (.slice A3 l3.length c3) ∧ X.cell? ⟨w.heap.size + 1, 1, none⟩ = some (.bool m3) ∧ X.cell? ⟨w.heap.size + 1, 2, none⟩ = some (.slice A4 l4.length c4) ∧ X.cell? ⟨w.heap.size + 1, 3, none⟩ = some (.bool m4) from fun X hB => ⟨keep_cell hB q0 k0_0, keep_cell hB q0 k0_1, keep_cell hB q0 k0_2, keep_cell hB q0 k0_3, keep_cell hB q1 k1_0, keep_cell hB q1 k1_1, keep_cell hB q1 k1_2, keep_cell hB q1 k1_3⟩)
    go_region_held3 (fun w' => w'.cell? ⟨w.heap.size, 0, none⟩ = some (.slice A1 l1.length c1) ∧ w'.cell? ⟨w.heap.size, 1, none⟩ = some (.bool m1) ∧ w'.cell? ⟨w.heap.size, 2, none⟩ = some (.slice A2 l2.length c2) ∧ w'.cell? ⟨w.heap.size, 3, none⟩ = some (.bool m2) ∧ w'.cell? ⟨w.heap.size + 1, 0, none⟩ = some (.slice A3 l3.length c3) ∧ w'.cell? ⟨w.heap.size + 1, 1, none⟩ = some (.bool m3) ∧ w'.cell? ⟨w.heap.size + 1, 2, none⟩ = some (.slice A4 l4.length c4) ∧ w'.cell? ⟨w.heap.size + 1, 3, none⟩ = some (.bool m4)) (exact (unhide KEEP) _ (by (repeat (first | with_reducible exact Below.refl _ _ | with_reducible assumption | with_reducible refine Below.drew ?_ | with_reducible refine below_alloc ?_ _ | (with_reducible refine below_set ?_ ?_ _ _; rotate_left; (first | omega | (simp <;> omega))))))) (first | (go_at_call_of 95 (Value.agg #[.slice A1 l1.length c1, .bool m1, .slice A2 l2.length c2, .bool m2]); refine ((unhide HD1) _ (below_step' hw0 (by (repeat (first | with_reducible exact Below.refl _ _ | with_reducible assumption | with_reducible refine Below.drew ?_ | with_reducible refine below_alloc ?_ _))))).mono ?_; rintro e w' ⟨A5, c5, l5, m5, rfl, hf5, hb5⟩; have hbw := below_step (w := W0) (by (repeat (first | with_reducible exact Below.refl _ _ | with_reducible assumption | with_reducible refine Below.drew ?_ | with_reducible refine below_alloc ?_ _))) hb5; have hsw := hbw.size; obtain ⟨hc, hfz⟩ := bcell hbw; (try ((first | have u5a : FrW W0 w' _ := FrW.below (FrW.new (by (repeat (first | with_reducible exact Below.refl _ _ | with_reducible assumption | with_reducible refine Below.drew ?_ | with_reducible refine below_alloc ?_ _))) rfl) hb5 | have u5a : FrW W0 w' _ := FrW.below (FrW.drew (FrW.new (by (repeat (first | with_reducible exact Below.refl _ _ | with_reducible assumption | with_reducible refine Below.drew ?_ | with_reducible refine below_alloc ?_ _))) rfl)) hb5); (try simp only [World.size_alloc] at u5a); (try dsimp only [World.drew] at u5a); (try simp only [World.size_alloc] at u5a); obtain ⟨⟨u5a1, u5a2⟩, ⟨u5a3, u5a4⟩, ⟨u5a5, u5a6⟩, ⟨u5a7, u5a8⟩, u5a9, u5a10⟩ := FrW.facts u5a)); (try ((first | have u5b : FrW W0 w' _ := FrW.below (FrW.alloc (FrW.new (by (repeat (first | with_reducible exact Below.refl _ _ | with_reducible assumption | with_reducible refine Below.drew ?_ | with_reducible refine below_alloc ?_ _))) rfl)) hb5 | have u5b : FrW W0 w' _ := FrW.below (FrW.drew (FrW.alloc (FrW.new (by (repeat (first | with_reducible exact Below.refl _ _ | with_reducible assumption | with_reducible refine Below.drew ?_ | with_reducible refine below_alloc ?_ _))) rfl))) hb5); (try simp only [World.size_alloc] at u5b); (try dsimp only [World.drew] at u5b); (try simp only [World.size_alloc] at u5b); obtain ⟨⟨u5b1, u5b2⟩, ⟨u5b3, u5b4⟩, ⟨u5b5, u5b6⟩, ⟨u5b7, u5b8⟩, u5b9, u5b10⟩ := FrW.facts u5b))) | (go_at_call_of 95 (Value.agg #[.slice A3 l3.length c3, .bool m3, .slice A4 l4.length c4, .bool m4]); refine ((unhide HD3) _ (below_step' hw0 (by (repeat (first | with_reducible exact Below.refl _ _ | with_reducible assumption | with_reducible refine Below.drew ?_ | with_reducible refine below_alloc ?_ _))))).mono ?_; rintro e w' ⟨A6, c6, l6, m6, rfl, hf6, hb6⟩; have hf5 := WholeF.below (WholeF.below hf5 (by (repeat (first | with_reducible exact Below.refl _ _ | with_reducible assumption | with_reducible refine Below.drew ?_ | with_reducible refine below_alloc ?_ _)))) hb6; have hbw := below_step (w := W0) (by (repeat (first | with_reducible exact Below.refl _ _ | with_reducible assumption | with_reducible refine Below.drew ?_ | with_reducible refine below_alloc ?_ _))) hb6; have hsw := hbw.size; obtain ⟨hc, hfz⟩ := bcell hbw; (try ((first | have u6a : FrW W0 w' _ := FrW.below (FrW.new (by (repeat (first | with_reducible exact Below.refl _ _ | with_reducible assumption | with_reducible refine Below.drew ?_ | with_reducible refine below_alloc ?_ _))) rfl) hb6 | have u6a : FrW W0 w' _ := FrW.below (FrW.drew (FrW.new (by (repeat (first | with_reducible exact Below.refl _ _ | with_reducible assumption | with_reducible refine Below.drew ?_ | with_reducible refine below_alloc ?_ _))) rfl)) hb6); (try simp only [World.size_alloc] at u6a); (try dsimp only [World.drew] at u6a); (try simp only [World.size_alloc] at u6a); obtain ⟨⟨u6a1, u6a2⟩, ⟨u6a3, u6a4⟩, ⟨u6a5, u6a6⟩, ⟨u6a7, u6a8⟩, u6a9, u6a10⟩ := FrW.facts u6a)); (try ((first | have u6b : FrW W0 w' _ := FrW.below (FrW.alloc (FrW.new (by (repeat (first | with_reducible exact Below.refl _ _ | with_reducible assumption | with_reducible refine Below.drew ?_ | with_reducible refine below_alloc ?_ _))) rfl)) hb6 | have u6b : FrW W0 w' _ := FrW.below (FrW.drew (FrW.alloc (FrW.new (by (repeat (first | with_reducible exact Below.refl _ _ | with_reducible assumption | with_reducible refine Below.drew ?_ | with_reducible refine below_alloc ?_ _))) rfl))) hb6); (try simp only [World.size_alloc] at u6b); (try dsimp only [World.drew] at u6b); (try simp only [World.size_alloc] at u6b); obtain ⟨⟨u6b1, u6b2⟩, ⟨u6b3, u6b4⟩, ⟨u6b5, u6b6⟩, ⟨u6b7, u6b8⟩, u6b9, u6b10⟩ := FrW.facts u6b)); (try ((first | have u6c : FrW W0 w' _ := FrW.below u5a hb6 | have u6c : FrW W0 w' _ := FrW.below (FrW.alloc u5a) hb6 | have u6c : FrW W0 w' _ := FrW.below (FrW.alloc (FrW.alloc u5a)) hb6); (try simp only [World.size_alloc] at u6c); (try dsimp only [World.drew] at u6c); (try simp only [World.size_alloc] at u6c); obtain ⟨⟨u6c1, u6c2⟩, ⟨u6c3, u6c4⟩, ⟨u6c5, u6c6⟩, ⟨u6c7, u6c8⟩, u6c9, u6c10⟩ := FrW.facts u6c)); (try ((first | have u6d : FrW W0 w' _ := FrW.below u5b hb6 | have u6d : FrW W0 w' _ := FrW.below (FrW.alloc u5b) hb6 | have u6d : FrW W0 w' _ := FrW.below (FrW.alloc (FrW.alloc u5b)) hb6); (try simp only [World.size_alloc] at u6d); (try dsimp only [World.drew] at u6d); (try simp only [World.size_alloc] at u6d); obtain ⟨⟨u6d1, u6d2⟩, ⟨u6d3, u6d4⟩, ⟨u6d5, u6d6⟩, ⟨u6d7, u6d8⟩, u6d9, u6d10⟩ := FrW.facts u6d))))
    all_goals (go_wp2_with fail; go_meet; refine ⟨_, _, rfl, rfl, ?_⟩; first | with_reducible exact wput_two ⟨by assumption, by assumption, by first | assumption | omega⟩ hf5 hf6 hbw | with_reducible exact wput_two (FrW2.newR (by assumption) rfl) hf5.alloc hf6.alloc (below_alloc hbw _) | with_reducible exact wput_two (FrW2.newL (by assumption) rfl) hf5.alloc hf6.alloc (below_alloc hbw _) | with_reducible exact wput_nn hf5 hf6 hbw rfl rfl | with_reducible exact wput_mm hf5 hf6 hbw rfl rfl | with_reducible exact wput_ns (by assumption) hf5 hf6 hbw rfl)
  case rest =>
    revert hcut
    generalize wc = W1
    intro hcut
    obtain ⟨b5, b6, rfl, rfl, B5, B6, hbx, ob5, ob6⟩ := hcut
    obtain ⟨hc, hfz⟩ := bcell hbx
    replace k0_0 := (hc _ _ q0).trans k0_0
    replace k0_1 := (hc _ _ q0).trans k0_1
    replace k0_2 := (hc _ _ q0).trans k0_2
    replace k0_3 := (hc _ _ q0).trans k0_3
    replace q0 := Nat.lt_of_lt_of_le q0 hbx.size
    replace k1_0 := (hc _ _ q1).trans k1_0
    replace k1_1 := (hc _ _ q1).trans k1_1
    replace k1_2 := (hc _ _ q1).trans k1_2
    replace k1_3 := (hc _ _ q1).trans k1_3
    replace q1 := Nat.lt_of_lt_of_le q1 hbx.size
    replace ob5 : w.heap.size + 1 + 1 < b5 := Nat.lt_of_lt_of_le q2 ob5
    replace ob6 : w.heap.size + 1 + 1 < b6 := Nat.lt_of_lt_of_le q2 ob6
    replace k2_0 := (hc _ _ q2).trans k2_0
    replace f2_0 := (hfz _ _ q2).trans f2_0
    replace k2_1 := (hc _ _ q2).trans k2_1
    replace f2_1 := (hfz _ _ q2).trans f2_1
    replace k2_2 := (hc _ _ q2).trans k2_2
    replace f2_2 := (hfz _ _ q2).trans f2_2
    replace k2_3 := (hc _ _ q2).trans k2_3
    replace f2_3 := (hfz _ _ q2).trans f2_3
    replace NR := Lib.hid ((hbx.block _ q2).trans NR.out)
    replace q2 := Nat.lt_of_lt_of_le q2 hbx.size
    replace hw0 := below_step' hw0 hbx
    replace H1 := hide ((unhide H1).below hbx)
    replace H3 := hide ((unhide H3).below hbx)
    obtain ⟨A5, c5, l5, m5, n5, H5⟩ := B5
    have kb5_0 : W1.cell? ⟨b5, 0, none⟩ = some (.slice A5 l5.length c5) := cells_of n5 0
    have kb5_1 : W1.cell? ⟨b5, 1, none⟩ = some (.bool m5) := cells_of n5 1
    have qb5 := lt_of_block n5
    replace H5 := hide H5
    clear n5
    obtain ⟨A6, c6, l6, m6, n6, H6⟩ := B6
    have kb6_0 : W1.cell? ⟨b6, 0, none⟩ = some (.slice A6 l6.length c6) := cells_of n6 0
    have kb6_1 : W1.cell? ⟨b6, 1, none⟩ = some (.bool m6) := cells_of n6 1
    have qb6 := lt_of_block n6
    replace H6 := hide H6
    clear n6
    clear hbx hc hfz
    go_wp2_with fail
    refine ((unhide HO1) A5 c5 l5 m5 _ hw0 (unhide H5)).mono ?_
    rintro e W2 ⟨rfl, hbx⟩
    obtain ⟨hc, hfz⟩ := bcell hbx
    replace k0_0 := (hc _ _ q0).trans k0_0
    replace k0_1 := (hc _ _ q0).trans k0_1
    replace k0_2 := (hc _ _ q0).trans k0_2
    replace k0_3 := (hc _ _ q0).trans k0_3
    replace q0 := Nat.lt_of_lt_of_le q0 hbx.size
    replace k1_0 := (hc _ _ q1).trans k1_0
    replace k1_1 := (hc _ _ q1).trans k1_1
    replace k1_2 := (hc _ _ q1).trans k1_2
    replace k1_3 := (hc _ _ q1).trans k1_3
    replace q1 := Nat.lt_of_lt_of_le q1 hbx.size
    replace kb5_0 := (hc _ _ qb5).trans kb5_0
    replace kb5_1 := (hc _ _ qb5).trans kb5_1
    replace qb5 := Nat.lt_of_lt_of_le qb5 hbx.size
    replace kb6_0 := (hc _ _ qb6).trans kb6_0
    replace kb6_1 := (hc _ _ qb6).trans kb6_1
    replace qb6 := Nat.lt_of_lt_of_le qb6 hbx.size
    replace k2_0 := (hc _ _ q2).trans k2_0
    replace f2_0 := (hfz _ _ q2).trans f2_0
    replace k2_1 := (hc _ _ q2).trans k2_1
    replace f2_1 := (hfz _ _ q2).trans f2_1
    replace k2_2 := (hc _ _ q2).trans k2_2
    replace f2_2 := (hfz _ _ q2).trans f2_2
    replace k2_3 := (hc _ _ q2).trans k2_3
    replace f2_3 := (hfz _ _ q2).trans f2_3
    replace NR := Lib.hid ((hbx.block _ q2).trans NR.out)
    replace q2 := Nat.lt_of_lt_of_le q2 hbx.size
    replace hw0 := below_step' hw0 hbx
    replace H1 := hide ((unhide H1).below hbx)
    replace H3 := hide ((unhide H3).below hbx)
    replace H5 := hide ((unhide H5).below hbx)
    replace H6 := hide ((unhide H6).below hbx)
    clear hbx hc hfz
    go_wp2_with fail
    refine ((unhide HO3) A6 c6 l6 m6 _ hw0 (unhide H6)).mono ?_
    rintro e W3 ⟨rfl, hbx⟩
    obtain ⟨hc, hfz⟩ := bcell hbx
    replace k0_0 := (hc _ _ q0).trans k0_0
    replace k0_1 := (hc _ _ q0).trans k0_1
    replace k0_2 := (hc _ _ q0).trans k0_2
    replace k0_3 := (hc _ _ q0).trans k0_3
    replace q0 := Nat.lt_of_lt_of_le q0 hbx.size
    replace k1_0 := (hc _ _ q1).trans k1_0
    replace k1_1 := (hc _ _ q1).trans k1_1
    replace k1_2 := (hc _ _ q1).trans k1_2
    replace k1_3 := (hc _ _ q1).trans k1_3
    replace q1 := Nat.lt_of_lt_of_le q1 hbx.size
    replace kb5_0 := (hc _ _ qb5).trans kb5_0
    replace kb5_1 := (hc _ _ qb5).trans kb5_1
    replace qb5 := Nat.lt_of_lt_of_le qb5 hbx.size
    replace kb6_0 := (hc _ _ qb6).trans kb6_0
    replace kb6_1 := (hc _ _ qb6).trans kb6_1
    replace qb6 := Nat.lt_of_lt_of_le qb6 hbx.size
    replace k2_0 := (hc _ _ q2).trans k2_0
    replace f2_0 := (hfz _ _ q2).trans f2_0
    replace k2_1 := (hc _ _ q2).trans k2_1
    replace f2_1 := (hfz _ _ q2).trans f2_1
    replace k2_2 := (hc _ _ q2).trans k2_2
    replace f2_2 := (hfz _ _ q2).trans f2_2
    replace k2_3 := (hc _ _ q2).trans k2_3
    replace f2_3 := (hfz _ _ q2).trans f2_3
    replace NR := Lib.hid ((hbx.block _ q2).trans NR.out)
    replace q2 := Nat.lt_of_lt_of_le q2 hbx.size
    replace hw0 := below_step' hw0 hbx
    replace H1 := hide ((unhide H1).below hbx)
    replace H3 := hide ((unhide H3).below hbx)
    replace H5 := hide ((unhide H5).below hbx)
    replace H6 := hide ((unhide H6).below hbx)
    clear hbx hc hfz
    go_upto_region 4 with fail
    have KEEP := hide (show ∀ X, Below W3.heap.size W3 X → X.cell? ⟨w.heap.size, 0, none⟩ = some (.slice A1 l1.length c1) ∧ X.cell? ⟨w.heap.size, 1, none⟩ = some (.bool m1) ∧ X.cell? ⟨w.heap.size, 2, none⟩ = some (.slice A2 l2.length c2) ∧ X.cell? ⟨w.heap.size, 3, none⟩ = some (.bool m2) ∧ X.cell? ⟨w.heap.size + 1, 0, none⟩ = some (.slice A3 l3.length c3) ∧ X.cell? ⟨w.heap.size + 1, 1, none⟩ = some (.bool m3) ∧ X.cell? ⟨w.heap.size + 1, 2, none⟩ = some (.slice A4 l4.length c4) ∧ X.cell? ⟨w.heap.size + 1, 3, none⟩ = some (.bool m4) ∧ X.cell? ⟨b5, 0, none⟩ = some (.slice A5 l5.length c5) ∧ X.cell? ⟨b5, 1, none⟩ = some (.bool m5) ∧ X.cell? ⟨b6, 0, none⟩ = some (.slice A6 l6.length c6) ∧ X.cell? ⟨b6, 1, none⟩ = some (.bool m6) from fun X hB => ⟨keep_cell hB q0 k0_0, keep_cell hB q0 k0_1, keep_cell hB q0 k0_2, keep_cell hB q0 k0_3, keep_cell hB q1 k1_0, keep_cell hB q1 k1_1, keep_cell hB q1 k1_2, keep_cell hB q1 k1_3, keep_cell hB qb5 kb5_0, keep_cell hB qb5 kb5_1, keep_cell hB qb6 kb6_0, keep_cell hB qb6 kb6_1⟩)
    go_region_held3 (fun w' => w'.cell? ⟨w.heap.size, 0, none⟩ = some (.slice A1 l1.length c1) ∧ w'.cell? ⟨w.heap.size, 1, none⟩ = some (.bool m1) ∧ w'.cell? ⟨w.heap.size, 2, none⟩ = some (.slice A2 l2.length c2) ∧ w'.cell? ⟨w.heap.size, 3, none⟩ = some (.bool m2) ∧ w'.cell? ⟨w.heap.size + 1, 0, none⟩ = some (.slice A3 l3.length c3) ∧ w'.cell? ⟨w.heap.size + 1, 1, none⟩ = some (.bool m3) ∧ w'.cell? ⟨w.heap.size + 1, 2, none⟩ = some (.slice A4 l4.length c4) ∧ w'.cell? ⟨w.heap.size + 1, 3, none⟩ = some (.bool m4) ∧ w'.cell? ⟨b5, 0, none⟩ = some (.slice A5 l5.length c5) ∧ w'.cell? ⟨b5, 1, none⟩ = some (.bool m5) ∧ w'.cell? ⟨b6, 0, none⟩ = some (.slice A6 l6.length c6) ∧ w'.cell? ⟨b6, 1, none⟩ = some (.bool m6)) (first | with_reducible exact ⟨(cell_set4 _ _ _ _ _ _ (by omega)).trans (keep_cell hbw q0 k0_0), (cell_set4 _ _ _ _ _ _ (by omega)).trans (keep_cell hbw q0 k0_1), (cell_set4 _ _ _ _ _ _ (by omega)).trans (keep_cell hbw q0 k0_2), (cell_set4 _ _ _ _ _ _ (by omega)).trans (keep_cell hbw q0 k0_3), (cell_set4 _ _ _ _ _ _ (by omega)).trans (keep_cell hbw q1 k1_0), (cell_set4 _ _ _ _ _ _ (by omega)).trans (keep_cell hbw q1 k1_1), (cell_set4 _ _ _ _ _ _ (by omega)).trans (keep_cell hbw q1 k1_2), (cell_set4 _ _ _ _ _ _ (by omega)).trans (keep_cell hbw q1 k1_3), (cell_set4 _ _ _ _ _ _ (by omega)).trans (keep_cell hbw qb5 kb5_0), (cell_set4 _ _ _ _ _ _ (by omega)).trans (keep_cell hbw qb5 kb5_1), (cell_set4 _ _ _ _ _ _ (by omega)).trans (keep_cell hbw qb6 kb6_0), (cell_set4 _ _ _ _ _ _ (by omega)).trans (keep_cell hbw qb6 kb6_1)⟩ | with_reducible exact (unhide KEEP) _ (by (repeat (first | with_reducible exact Below.refl _ _ | with_reducible assumption | with_reducible refine Below.drew ?_ | with_reducible refine below_alloc ?_ _)))) (first | (go_at_call_of 98 (Value.agg #[.slice A1 l1.length c1, .bool m1]); refine ((unhide HN) A1 c1 l1 m1 A3 c3 l3 m3 _ (below_step' hw0 (by (repeat (first | with_reducible exact Below.refl _ _ | with_reducible assumption | with_reducible refine Below.drew ?_ | with_reducible refine below_alloc ?_ _)))) (WholeF.below (unhide H1) (by (repeat (first | with_reducible exact Below.refl _ _ | with_reducible assumption | with_reducible refine Below.drew ?_ | with_reducible refine below_alloc ?_ _)))) (WholeF.below (unhide H3) (by (repeat (first | with_reducible exact Below.refl _ _ | with_reducible assumption | with_reducible refine Below.drew ?_ | with_reducible refine below_alloc ?_ _))))).mono ?_; rintro e w' ⟨A10, c10, l10, m10, rfl, hf10, hb10⟩; have hbw := below_step (w := W3) (by (repeat (first | with_reducible exact Below.refl _ _ | with_reducible assumption | with_reducible refine Below.drew ?_ | with_reducible refine below_alloc ?_ _))) hb10; have hsw := hbw.size; obtain ⟨hc, hfz⟩ := bcell hbw) | (go_at_call_of 98 (Value.agg #[.slice A5 l5.length c5, .bool m5]); refine ((unhide HM) A5 c5 l5 m5 A6 c6 l6 m6 _ (below_step' hw0 (by (repeat (first | with_reducible exact Below.refl _ _ | with_reducible assumption | with_reducible refine Below.drew ?_ | with_reducible refine below_alloc ?_ _)))) (WholeF.below (unhide H5) (by (repeat (first | with_reducible exact Below.refl _ _ | with_reducible assumption | with_reducible refine Below.drew ?_ | with_reducible refine below_alloc ?_ _)))) (WholeF.below (unhide H6) (by (repeat (first | with_reducible exact Below.refl _ _ | with_reducible assumption | with_reducible refine Below.drew ?_ | with_reducible refine below_alloc ?_ _))))).mono ?_; rintro e w' ⟨A11, c11, l11, m11, rfl, hf11, hb11⟩; have hf10 := WholeF.below (WholeF.below hf10 (by (repeat (first | with_reducible exact Below.refl _ _ | with_reducible assumption | with_reducible refine Below.drew ?_ | with_reducible refine below_alloc ?_ _)))) hb11; have hbw := below_step (w := W3) (by (repeat (first | with_reducible exact Below.refl _ _ | with_reducible assumption | with_reducible refine Below.drew ?_ | with_reducible refine below_alloc ?_ _))) hb11; have hsw := hbw.size; obtain ⟨hc, hfz⟩ := bcell hbw) | (go_at_call_of 92 (Value.agg #[.slice A10 l10.length c10, .bool m10]); refine ((unhide HR) A10 c10 l10 m10 A11 c11 l11 m11 _ (below_step' hw0 (by (repeat (first | with_reducible exact Below.refl _ _ | with_reducible assumption | with_reducible refine Below.drew ?_ | with_reducible refine below_alloc ?_ _)))) (WholeF.below hf10 (by (repeat (first | with_reducible exact Below.refl _ _ | with_reducible assumption | with_reducible refine Below.drew ?_ | with_reducible refine below_alloc ?_ _)))) (WholeF.below hf11 (by (repeat (first | with_reducible exact Below.refl _ _ | with_reducible assumption | with_reducible refine Below.drew ?_ | with_reducible refine below_alloc ?_ _))))).mono ?_; rintro e w' ⟨A12, c12, l12, m12, A13, c13, l13, m13, rfl, hf12, hf13, hb12⟩; have hf10 := WholeF.below (WholeF.below hf10 (by (repeat (first | with_reducible exact Below.refl _ _ | with_reducible assumption | with_reducible refine Below.drew ?_ | with_reducible refine below_alloc ?_ _)))) hb12; have hf11 := WholeF.below (WholeF.below hf11 (by (repeat (first | with_reducible exact Below.refl _ _ | with_reducible assumption | with_reducible refine Below.drew ?_ | with_reducible refine below_alloc ?_ _)))) hb12; have hbw := below_step (w := W3) (by (repeat (first | with_reducible exact Below.refl _ _ | with_reducible assumption | with_reducible refine Below.drew ?_ | with_reducible refine below_alloc ?_ _))) hb12; have hsw := hbw.size; obtain ⟨hc, hfz⟩ := bcell hbw))
    all_goals
      have hblk : w'.heap[w.heap.size + 1 + 1]? = some (.cells #[.slice none 0 0, .bool false, .slice none 0 0, .bool false] 52 (0, 0)) := (hbw.block _ q2).trans NR.out
      have HBLK := Lib.hid hblk
      have hb9 : Below w.heap.size w w' := below_step' hw0 hbw
      have hfi := (hf12)
      have hfj := (hf13)
      clear hblk
      go_wp2_with fail
      exact bodyPost_ret (v := (Value.agg #[.slice A12 l12.length c12, .bool m12, .slice A13 l13.length c13, .bool m13])) (by simp [results, Tryz.results45, go_sem, hc, k2_0, k2_1, k2_2, k2_3, q2]) rfl
        ⟨A12, c12, l12, m12, A13, c13, l13, m13, rfl, hfi.upto HBLK.out (noW2_4 _ _ _ _ _ _ _ _) (set4_grown _ _ _ _ _ _), hfj.upto HBLK.out (noW2_4 _ _ _ _ _ _ _ _) (set4_grown _ _ _ _ _ _), hb9.grown (set4_grown _ _ _ _ _ _) hb9.size (fun k hk => by injection hk with hk; omega)⟩

end Go.Proofs.YtpjgoogeokbaaaaGreatDoor
/- The walk through the quotient of numbers of the reference. -/
namespace Go.Proofs.YtpjgoogeokbaaaaGreatDoor
open Go.RowKit

set_option maxRecDepth 100000 in
set_option maxHeartbeats 16000000 in
theorem qdiv_walk (A1 : Option Addr) (c1 : Nat) (l1 : List Nat) (m1 : Bool) (A2 : Option Addr) (c2 : Nat) (l2 : List Nat) (m2 : Bool) (A3 : Option Addr) (c3 : Nat) (l3 : List Nat) (m3 : Bool) (A4 : Option Addr) (c4 : Nat) (l4 : List Nat) (m4 : Bool) (z1 b1 z3 b3 n d : Int) (p q : Rat) (w : World) (f1 : WholeF w A1 c1 l1 m1 z1) (f3 : WholeF w A3 c3 l3 m3 z3)
    (hd1 : ∀ W, Below w.heap.size w W → Calls Tryz.prog 95 #[(Value.agg #[.slice A1 l1.length c1, .bool m1, .slice A2 l2.length c2, .bool m2])] W fun e w' => WholeR W b1 e w') (hd3 : ∀ W, Below w.heap.size w W → Calls Tryz.prog 95 #[(Value.agg #[.slice A3 l3.length c3, .bool m3, .slice A4 l4.length c4, .bool m4])] W fun e w' => WholeR W b3 e w') (hn : OpW2 w 98 z1 b3 n) (hm : OpW2 w 98 b1 z3 d) (hr : OpRQ w 92 n d q) :
    Calls Tryz.prog 47 #[(Value.agg #[.slice A1 l1.length c1, .bool m1, .slice A2 l2.length c2, .bool m2]), (Value.agg #[.slice A3 l3.length c3, .bool m3, .slice A4 l4.length c4, .bool m4])] w fun e w' => QR w q e w' := by
  have H1 := hide f1
  have H3 := hide f3
  clear f1 f3
  have HD1 := hide hd1
  have HD3 := hide hd3
  have HN := hide hn
  have HM := hide hm
  have HR := hide hr
  clear hd1 hd3 hn hm hr
  go_enter Tryz.func47, Tryz.ntmps47
  go_upto_region 1 with fail
  obtain ⟨n0, n1, n2, hsz, hw0⟩ := three_new w (.cells #[.slice A1 l1.length c1, .bool m1, .slice A2 l2.length c2, .bool m2] 52) (.cells #[.slice A3 l3.length c3, .bool m3, .slice A4 l4.length c4, .bool m4] 52) (.cells #[.slice none 0 0, .bool false, .slice none 0 0, .bool false] 52)
  generalize (((w.alloc (.cells #[.slice A1 l1.length c1, .bool m1, .slice A2 l2.length c2, .bool m2] 52)).alloc (.cells #[.slice A3 l3.length c3, .bool m3, .slice A4 l4.length c4, .bool m4] 52)).alloc (.cells #[.slice none 0 0, .bool false, .slice none 0 0, .bool false] 52)) = W0 at *
  have k0_0 : W0.cell? ⟨w.heap.size, 0, none⟩ = some (.slice A1 l1.length c1) := cells_of n0 0
  have k0_1 : W0.cell? ⟨w.heap.size, 1, none⟩ = some (.bool m1) := cells_of n0 1
  have k0_2 : W0.cell? ⟨w.heap.size, 2, none⟩ = some (.slice A2 l2.length c2) := cells_of n0 2
  have k0_3 : W0.cell? ⟨w.heap.size, 3, none⟩ = some (.bool m2) := cells_of n0 3
  have q0 : w.heap.size < W0.heap.size := by omega
  have k1_0 : W0.cell? ⟨w.heap.size + 1, 0, none⟩ = some (.slice A3 l3.length c3) := cells_of n1 0
  have k1_1 : W0.cell? ⟨w.heap.size + 1, 1, none⟩ = some (.bool m3) := cells_of n1 1
  have k1_2 : W0.cell? ⟨w.heap.size + 1, 2, none⟩ = some (.slice A4 l4.length c4) := cells_of n1 2
  have k1_3 : W0.cell? ⟨w.heap.size + 1, 3, none⟩ = some (.bool m4) := cells_of n1 3
  have q1 : w.heap.size + 1 < W0.heap.size := by omega
  have k2_0 : W0.cell? ⟨w.heap.size + 1 + 1, 0, none⟩ = some (.slice none 0 0) := cells_of n2 0
  have k2_1 : W0.cell? ⟨w.heap.size + 1 + 1, 1, none⟩ = some (.bool false) := cells_of n2 1
  have k2_2 : W0.cell? ⟨w.heap.size + 1 + 1, 2, none⟩ = some (.slice none 0 0) := cells_of n2 2
  have k2_3 : W0.cell? ⟨w.heap.size + 1 + 1, 3, none⟩ = some (.bool false) := cells_of n2 3
  have q2 : w.heap.size + 1 + 1 < W0.heap.size := by omega
  have f2_0 := unfrozen_of n2 0
  have f2_1 := unfrozen_of n2 1
  have f2_2 := unfrozen_of n2 2
  have f2_3 := unfrozen_of n2 3
  have NR := Lib.hid n2
  clear hsz n0 n1 n2
  replace H1 := hide ((unhide H1).below hw0)
  replace H3 := hide ((unhide H3).below hw0)
  go_upto_region 1 with fail
  have KEEP := hide (show ∀ X, Below W0.heap.size W0 X → X.cell? ⟨w.heap.size, 0, none⟩ = some (.slice A1 l1.length c1) ∧ X.cell? ⟨w.heap.size, 1, none⟩ = some (.bool m1) ∧ X.cell? ⟨w.heap.size, 2, none⟩ = some (.slice A2 l2.length c2) ∧ X.cell? ⟨w.heap.size, 3, none⟩ = some (.bool m2) ∧ X.cell? ⟨w.heap.size + 1, 0, none⟩ = some (.slice A3 l3.length c3) ∧ X.cell? ⟨w.heap.size + 1, 1, none⟩ = some (.bool m3) ∧ X.cell? ⟨w.heap.size + 1, 2, none⟩ = some (.slice A4 l4.length c4) ∧ X.cell? ⟨w.heap.size + 1, 3, none⟩ = some (.bool m4) from fun X hB => ⟨keep_cell hB q0 k0_0, keep_cell hB q0 k0_1, keep_cell hB q0 k0_2, keep_cell hB q0 k0_3, keep_cell hB q1 k1_0, keep_cell hB q1 k1_1, keep_cell hB q1 k1_2, keep_cell hB q1 k1_3⟩)
  go_region_held3 (fun w' => w'.cell? ⟨w.heap.size, 0, none⟩ = some (.slice A1 l1.length c1) ∧ w'.cell? ⟨w.heap.size, 1, none⟩ = some (.bool m1) ∧ w'.cell? ⟨w.heap.size, 2, none⟩ = some (.slice A2 l2.length c2) ∧ w'.cell? ⟨w.heap.size, 3, none⟩ = some (.bool m2) ∧ w'.cell? ⟨w.heap.size + 1, 0, none⟩ = some (.slice A3 l3.length c3) ∧ w'.cell? ⟨w.heap.size + 1, 1, none⟩ = some (.bool m3) ∧ w'.cell? ⟨w.heap.size + 1, 2, none⟩ = some (.slice A4 l4.length c4) ∧ w'.cell? ⟨w.heap.size + 1, 3, none⟩ = some (.bool m4)) (first | with_reducible exact ⟨(cell_set4 _ _ _ _ _ _ (by omega)).trans (keep_cell hbw q0 k0_0), (cell_set4 _ _ _ _ _ _ (by omega)).trans (keep_cell hbw q0 k0_1), (cell_set4 _ _ _ _ _ _ (by omega)).trans (keep_cell hbw q0 k0_2), (cell_set4 _ _ _ _ _ _ (by omega)).trans (keep_cell hbw q0 k0_3), (cell_set4 _ _ _ _ _ _ (by omega)).trans (keep_cell hbw q1 k1_0), (cell_set4 _ _ _ _ _ _ (by omega)).trans (keep_cell hbw q1 k1_1), (cell_set4 _ _ _ _ _ _ (by omega)).trans (keep_cell hbw q1 k1_2), (cell_set4 _ _ _ _ _ _ (by omega)).trans (keep_cell hbw q1 k1_3)⟩ | with_reducible exact (unhide KEEP) _ (by (repeat (first | with_reducible exact Below.refl _ _ | with_reducible assumption | with_reducible refine Below.drew ?_ | with_reducible refine below_alloc ?_ _)))) (first | (go_at_call_of 95 (Value.agg #[.slice A3 l3.length c3, .bool m3, .slice A4 l4.length c4, .bool m4]); refine ((unhide HD3) _ (below_step' hw0 (by (repeat (first | with_reducible exact Below.refl _ _ | with_reducible assumption | with_reducible refine Below.drew ?_ | with_reducible refine below_alloc ?_ _))))).mono ?_; rintro e w' ⟨A5, c5, l5, m5, rfl, hf5, hb5⟩; have hbw := below_step (w := W0) (by (repeat (first | with_reducible exact Below.refl _ _ | with_reducible assumption | with_reducible refine Below.drew ?_ | with_reducible refine below_alloc ?_ _))) hb5; have hsw := hbw.size; obtain ⟨hc, hfz⟩ := bcell hbw) | (go_at_call_of 98 (Value.agg #[.slice A1 l1.length c1, .bool m1]); refine ((unhide HN) A1 c1 l1 m1 A5 c5 l5 m5 _ (below_step' hw0 (by (repeat (first | with_reducible exact Below.refl _ _ | with_reducible assumption | with_reducible refine Below.drew ?_ | with_reducible refine below_alloc ?_ _)))) (WholeF.below (unhide H1) (by (repeat (first | with_reducible exact Below.refl _ _ | with_reducible assumption | with_reducible refine Below.drew ?_ | with_reducible refine below_alloc ?_ _)))) (WholeF.below hf5 (by (repeat (first | with_reducible exact Below.refl _ _ | with_reducible assumption | with_reducible refine Below.drew ?_ | with_reducible refine below_alloc ?_ _))))).mono ?_; rintro e w' ⟨A7, c7, l7, m7, rfl, hf7, hb7⟩; have hf5 := WholeF.below (WholeF.below hf5 (by (repeat (first | with_reducible exact Below.refl _ _ | with_reducible assumption | with_reducible refine Below.drew ?_ | with_reducible refine below_alloc ?_ _)))) hb7; have hbw := below_step (w := W0) (by (repeat (first | with_reducible exact Below.refl _ _ | with_reducible assumption | with_reducible refine Below.drew ?_ | with_reducible refine below_alloc ?_ _))) hb7; have hsw := hbw.size; obtain ⟨hc, hfz⟩ := bcell hbw) | (go_at_call_of 95 (Value.agg #[.slice A1 l1.length c1, .bool m1, .slice A2 l2.length c2, .bool m2]); refine ((unhide HD1) _ (below_step' hw0 (by (repeat (first | with_reducible exact Below.refl _ _ | with_reducible assumption | with_reducible refine Below.drew ?_ | with_reducible refine below_alloc ?_ _))))).mono ?_; rintro e w' ⟨A6, c6, l6, m6, rfl, hf6, hb6⟩; have hf5 := WholeF.below (WholeF.below hf5 (by (repeat (first | with_reducible exact Below.refl _ _ | with_reducible assumption | with_reducible refine Below.drew ?_ | with_reducible refine below_alloc ?_ _)))) hb6; have hf7 := WholeF.below (WholeF.below hf7 (by (repeat (first | with_reducible exact Below.refl _ _ | with_reducible assumption | with_reducible refine Below.drew ?_ | with_reducible refine below_alloc ?_ _)))) hb6; have hbw := below_step (w := W0) (by (repeat (first | with_reducible exact Below.refl _ _ | with_reducible assumption | with_reducible refine Below.drew ?_ | with_reducible refine below_alloc ?_ _))) hb6; have hsw := hbw.size; obtain ⟨hc, hfz⟩ := bcell hbw) | (go_at_call_of 98 (Value.agg #[.slice A6 l6.length c6, .bool m6]); refine ((unhide HM) A6 c6 l6 m6 A3 c3 l3 m3 _ (below_step' hw0 (by (repeat (first | with_reducible exact Below.refl _ _ | with_reducible assumption | with_reducible refine Below.drew ?_ | with_reducible refine below_alloc ?_ _)))) (WholeF.below hf6 (by (repeat (first | with_reducible exact Below.refl _ _ | with_reducible assumption | with_reducible refine Below.drew ?_ | with_reducible refine below_alloc ?_ _)))) (WholeF.below (unhide H3) (by (repeat (first | with_reducible exact Below.refl _ _ | with_reducible assumption | with_reducible refine Below.drew ?_ | with_reducible refine below_alloc ?_ _))))).mono ?_; rintro e w' ⟨A8, c8, l8, m8, rfl, hf8, hb8⟩; have hf5 := WholeF.below (WholeF.below hf5 (by (repeat (first | with_reducible exact Below.refl _ _ | with_reducible assumption | with_reducible refine Below.drew ?_ | with_reducible refine below_alloc ?_ _)))) hb8; have hf7 := WholeF.below (WholeF.below hf7 (by (repeat (first | with_reducible exact Below.refl _ _ | with_reducible assumption | with_reducible refine Below.drew ?_ | with_reducible refine below_alloc ?_ _)))) hb8; have hf6 := WholeF.below (WholeF.below hf6 (by (repeat (first | with_reducible exact Below.refl _ _ | with_reducible assumption | with_reducible refine Below.drew ?_ | with_reducible refine below_alloc ?_ _)))) hb8; have hbw := below_step (w := W0) (by (repeat (first | with_reducible exact Below.refl _ _ | with_reducible assumption | with_reducible refine Below.drew ?_ | with_reducible refine below_alloc ?_ _))) hb8; have hsw := hbw.size; obtain ⟨hc, hfz⟩ := bcell hbw) | (go_at_call_of 92 (Value.agg #[.slice A7 l7.length c7, .bool m7]); refine ((unhide HR) A7 c7 l7 m7 A8 c8 l8 m8 _ (below_step' hw0 (by (repeat (first | with_reducible exact Below.refl _ _ | with_reducible assumption | with_reducible refine Below.drew ?_ | with_reducible refine below_alloc ?_ _)))) (WholeF.below hf7 (by (repeat (first | with_reducible exact Below.refl _ _ | with_reducible assumption | with_reducible refine Below.drew ?_ | with_reducible refine below_alloc ?_ _)))) (WholeF.below hf8 (by (repeat (first | with_reducible exact Below.refl _ _ | with_reducible assumption | with_reducible refine Below.drew ?_ | with_reducible refine below_alloc ?_ _))))).mono ?_; rintro e w' ⟨A9, c9, l9, m9, A10, c10, l10, m10, rfl, hf9, hf10, hb9⟩; have hf5 := WholeF.below (WholeF.below hf5 (by (repeat (first | with_reducible exact Below.refl _ _ | with_reducible assumption | with_reducible refine Below.drew ?_ | with_reducible refine below_alloc ?_ _)))) hb9; have hf7 := WholeF.below (WholeF.below hf7 (by (repeat (first | with_reducible exact Below.refl _ _ | with_reducible assumption | with_reducible refine Below.drew ?_ | with_reducible refine below_alloc ?_ _)))) hb9; have hf6 := WholeF.below (WholeF.below hf6 (by (repeat (first | with_reducible exact Below.refl _ _ | with_reducible assumption | with_reducible refine Below.drew ?_ | with_reducible refine below_alloc ?_ _)))) hb9; have hf8 := WholeF.below (WholeF.below hf8 (by (repeat (first | with_reducible exact Below.refl _ _ | with_reducible assumption | with_reducible refine Below.drew ?_ | with_reducible refine below_alloc ?_ _)))) hb9; have hbw := below_step (w := W0) (by (repeat (first | with_reducible exact Below.refl _ _ | with_reducible assumption | with_reducible refine Below.drew ?_ | with_reducible refine below_alloc ?_ _))) hb9; have hsw := hbw.size; obtain ⟨hc, hfz⟩ := bcell hbw))
  all_goals
    have hblk : w'.heap[w.heap.size + 1 + 1]? = some (.cells #[.slice none 0 0, .bool false, .slice none 0 0, .bool false] 52 (0, 0)) := (hbw.block _ q2).trans NR.out
    have HBLK := Lib.hid hblk
    have hb9 : Below w.heap.size w w' := below_step' hw0 hbw
    have hfi := (hf9)
    have hfj := (hf10)
    clear hblk
    go_wp2_with fail
    exact bodyPost_ret (v := (Value.agg #[.slice A9 l9.length c9, .bool m9, .slice A10 l10.length c10, .bool m10])) (by simp [results, Tryz.results47, go_sem, hc, k2_0, k2_1, k2_2, k2_3, q2]) rfl
      ⟨A9, c9, l9, m9, A10, c10, l10, m10, rfl, hfi.upto HBLK.out (noW2_4 _ _ _ _ _ _ _ _) (set4_grown _ _ _ _ _ _), hfj.upto HBLK.out (noW2_4 _ _ _ _ _ _ _ _) (set4_grown _ _ _ _ _ _), hb9.grown (set4_grown _ _ _ _ _ _) hb9.size (fun k hk => by injection hk with hk; omega)⟩

end Go.Proofs.YtpjgoogeokbaaaaGreatDoor
/- The reference's numbers: what their products and quotients are. -/
namespace Go.Proofs.YtpjgoogeokbaaaaGreatDoor
open Go.RowKit

theorem tqmul_any (K : Nat) (A1 : Option Addr) (c1 : Nat) (l1 : List Nat) (m1 : Bool) (A2 : Option Addr) (c2 : Nat) (l2 : List Nat) (m2 : Bool) (A3 : Option Addr) (c3 : Nat) (l3 : List Nat) (m3 : Bool) (A4 : Option Addr) (c4 : Nat) (l4 : List Nat) (m4 : Bool) (x y : Rat) (w : World) (h1 : QV w A1 c1 l1 m1 A2 c2 l2 m2 x) (h2 : QV w A3 c3 l3 m3 A4 c4 l4 m4 y) (sx : Wd.SzQ B32 K x) (sy : Wd.SzQ B32 K y) (hK : 4 * K + 4 ≤ 35184372088832) :
    Calls Tryz.prog 45 #[.agg #[.slice A1 l1.length c1, .bool m1, .slice A2 l2.length c2, .bool m2], .agg #[.slice A3 l3.length c3, .bool m3, .slice A4 l4.length c4, .bool m4]] w fun e w' => QR w (x * y) e w' := by
  have hd1 := fun W (hW : Below w.heap.size w W) => tdenv_any A1 c1 l1 m1 A2 c2 l2 m2 x W (h1.below hW)
  have hd3 := fun W (hW : Below w.heap.size w W) => tdenv_any A3 c3 l3 m3 A4 c4 l4 m4 y W (h2.below hW)
  have hx := x.den_nz; have hy := y.den_nz
  have an := ow_mul (w := w) sx.1 sy.1 (by omega) rfl
  have am := ow_mul (w := w) sx.2 sy.2 (by omega) rfl
  have ar := oq_ratio (w := w) (sx.1.mul sy.1) (sx.2.mul sy.2) (Int.mul_ne_zero (by omega) (by omega)) (by omega) (Wd.mul_q x y)
  by_cases e1 : (x.den : Int) = 1
  · by_cases e2 : (y.den : Int) = 1
    · exact qmul_tt A1 c1 l1 m1 A2 c2 l2 m2 A3 c3 l3 m3 A4 c4 l4 m4 x.num (x.den : Int) y.num (y.den : Int) _ (x * y) w h1.num h2.num hd1 hd3 (o_one (decide_eq_true e1).symm) (o_one (decide_eq_true e2).symm) an (Wd.mul_i e1 e2).1 (Wd.mul_i e1 e2).2
    · exact qmul_tf A1 c1 l1 m1 A2 c2 l2 m2 A3 c3 l3 m3 A4 c4 l4 m4 x.num (x.den : Int) y.num (y.den : Int) _ _ (x * y) w h1.num h2.num hd1 hd3 (o_one (decide_eq_true e1).symm) (o_one (decide_eq_false e2).symm) an am ar
  · exact qmul_f A1 c1 l1 m1 A2 c2 l2 m2 A3 c3 l3 m3 A4 c4 l4 m4 x.num (x.den : Int) y.num (y.den : Int) _ _ (x * y) w h1.num h2.num hd1 hd3 (o_one (decide_eq_false e1).symm) an am ar
theorem tqdiv_any (K : Nat) (A1 : Option Addr) (c1 : Nat) (l1 : List Nat) (m1 : Bool) (A2 : Option Addr) (c2 : Nat) (l2 : List Nat) (m2 : Bool) (A3 : Option Addr) (c3 : Nat) (l3 : List Nat) (m3 : Bool) (A4 : Option Addr) (c4 : Nat) (l4 : List Nat) (m4 : Bool) (x y : Rat) (w : World) (h1 : QV w A1 c1 l1 m1 A2 c2 l2 m2 x) (h2 : QV w A3 c3 l3 m3 A4 c4 l4 m4 y) (sx : Wd.SzQ B32 K x) (sy : Wd.SzQ B32 K y) (hK : 4 * K + 4 ≤ 35184372088832) (h0 : y.num ≠ 0) :
    Calls Tryz.prog 47 #[.agg #[.slice A1 l1.length c1, .bool m1, .slice A2 l2.length c2, .bool m2], .agg #[.slice A3 l3.length c3, .bool m3, .slice A4 l4.length c4, .bool m4]] w fun e w' => QR w (x / y) e w' := by
  have hx := x.den_nz
  exact qdiv_walk A1 c1 l1 m1 A2 c2 l2 m2 A3 c3 l3 m3 A4 c4 l4 m4 x.num (x.den : Int) y.num (y.den : Int) _ _ x (x / y) w h1.num h2.num
    (fun W hW => tdenv_any A1 c1 l1 m1 A2 c2 l2 m2 x W (h1.below hW)) (fun W hW => tdenv_any A3 c3 l3 m3 A4 c4 l4 m4 y W (h2.below hW))
    (ow_mul sx.1 sy.2 (by omega) rfl) (ow_mul sx.2 sy.1 (by omega) rfl) (oq_ratio (sx.1.mul sy.2) (sx.2.mul sy.1) (Int.mul_ne_zero (by omega) h0) (by omega) (Wd.div_q x y))
end Go.Proofs.YtpjgoogeokbaaaaGreatDoor
/- The reference: signs of numbers. -/
namespace Go.Proofs.YtpjgoogeokbaaaaGreatDoor
open Go.RowKit

end Go.Proofs.YtpjgoogeokbaaaaGreatDoor
/- The reference: integers as numbers. -/
namespace Go.Proofs.YtpjgoogeokbaaaaGreatDoor
open Go.RowKit

set_option maxRecDepth 100000 in
set_option maxHeartbeats 2000000 in
theorem tInt_any (n : Int) (q : Rat) (w : World) (b1 : -9223372036854775808 ≤ n) (b2 : n ≤ 9223372036854775807) (hn : n = q.num) (hd : (1 : Int) = (q.den : Int)) :
    Calls Tryz.prog 72 #[.int .i64 n] w fun e w' => QR w q e w' := by
  have HO1 := hide (fun W => (tofInt_any n W b1 b2).mono (fun e w' h => h.1))
  have HO2 := hide tone_any
  have HN := Lib.hid hn; have HD := Lib.hid hd
  clear b1 b2 hn hd
  go_enter Tryz.func72, Tryz.ntmps72
  go_wp2_with fail
  obtain ⟨n0, hsz, hw0⟩ := one_new w (.cells #[.slice none 0 0, .bool false, .slice none 0 0, .bool false] 52)
  generalize (w.alloc (.cells #[.slice none 0 0, .bool false, .slice none 0 0, .bool false] 52)) = W0 at *
  have p0 : W0.cell? ⟨w.heap.size, 0, none⟩ = some (.slice none 0 0) := cells_of n0 0
  have p1 : W0.cell? ⟨w.heap.size, 1, none⟩ = some (.bool false) := cells_of n0 1
  have p2 : W0.cell? ⟨w.heap.size, 2, none⟩ = some (.slice none 0 0) := cells_of n0 2
  have p3 : W0.cell? ⟨w.heap.size, 3, none⟩ = some (.bool false) := cells_of n0 3
  have v0 := unfrozen_of n0 0; have v1 := unfrozen_of n0 1; have v2 := unfrozen_of n0 2; have v3 := unfrozen_of n0 3
  have q0 := lt_of_block n0
  have NR := Lib.hid n0
  clear n0 hsz
  refine ((unhide HO1) _).mono ?_
  rintro e W1 ⟨A1, c1, l1, m1, rfl, f1, hb1⟩
  have F1 := hide f1; have HB1 := hide hb1
  clear f1 hb1
  go_wp2_with fail
  refine ((unhide HO2) _).mono ?_
  rintro e W2 ⟨A2, c2, l2, m2, rfl, f2, hb2⟩
  have F1' := hide ((unhide F1).below hb2)
  have hb2' := below_step' (unhide HB1) hb2
  obtain ⟨hc, hfz⟩ := bcell hb2'
  have hblk := (hb2'.block _ q0).trans NR.out
  have HBLK := Lib.hid hblk
  have F2 := hide f2; have hb9 := below_step' hw0 hb2'
  have HB9 := hide hb9
  clear f2 hb2 hb2' hblk hb9
  go_wp2_with fail
  exact bodyPost_ret (v := .agg #[.slice A1 l1.length c1, .bool m1, .slice A2 l2.length c2, .bool m2]) (by simp [results, Tryz.results72, go_sem, hc, p0, p1, p2, p3, q0]) rfl
    ⟨A1, c1, l1, m1, A2, c2, l2, m2, rfl, HN.out ▸ (unhide F1').upto HBLK.out (noW2_4 _ _ _ _ _ _ _ _) (set4_grown _ _ _ _ _ _), HD.out ▸ (unhide F2).upto HBLK.out (noW2_4 _ _ _ _ _ _ _ _) (set4_grown _ _ _ _ _ _), (unhide HB9).grown (set4_grown _ _ _ _ _ _) (unhide HB9).size (fun k hk => by injection hk with hk; omega)⟩

end Go.Proofs.YtpjgoogeokbaaaaGreatDoor
/- Slices of ints that came in. -/
namespace Go.Proofs.YtpjgoogeokbaaaaGreatDoor
open Go.RowKit

/-- The ints of a slice that came in. -/
def gi (l : List Int) (i : Nat) : Int := l.getD i 0
def Zs (w : World) (B : Nat) (A : Option Addr) (l : List Int) : Prop := 0 < l.length → ∃ b off, A = some ⟨b, off, none⟩ ∧ b < B ∧ ∀ j, j < l.length → w.cell? ⟨b, off + j, none⟩ = some (.int .i64 (gi l j))
theorem Zs.below {w w' : World} {A : Option Addr} {l : List Int} (h : Zs w w.heap.size A l) (hb : Below w.heap.size w w') : Zs w' w'.heap.size A l := fun hl => by
  obtain ⟨b, off, rfl, h1, h2⟩ := h hl
  exact ⟨b, off, rfl, Nat.lt_of_lt_of_le h1 hb.size, fun j hj => (hb.cell (p := ⟨b, off + j, none⟩) h1).trans (h2 j hj)⟩

end Go.Proofs.YtpjgoogeokbaaaaGreatDoor
/- The simplest number between two: on natural numbers. -/
namespace Go.Proofs.YtpjgoogeokbaaaaGreatDoor
namespace Wd

/-- Numerator and denominator of the simplest number from a/b to c/d. -/
def simp : Nat → Nat → Nat → Nat → Nat → Nat × Nat
  | 0, _, _, _, _ => (0, 1)
  | f + 1, a, b, c, d => if b = 1 then (a, 1) else if a / b < c / d then (a / b + 1, 1)
    else (a / b * (simp f d (c - a / b * d) b (a - a / b * b)).1 + (simp f d (c - a / b * d) b (a - a / b * b)).2, (simp f d (c - a / b * d) b (a - a / b * b)).1)

structure SimpOk (a b c d : Nat) : Prop where
  pa : 0 < a
  pb : 0 < b
  pc : 0 < c
  pd : 0 < d
  co : a.Coprime b
  co2 : c.Coprime d
  le : a * d ≤ c * b

theorem sub_div_mul (a b : Nat) : a - a / b * b = a % b := by
  have := Nat.div_add_mod a b
  rw [Nat.mul_comm] at this
  omega
theorem SimpOk.step {a b c d : Nat} (h : SimpOk a b c d) (hb : b ≠ 1) (hk : ¬ a / b < c / d) :
    SimpOk d (c - a / b * d) b (a - a / b * b) ∧ c / d = a / b ∧ c - a / b * d = c % d ∧ c - a / b * d < d ∧ a - a / b * b < b := by
  have ha := h.pa; have hb0 := h.pb; have hc := h.pc; have hd := h.pd
  have e1 := Nat.div_add_mod a b
  have r0 : a % b ≠ 0 := fun e => by
    have hdv := Nat.dvd_of_mod_eq_zero e
    have := Nat.Coprime.eq_one_of_dvd h.co.symm hdv
    exact hb this
  have hkd : a / b ≤ c / d := by
    rw [Nat.le_div_iff_mul_le hd]
    have h2 : a / b * b * d ≤ c * b := Nat.le_trans (Nat.mul_le_mul_right _ (Nat.div_mul_le_self a b)) h.le
    rw [Nat.mul_right_comm] at h2
    exact Nat.le_of_mul_le_mul_right h2 hb0
  have hq : c / d = a / b := by omega
  have e2 : c - a / b * d = c % d := by rw [← hq]; exact sub_div_mul c d
  have e3 := sub_div_mul a b
  have e4 := Nat.div_add_mod c d
  have hle : a % b * d ≤ c % d * b := by
    have hle := h.le
    rw [hq] at e4
    generalize a / b = k at *
    generalize a % b = r at *
    generalize c % d = s at *
    subst e1 e4
    rw [Nat.add_mul, Nat.add_mul] at hle
    have : b * k * d = d * k * b := by rw [Nat.mul_comm b k, Nat.mul_assoc, Nat.mul_comm b d, ← Nat.mul_assoc, Nat.mul_comm k d]
    omega
  have s0 : 0 < c % d := by
    rcases Nat.eq_zero_or_pos (c % d) with e | e
    · rw [e, Nat.zero_mul] at hle
      have := Nat.mul_pos (Nat.pos_of_ne_zero r0) hd
      omega
    · exact e
  rw [e2, e3]
  refine ⟨⟨hd, s0, hb0, Nat.pos_of_ne_zero r0, ?_, ?_, ?_⟩, hq, rfl, Nat.mod_lt _ hd, Nat.mod_lt _ hb0⟩
  · have := h.co2
    unfold Nat.Coprime at *
    rw [Nat.gcd_comm, ← Nat.gcd_rec, Nat.gcd_comm]; exact this
  · have := h.co
    unfold Nat.Coprime at *
    rw [Nat.gcd_comm, ← Nat.gcd_rec, Nat.gcd_comm]; exact this
  · rw [Nat.mul_comm, Nat.mul_comm b]; exact hle
/-- A fraction of natural numbers. -/
def fr (n d : Nat) : Rat := Rat.divInt (n : Int) (d : Int)
end Wd
end Go.Proofs.YtpjgoogeokbaaaaGreatDoor
/- Continued fractions, on ints. -/
namespace Go.Proofs.YtpjgoogeokbaaaaGreatDoor
namespace Wd

/-- The continued fraction of n/d. -/
def cf : Nat → Int → Int → List Int
  | 0, _, _ => []
  | f + 1, n, d => if d = 0 then [] else n / d :: cf f d (n % d)
theorem cf_len : ∀ (f : Nat) (n d : Int), (cf f n d).length ≤ f
  | 0, _, _ => Nat.le_refl _
  | f + 1, n, d => by
    unfold cf
    split
    · exact Nat.zero_le _
    · have := cf_len f d (n % d)
      rw [List.length_cons]; omega
theorem cf_zero (f : Nat) (n : Int) : cf f n 0 = [] := by
  cases f with
  | zero => rfl
  | succ f => simp [cf]
/-- Ahead of a round: what has been told and what is left. -/
structure CfInv (L l : List Int) (n d : Int) : Prop where
  ok : ∃ f : Nat, d < f ∧ l ++ cf f n d = L ∧ L.length ≤ l.length + f
  d0 : 0 ≤ d
  nb : -1000000000000 ≤ n ∧ n ≤ 1000000000000
  db : d ≤ 1000000000000
theorem CfInv.start {n d : Int} (h : okR n d) : CfInv (cf (d.toNat + 1) n d) [] n d := by
  obtain ⟨h1, h2, h3, h4, _⟩ := h
  exact ⟨⟨d.toNat + 1, by omega, rfl, by have := cf_len (d.toNat + 1) n d; simpa using this⟩, by omega, ⟨by omega, by omega⟩, by omega⟩
theorem CfInv.step {L l : List Int} {n d : Int} (h : CfInv L l n d) (hd : 0 < d) : CfInv L (l ++ [n / d]) d (n % d) ∧ n - n / d * d = n % d ∧ -1000000000000 ≤ n / d ∧ n / d ≤ 1000000000000 ∧ -2000000000000 ≤ n / d * d ∧ n / d * d ≤ 2000000000000 := by
  obtain ⟨⟨f, h1, h2, h3⟩, h4, h5, h6⟩ := h
  have e1 := Int.emod_nonneg n (show d ≠ 0 by omega)
  have e2 := Int.emod_lt_of_pos n hd
  have e3 := Int.mul_ediv_add_emod n d
  rw [Int.mul_comm] at e3
  have lo : -1000000000000 ≤ n / d := by
    rw [Int.le_ediv_iff_mul_le hd]
    omega
  have hi : n / d ≤ 1000000000000 := by
    rcases Int.lt_or_le n 0 with hn | hn
    · have : n / d < 0 := Int.ediv_neg_of_neg_of_pos hn hd
      omega
    · have := Int.ediv_le_self d hn
      omega
  have e4 : n - n / d * d = n % d ∧ -2000000000000 ≤ n / d * d ∧ n / d * d ≤ 2000000000000 := by
    generalize n / d * d = t at *
    generalize n % d = r at *
    exact ⟨by omega, by omega, by omega⟩
  refine ⟨⟨?_, e1, by omega, by omega⟩, e4.1, lo, hi, e4.2.1, e4.2.2⟩
  cases f with
  | zero => omega
  | succ f =>
    refine ⟨f, by omega, ?_, by simp; omega⟩
    rw [← h2]
    simp only [cf, if_neg (show ¬ d = 0 by omega), List.append_assoc, List.cons_append, List.nil_append]
theorem CfInv.done {L l : List Int} {n : Int} (h : CfInv L l n 0) : l = L := by
  obtain ⟨⟨f, h1, h2, h3⟩, _, _, _⟩ := h
  rw [cf_zero, List.append_nil] at h2
  exact h2
theorem CfInv.len {L l : List Int} {n d : Int} (h : CfInv L l n d) (hL : L.length ≤ 1000000000001) : l.length ≤ 1000000000001 := by
  obtain ⟨⟨f, h1, h2, h3⟩, _, _, _⟩ := h
  rw [← h2, List.length_append] at hL
  omega
end Wd
end Go.Proofs.YtpjgoogeokbaaaaGreatDoor
/- The number of a continued fraction. -/
namespace Go.Proofs.YtpjgoogeokbaaaaGreatDoor
namespace Wd

theorem one_parts (a : Int) : (Rat.divInt a 1).num = a ∧ ((Rat.divInt a 1).den : Int) = 1 := by
  have h : Rat.divInt a 1 = (a : Rat) := by
    rw [← Rat.num_divInt_den (a : Rat)]; rfl
  rw [h]
  exact ⟨rfl, rfl⟩
/-- Which lists are continued fractions. -/
def JoinOk (l : List Int) : Prop := 0 < l.length ∧ (∀ i, i < l.length → 1 ≤ i → 1 ≤ l.getD i 0) ∧ (l.length = 1 ∨ l.getD (l.length - 1) 0 ≠ 1)
instance (l : List Int) : Decidable (JoinOk l) := by unfold JoinOk; infer_instance
end Wd
end Go.Proofs.YtpjgoogeokbaaaaGreatDoor
/- The reference: the greatest integer below a quotient of whole numbers. -/
namespace Go.Proofs.YtpjgoogeokbaaaaGreatDoor
open Go.RowKit

end Go.Proofs.YtpjgoogeokbaaaaGreatDoor
/- The reference: the integer below and above a number, and one divided by it. -/
namespace Go.Proofs.YtpjgoogeokbaaaaGreatDoor
open Go.RowKit

end Go.Proofs.YtpjgoogeokbaaaaGreatDoor
/- The reference: the quotient of two ints. -/
namespace Go.Proofs.YtpjgoogeokbaaaaGreatDoor
open Go.RowKit

end Go.Proofs.YtpjgoogeokbaaaaGreatDoor
/- The reference: numbers as they are told. -/
namespace Go.Proofs.YtpjgoogeokbaaaaGreatDoor
open Go.RowKit

/-- A number as it is returned, and whether it is one. -/
def RatP (w : World) (q : Rat) (e : Ending) (w' : World) : Prop := ∃ (n d : Int) (ok : Bool), e = .returned (.tuple #[.agg #[.int .i64 n, .int .i64 d], .bool ok]) ∧ Below w.heap.size w w' ∧ ((ok = true ∧ Wd.told q = ⟨n, d, 0⟩) ∨ (ok = false ∧ Wd.told q = ⟨0, 0, 3⟩))

end Go.Proofs.YtpjgoogeokbaaaaGreatDoor
/- The reference: what is told; the number of two ints. -/
namespace Go.Proofs.YtpjgoogeokbaaaaGreatDoor
open Go.RowKit

end Go.Proofs.YtpjgoogeokbaaaaGreatDoor
/- Blocks that hold numbers of the reference; whether one is nought. -/
namespace Go.Proofs.YtpjgoogeokbaaaaGreatDoor
open Go.RowKit

/-- Block b is new beside Wp and has room for a number of the reference. -/
structure FrQ (Wp W : World) (b : Nat) : Prop where
  old : Wp.heap.size ≤ b
  zero : W.heap[b]? = some (.cells #[.slice none 0 0, .bool false, .slice none 0 0, .bool false] 52 (0, 0))
theorem FrQ.lt {Wp W : World} {b : Nat} (h : FrQ Wp W b) : b < W.heap.size := lt_of_block h.zero
theorem FrQ.drew {Wp W : World} {b : Nat} (h : FrQ Wp W b) : FrQ Wp W.drew b := ⟨h.old, h.zero⟩
theorem FrQ.below {Wp W w' : World} {b : Nat} (h : FrQ Wp W b) (hb : Below W.heap.size W w') : FrQ Wp w' b := ⟨h.old, (hb.block _ h.lt).trans h.zero⟩
theorem FrQ.new {Wp W : World} {b : Nat} (hb : Below Wp.heap.size Wp W) (e : b = W.heap.size) : FrQ Wp (W.alloc (.cells #[.slice none 0 0, .bool false, .slice none 0 0, .bool false] 52 (0, 0))) b := by
  subst e; exact ⟨hb.size, heap_alloc_new W _⟩
theorem FrQ.alloc {Wp W : World} {b : Nat} {o : Obj} (h : FrQ Wp W b) : FrQ Wp (W.alloc o) b := ⟨h.old, (Below.heap_alloc W _ b h.lt).trans h.zero⟩
structure FrQ2 (Wp W : World) (b c : Nat) : Prop where
  one : FrQ Wp W b
  two : FrQ Wp W c
  ne : b ≠ c
theorem FrQ2.newR {Wp W : World} {b c : Nat} (h : FrQ Wp W b) (e : c = W.heap.size) : FrQ2 Wp (W.alloc (.cells #[.slice none 0 0, .bool false, .slice none 0 0, .bool false] 52 (0, 0))) b c := by
  have hl := h.lt
  have ho := h.old
  subst e
  exact ⟨h.alloc, ⟨by omega, heap_alloc_new W _⟩, by omega⟩
theorem FrQ2.newL {Wp W : World} {b c : Nat} (h : FrQ Wp W c) (e : b = W.heap.size) : FrQ2 Wp (W.alloc (.cells #[.slice none 0 0, .bool false, .slice none 0 0, .bool false] 52 (0, 0))) b c := by
  have hl := h.lt
  have ho := h.old
  subst e
  exact ⟨⟨by omega, heap_alloc_new W _⟩, h.alloc, by omega⟩
theorem QV.upto {w w' : World} {g : Nat} {A1a : Option Addr} {c1a : Nat} {l1a : List Nat} {m1a : Bool} {A1b : Option Addr} {c1b : Nat} {l1b : List Nat} {m1b : Bool} {x1 : Rat} {T : TypeId} {cs : Array Value} (h : QV w A1a c1a l1a m1a A1b c1b l1b m1b x1) (hg : w.heap[g]? = some (.cells cs T (0, 0))) (hn : NoW2 cs) (hgr : w.grownBy w' (some g)) : QV w' A1a c1a l1a m1a A1b c1b l1b m1b x1 := by
  obtain ⟨d, h2, h3⟩ := h.den
  exact ⟨h.num.upto hg hn hgr, d, h2.upto hg hn hgr, h3⟩
theorem QV.alloc {W : World} {o : Obj} {A1a : Option Addr} {c1a : Nat} {l1a : List Nat} {m1a : Bool} {A1b : Option Addr} {c1b : Nat} {l1b : List Nat} {m1b : Bool} {x1 : Rat} (h1 : QV W A1a c1a l1a m1a A1b c1b l1b m1b x1) : QV (W.alloc o) A1a c1a l1a m1a A1b c1b l1b m1b x1 := h1.below ((Below.refl _ _).alloc (Nat.le_refl _) _)
/-- Block b holds a number. -/
def BoxQ (w : World) (b : Nat) (x : Rat) : Prop := ∃ A c l m A' c' l' m', w.heap[b]? = some (.cells #[.slice A (List.length l) c, .bool m, .slice A' (List.length l') c', .bool m'] 52 (0, 0)) ∧ QV w A c l m A' c' l' m' x
theorem BoxQ.below {w w' : World} {b : Nat} {x : Rat} (h : BoxQ w b x) (hb : Below w.heap.size w w') : BoxQ w' b x := by
  obtain ⟨A, c, l, m, A', c', l', m', h1, h2⟩ := h
  exact ⟨A, c, l, m, A', c', l', m', (hb.block _ (lt_of_block h1)).trans h1, h2.below hb⟩
theorem BoxQ.new {W : World} {b : Nat} {A1a : Option Addr} {c1a : Nat} {l1a : List Nat} {m1a : Bool} {A1b : Option Addr} {c1b : Nat} {l1b : List Nat} {m1b : Bool} {x1 : Rat} (h1 : QV W A1a c1a l1a m1a A1b c1b l1b m1b x1) (e : b = W.heap.size) : BoxQ (W.alloc (.cells #[.slice A1a l1a.length c1a, .bool m1a, .slice A1b l1b.length c1b, .bool m1b] 52)) b x1 := by
  subst e; exact ⟨_, _, _, _, _, _, _, _, heap_alloc_new W _, h1.alloc⟩
theorem BoxQ.alloc {W : World} {b : Nat} {x : Rat} {o : Obj} (h : BoxQ W b x) : BoxQ (W.alloc o) b x := h.below ((Below.refl _ _).alloc (Nat.le_refl _) _)
theorem FrQ.facts {Wp W : World} {b : Nat} (h : FrQ Wp W b) : (W.cell? ⟨b, 0, none⟩ = some (.slice none 0 0) ∧ W.cell? ⟨b, 1, none⟩ = some (.bool false) ∧ W.cell? ⟨b, 2, none⟩ = some (.slice none 0 0) ∧ W.cell? ⟨b, 3, none⟩ = some (.bool false)) ∧
    (W.frozen? ⟨b, 0, none⟩ = false ∧ W.frozen? ⟨b, 1, none⟩ = false ∧ W.frozen? ⟨b, 2, none⟩ = false ∧ W.frozen? ⟨b, 3, none⟩ = false) ∧
    ((∀ o, (W.alloc o).cell? ⟨b, 0, none⟩ = some (.slice none 0 0)) ∧ (∀ o, (W.alloc o).cell? ⟨b, 1, none⟩ = some (.bool false)) ∧ (∀ o, (W.alloc o).cell? ⟨b, 2, none⟩ = some (.slice none 0 0)) ∧ (∀ o, (W.alloc o).cell? ⟨b, 3, none⟩ = some (.bool false))) ∧
    ((∀ o, (W.alloc o).frozen? ⟨b, 0, none⟩ = false) ∧ (∀ o, (W.alloc o).frozen? ⟨b, 1, none⟩ = false) ∧ (∀ o, (W.alloc o).frozen? ⟨b, 2, none⟩ = false) ∧ (∀ o, (W.alloc o).frozen? ⟨b, 3, none⟩ = false)) ∧
    ¬ (b = W.heap.size) ∧ ¬ (W.heap.size = b) :=
  ⟨⟨cells_of h.zero 0, cells_of h.zero 1, cells_of h.zero 2, cells_of h.zero 3⟩, ⟨unfrozen_of h.zero 0, unfrozen_of h.zero 1, unfrozen_of h.zero 2, unfrozen_of h.zero 3⟩,
   ⟨fun o => cells_of (h.alloc (o := o)).zero 0, fun o => cells_of (h.alloc (o := o)).zero 1, fun o => cells_of (h.alloc (o := o)).zero 2, fun o => cells_of (h.alloc (o := o)).zero 3⟩,
   ⟨fun o => unfrozen_of (h.alloc (o := o)).zero 0, fun o => unfrozen_of (h.alloc (o := o)).zero 1, fun o => unfrozen_of (h.alloc (o := o)).zero 2, fun o => unfrozen_of (h.alloc (o := o)).zero 3⟩, by have := h.lt; omega, by have := h.lt; omega⟩
theorem set4_block {W : World} {b : Nat} {a0 a1 a2 a3 u0 u1 u2 u3 : Value} {T : TypeId} (h : W.heap[b]? = some (.cells #[a0, a1, a2, a3] T (0, 0))) : ((((W.setCell ⟨b, 0, none⟩ u0).setCell ⟨b, 1, none⟩ u1).setCell ⟨b, 2, none⟩ u2).setCell ⟨b, 3, none⟩ u3).heap[b]? = some (.cells #[u0, u1, u2, u3] T (0, 0)) := by
  simp [World.setCell, Array.getElem?_modify, h]
set_option maxRecDepth 100000 in
set_option maxHeartbeats 1000000 in
theorem tqzero_any (A1 : Option Addr) (c1 : Nat) (l1 : List Nat) (m1 : Bool) (A2 : Option Addr) (c2 : Nat) (l2 : List Nat) (m2 : Bool) (q : Rat) (w : World) (h : QV w A1 c1 l1 m1 A2 c2 l2 m2 q) :
    Calls Tryz.prog 46 #[(Value.agg #[.slice A1 l1.length c1, .bool m1, .slice A2 l2.length c2, .bool m2])] w fun e w' => e = .returned (.bool (decide (q.num = 0))) ∧ Below w.heap.size w w' := by
  have hd : decide (q.num = 0) = decide (l1.length = 0) := decide_eq_decide.2 (by rw [← h.num.nat.zero_iff]; omega)
  rw [hd]
  have HI := hide (fun W => tisn_any A1 c1 l1.length m1 W)
  obtain ⟨o, ho⟩ : ∃ o, o = decide (l1.length = 0) := ⟨_, rfl⟩
  rw [← ho] at HI ⊢
  clear h hd ho
  go_enter Tryz.func46, Tryz.ntmps46
  go_wp2_with fail
  refine ((unhide HI) _).mono ?_
  rintro e w' ⟨rfl, hb⟩
  have hb9 := below_step' ((Below.refl _ _).alloc (Nat.le_refl _) (.cells #[.slice A1 l1.length c1, .bool m1, .slice A2 l2.length c2, .bool m2] 52)) hb
  clear hb
  go_wp2_with fail
  all_goals first | go_ret | skip
  exact ⟨rfl, hb9⟩

end Go.Proofs.YtpjgoogeokbaaaaGreatDoor
/- The reference: numbers as they are told, nought without a denominator among them. -/
namespace Go.Proofs.YtpjgoogeokbaaaaGreatDoor
open Go.RowKit

set_option maxRecDepth 100000 in
set_option maxHeartbeats 2000000 in
theorem tRatv_any (A1 : Option Addr) (c1 : Nat) (l1 : List Nat) (m1 : Bool) (A2 : Option Addr) (c2 : Nat) (l2 : List Nat) (m2 : Bool) (q : Rat) (w : World) (h : QV w A1 c1 l1 m1 A2 c2 l2 m2 q) :
    Calls Tryz.prog 94 #[.agg #[.slice A1 l1.length c1, .bool m1, .slice A2 l2.length c2, .bool m2]] w fun e w' => RatP w q e w' := by
  have HS1 := hide (fun W (hW : Below w.heap.size w W) => tsmall_any A1 c1 l1 m1 q.num W (h.num.below hW))
  have HS2 := hide (fun A c l m W (f : WholeF W A c l m (q.den : Int)) => tsmall_any A c l m (q.den : Int) W f)
  have HD := hide (fun W (hW : Below w.heap.size w W) => tdenv_any A1 c1 l1 m1 A2 c2 l2 m2 q W (h.below hW))
  have ht : (Wd.fits q → Wd.told q = ⟨q.num, q.den, 0⟩) ∧ (¬ Wd.fits q → Wd.told q = ⟨0, 0, 3⟩) := ⟨fun h => if_pos h, fun h => if_neg h⟩
  have hfi : Wd.fits q ↔ q.num.natAbs ≤ 1000000000000 ∧ q.den ≤ 1000000000000 := Iff.rfl
  have HT := hide (And.intro ht hfi)
  clear h ht hfi
  go_enter Tryz.func94, Tryz.ntmps94
  go_wp2_with fail
  obtain ⟨n0, n1, hsz, hw0⟩ := two_new w (.cells #[.slice A1 l1.length c1, .bool m1, .slice A2 l2.length c2, .bool m2] 52) (.cells #[.int .i64 0, .int .i64 0] 23)
  generalize ((w.alloc (.cells #[.slice A1 l1.length c1, .bool m1, .slice A2 l2.length c2, .bool m2] 52)).alloc (.cells #[.int .i64 0, .int .i64 0] 23)) = W0 at *
  have k0 : W0.cell? ⟨w.heap.size, 0, none⟩ = some (.slice A1 l1.length c1) := cells_of n0 0
  have k1 : W0.cell? ⟨w.heap.size, 1, none⟩ = some (.bool m1) := cells_of n0 1
  have k2 : W0.cell? ⟨w.heap.size, 2, none⟩ = some (.slice A2 l2.length c2) := cells_of n0 2
  have k3 : W0.cell? ⟨w.heap.size, 3, none⟩ = some (.bool m2) := cells_of n0 3
  have p0 : W0.cell? ⟨w.heap.size + 1, 0, none⟩ = some (.int .i64 0) := cells_of n1 0
  have p1 : W0.cell? ⟨w.heap.size + 1, 1, none⟩ = some (.int .i64 0) := cells_of n1 1
  have v0 := unfrozen_of n1 0; have v1 := unfrozen_of n1 1
  have q0 := lt_of_block n0; have q1 := lt_of_block n1
  clear n0 n1 hsz
  refine ((unhide HS1) _ hw0).mono ?_
  rintro e W1 ⟨x1, ok1, rfl, hok1, hx1, hb1⟩
  obtain ⟨hc1, hf1⟩ := bcell hb1
  have hw1 := below_step' hw0 hb1
  have OK1 := Lib.hid hok1; have X1 := hide hx1; have HB1 := hide hb1; have HW1 := hide hw1
  clear hok1 hx1 hb1 hw1
  go_wp2_with fail
  refine ((unhide HD) _ (unhide HW1)).mono ?_
  rintro e W2 ⟨A9, c9, l9, m9, rfl, f9, hb2⟩
  have F9 := hide f9
  clear f9
  have hb2' := below_step' (unhide HB1) hb2
  obtain ⟨hc2, hf2⟩ := bcell hb2'
  have hw2 := below_step' hw0 hb2'
  have HB2 := hide hb2'; have HW2 := hide hw2
  clear hb2 hb2' hw2 hc1 hf1
  go_wp2_with fail
  refine ((unhide HS2) A9 c9 l9 m9 _ (unhide F9)).mono ?_
  rintro e W3 ⟨x2, ok2, rfl, hok2, hx2, hb3⟩
  have hb3' := below_step' (unhide HB2) hb3
  obtain ⟨hc3, hf3⟩ := bcell hb3'
  have hw3 := below_step' hw0 hb3'
  have OK2 := Lib.hid hok2; have X2 := hide hx2; have HW3 := hide hw3
  have hg9 : ∀ u0 u1 : Value, Below w.heap.size w ((W3.setCell ⟨w.heap.size + 1, 0, none⟩ u0).setCell ⟨w.heap.size + 1, 1, none⟩ u1) := fun u0 u1 => hw3.grown (set2_grown _ _ _ _) hw3.size (fun k hk => by injection hk with hk; omega)
  have HG9 := hide hg9
  clear hok2 hx2 hb3 hb3' hw3 hc2 hf2 hg9 HS1 HS2 HD HB1 HB2 HW1 HW2
  cases ok1 <;> cases ok2
  · have hn : ¬ Wd.fits q := fun h => by have := (unhide HT).2.1 h; have h2 := of_decide_eq_false OK1.out.symm; omega
    have HN := Lib.hid ((unhide HT).1.2 hn)
    clear hn
    go_wp2_with fail
    exact bodyPost_ret (v := .tuple #[.agg #[.int .i64 0, .int .i64 0], .bool false]) (by simp [results, Tryz.results94, go_sem, hc3, p0, p1, q1]) rfl ⟨0, 0, false, rfl, (unhide HG9) _ _, .inr ⟨rfl, HN.out⟩⟩
  · have hn : ¬ Wd.fits q := fun h => by have := (unhide HT).2.1 h; have h2 := of_decide_eq_false OK1.out.symm; omega
    have HN := Lib.hid ((unhide HT).1.2 hn)
    clear hn
    go_wp2_with fail
    exact bodyPost_ret (v := .tuple #[.agg #[.int .i64 0, .int .i64 0], .bool false]) (by simp [results, Tryz.results94, go_sem, hc3, p0, p1, q1]) rfl ⟨0, 0, false, rfl, (unhide HG9) _ _, .inr ⟨rfl, HN.out⟩⟩
  · have hn : ¬ Wd.fits q := fun h => by have := (unhide HT).2.1 h; have h2 := of_decide_eq_false OK2.out.symm; omega
    have HN := Lib.hid ((unhide HT).1.2 hn)
    clear hn
    go_wp2_with fail
    exact bodyPost_ret (v := .tuple #[.agg #[.int .i64 0, .int .i64 0], .bool false]) (by simp [results, Tryz.results94, go_sem, hc3, p0, p1, q1]) rfl ⟨0, 0, false, rfl, (unhide HG9) _ _, .inr ⟨rfl, HN.out⟩⟩
  · have e1 := (unhide X1) rfl
    have e2 := (unhide X2) rfl
    subst e1 e2
    by_cases hfit : Wd.fits q
    · have HN := Lib.hid ((unhide HT).1.1 hfit)
      obtain ⟨a1, a2⟩ := (unhide HT).2.1 hfit
      have d1 : decide (q.num < -1000000000000) = false := decide_eq_false (by omega)
      have d2 : decide (1000000000000 < q.num) = false := decide_eq_false (by omega)
      have d3 : decide ((1000000000000 : Int) < (q.den : Int)) = false := decide_eq_false (by omega)
      clear hfit
      go_wp2_with fail
      all_goals first | omega | skip
      exact bodyPost_ret (v := .tuple #[.agg #[.int .i64 q.num, .int .i64 q.den], .bool true]) (by simp [results, Tryz.results94, go_sem, hc3, p0, p1, q1]) rfl ⟨q.num, q.den, true, rfl, (unhide HG9) _ _, .inl ⟨rfl, HN.out⟩⟩
    · have HN := Lib.hid ((unhide HT).1.2 hfit)
      have hor : q.num < -1000000000000 ∨ 1000000000000 < q.num ∨ (1000000000000 : Int) < (q.den : Int) := by
        have h1 := (unhide HT).2.2
        by_cases a : q.num < -1000000000000
        · exact .inl a
        by_cases b : 1000000000000 < q.num
        · exact .inr (.inl b)
        by_cases c : (1000000000000 : Int) < (q.den : Int)
        · exact .inr (.inr c)
        exact absurd (h1 ⟨by omega, by omega⟩) hfit
      clear hfit
      go_wp2_with fail
      all_goals first | omega | skip
      all_goals exact bodyPost_ret (v := .tuple #[.agg #[.int .i64 0, .int .i64 0], .bool false]) (by simp [results, Tryz.results94, go_sem, hc3, p0, p1, q1]) rfl ⟨0, 0, false, rfl, (unhide HG9) _ _, .inr ⟨rfl, HN.out⟩⟩
end Go.Proofs.YtpjgoogeokbaaaaGreatDoor
/- The reference: what is told, of nought without a denominator, too. -/
namespace Go.Proofs.YtpjgoogeokbaaaaGreatDoor
open Go.RowKit

set_option maxRecDepth 100000 in
set_option maxHeartbeats 2000000 in
theorem ttoldv_any (A1 : Option Addr) (c1 : Nat) (l1 : List Nat) (m1 : Bool) (A2 : Option Addr) (c2 : Nat) (l2 : List Nat) (m2 : Bool) (q : Rat) (w : World) (h : QV w A1 c1 l1 m1 A2 c2 l2 m2 q) :
    Calls Tryz.prog 42 #[.agg #[.slice A1 l1.length c1, .bool m1, .slice A2 l2.length c2, .bool m2]] w fun e w' => TolR w (Wd.told q) e w' := by
  have HR := hide (fun W (hW : Below w.heap.size w W) => tRatv_any A1 c1 l1 m1 A2 c2 l2 m2 q W (h.below hW))
  clear h
  go_enter Tryz.func42, Tryz.ntmps42
  go_wp2_with fail
  obtain ⟨n0, n1, hsz, hw0⟩ := two_new w (.cells #[.slice A1 l1.length c1, .bool m1, .slice A2 l2.length c2, .bool m2] 52) (.cells #[.int .i64 0, .int .i64 0] 23)
  generalize ((w.alloc (.cells #[.slice A1 l1.length c1, .bool m1, .slice A2 l2.length c2, .bool m2] 52)).alloc (.cells #[.int .i64 0, .int .i64 0] 23)) = W0 at *
  have p0 : W0.cell? ⟨w.heap.size + 1, 0, none⟩ = some (.int .i64 0) := cells_of n1 0
  have p1 : W0.cell? ⟨w.heap.size + 1, 1, none⟩ = some (.int .i64 0) := cells_of n1 1
  have v0 := unfrozen_of n1 0; have v1 := unfrozen_of n1 1
  have q1 := lt_of_block n1
  clear n0 n1 hsz
  refine ((unhide HR) _ hw0).mono ?_
  rintro e W1 ⟨n, d, ok, rfl, hb, hor⟩
  rcases hor with ⟨rfl, ht⟩ | ⟨rfl, ht⟩
  · have HT9 := Lib.hid ht
    clear ht
    have hbA := hb.alloc hb.size (.cells #[.int .i64 n, .int .i64 d] 23)
    obtain ⟨hc, hf⟩ := bcell hbA
    obtain ⟨hc', hf'⟩ := bcell hb
    have hwA := below_step' hw0 hbA
    have HWA := hide hwA
    clear hbA hb hwA
    go_wp2_with fail
    exact bodyPost_ret (v := .tuple #[.agg #[.int .i64 n, .int .i64 d], .int .i64 0]) (by simp [results, Tryz.results42, go_sem, hc, hc', p0, p1, q1]) rfl
      ⟨by rw [HT9.out], (unhide HWA).grown (set2_grown _ _ _ _) (unhide HWA).size (fun k hk => by injection hk with hk; omega)⟩
  · have HT9 := Lib.hid ht
    clear ht
    have hbA := hb.alloc hb.size (.cells #[.int .i64 n, .int .i64 d] 23)
    obtain ⟨hc, hf⟩ := bcell hbA
    obtain ⟨hc', hf'⟩ := bcell hb
    have hwA := below_step' hw0 hbA
    have HWA := hide hwA
    clear hbA hb hwA
    go_wp2_with fail
    exact bodyPost_ret (v := .tuple #[.agg #[.int .i64 0, .int .i64 0], .int .i64 3]) (by simp [results, Tryz.results42, go_sem, hc, hc', p0, p1, q1]) rfl
      ⟨by rw [HT9.out], (unhide HWA).grown (set2_grown _ _ _ _) (unhide HWA).size (fun k hk => by injection hk with hk; omega)⟩
end Go.Proofs.YtpjgoogeokbaaaaGreatDoor
/- The reference: the number of a continued fraction. -/
namespace Go.Proofs.YtpjgoogeokbaaaaGreatDoor
open Go.RowKit

theorem boxq_below {w w' : World} {b : Nat} {q : Rat} (h : BoxQ w b q) (hb : Below w.heap.size w w') : BoxQ w' b q := BoxQ.below h hb
theorem boxq_st {w W : World} {B b : Nat} {q : Rat} {A2a : Option Addr} {c2a : Nat} {l2a : List Nat} {m2a : Bool} {A2b : Option Addr} {c2b : Nat} {l2b : List Nat} {m2b : Bool} {x2 : Rat} (hq : BoxQ W b q) (hv : QV W A2a c2a l2a m2a A2b c2b l2b m2b x2) (hb : Below B w W) (hB : B ≤ b) (hBW : B ≤ W.heap.size) : BoxQ ((((W.setCell ⟨b, 0, none⟩ (.slice A2a l2a.length c2a)).setCell ⟨b, 1, none⟩ (.bool m2a)).setCell ⟨b, 2, none⟩ (.slice A2b l2b.length c2b)).setCell ⟨b, 3, none⟩ (.bool m2b)) b x2 ∧ Below B w ((((W.setCell ⟨b, 0, none⟩ (.slice A2a l2a.length c2a)).setCell ⟨b, 1, none⟩ (.bool m2a)).setCell ⟨b, 2, none⟩ (.slice A2b l2b.length c2b)).setCell ⟨b, 3, none⟩ (.bool m2b)) := by
  obtain ⟨A, c, l, m, A', c', l', m', h1, h2⟩ := hq
  have hg := set4_grown W b (.slice A2a l2a.length c2a) (.bool m2a) (.slice A2b l2b.length c2b) (.bool m2b)
  exact ⟨⟨_, _, _, _, _, _, _, _, set4_block h1, hv.upto h1 (noW2_4 _ _ _ _ _ _ _ _) hg⟩, hb.grown hg hBW (fun k hk => by injection hk with hk; omega)⟩
end Go.Proofs.YtpjgoogeokbaaaaGreatDoor
/- Digits and numerals of texts: what the program tells of them. -/
namespace Go.Proofs.YtpjgoogeokbaaaaGreatDoor
open Go.RowKit

namespace Wd
/-- A byte that is a digit; digits, from one to most of them; a numeral. -/
def isDg (c : UInt8) : Bool := decide (48 ≤ (c.toNat : Int)) && decide ((c.toNat : Int) ≤ 57)
def digsOk (l : List UInt8) (m : Int) : Bool := decide (1 ≤ (l.length : Int)) && decide ((l.length : Int) ≤ m) && l.all isDg
def numOk (l : List UInt8) : Bool := digsOk l 20 && (l == [48] || !(l.head? == some 48))
end Wd
theorem take_snocB (s : ByteArray) (k : Nat) (h : k < s.size) : s.data.toList.take (k + 1) = s.data.toList.take k ++ [s[k]] := by
  rw [List.take_succ_eq_append_getElem (by simpa using h)]; rfl
theorem sizeB (s : ByteArray) : s.data.toList.length = s.size := Array.length_toList
theorem all_fails (s : ByteArray) (k : Nat) (h : k < s.size) (hd : Wd.isDg s[k] = false) : s.data.toList.all Wd.isDg = false := by
  rw [List.all_eq_false]
  refine ⟨s[k], ?_, by rw [hd]; decide⟩
  have h1 : k < s.data.toList.length := by rw [sizeB]; exact h
  have h2 : s[k] = s.data.toList[k] := rfl
  rw [h2]
  exact List.getElem_mem h1
set_option maxRecDepth 100000 in
set_option maxHeartbeats 4000000 in
theorem isDigits_any (s : ByteArray) (m : Int) (w : World) (hs : s.size ≤ 9223372036854775807) :
    Calls Tryz.prog 134 #[.string s, .int .i64 m] w fun e w' => e = .returned (.bool (Wd.digsOk s.data.toList m)) ∧ w' = w := by
  unfold Wd.digsOk
  rw [sizeB]
  by_cases h1 : (s.size : Int) < 1
  · have e : (decide (1 ≤ (s.size : Int)) && decide ((s.size : Int) ≤ m) && s.data.toList.all Wd.isDg) = false := by rw [decide_eq_false (show ¬ 1 ≤ (s.size : Int) by omega)]; rfl
    rw [e]
    have d1 : decide ((s.size : Int) < 1) = true := decide_eq_true h1
    clear h1 hs e
    go_enter Tryz.func134, Tryz.ntmps134
    go_wp2
    go_ret
    exact ⟨rfl, rfl⟩
  · have d1 : decide ((s.size : Int) < 1) = false := decide_eq_false h1
    by_cases h2 : m < s.size
    · have e : (decide (1 ≤ (s.size : Int)) && decide ((s.size : Int) ≤ m) && s.data.toList.all Wd.isDg) = false := by rw [decide_eq_false (show ¬ (s.size : Int) ≤ m by omega), Bool.and_false]; rfl
      rw [e]
      have d2 : decide (m < (s.size : Int)) = true := decide_eq_true h2
      clear h1 h2 hs e
      go_enter Tryz.func134, Tryz.ntmps134
      go_wp2
      go_ret
      exact ⟨rfl, rfl⟩
    · have d2 : decide (m < (s.size : Int)) = false := decide_eq_false h2
      have e : (decide (1 ≤ (s.size : Int)) && decide ((s.size : Int) ≤ m)) = true := by rw [decide_eq_true (show 1 ≤ (s.size : Int) by omega), decide_eq_true (show (s.size : Int) ≤ m by omega)]; rfl
      rw [e, Bool.true_and]
      obtain ⟨r, hr⟩ : ∃ r, r = s.data.toList.all Wd.isDg := ⟨_, rfl⟩
      rw [← hr]
      have HR := Lib.hid hr
      clear h1 h2 e hr
      go_enter Tryz.func134, Tryz.ntmps134
      go_wp2
      go_loop [17] (fun i => ∃ k : Nat, k ≤ s.size ∧ i = .int .i64 k ∧ (s.data.toList.take k).all Wd.isDg = true) (fun i => s.size - (intOf i).toNat)
      case atStart => exact ⟨0, Nat.zero_le _, rfl, rfl⟩
      case round =>
        obtain ⟨k, hk, rfl, hall⟩ := hrel
        have HALL := Lib.hid hall
        clear hall
        by_cases hlt : k < s.size
        · have hts := take_snocB s k hlt
          have hf := all_fails s k hlt
          obtain ⟨c, hc⟩ : ∃ c, c = s[k] := ⟨_, rfl⟩
          by_cases c1 : (s[k].toNat : Int) < 48
          · have e1 : decide ((s[k].toNat : Int) < 48) = true := decide_eq_true c1
            have HF := Lib.hid (HR.out.trans (hf (by unfold Wd.isDg; rw [decide_eq_false (show ¬ 48 ≤ (s[k].toNat : Int) by omega)]; rfl)))
            clear hf hts hc
            go_wp2
            go_ret
            exact ⟨by rw [HF.out]; rfl, rfl⟩
          · have e1 : decide ((s[k].toNat : Int) < 48) = false := decide_eq_false c1
            by_cases c2 : 57 < (s[k].toNat : Int)
            · have e2 : decide (57 < (s[k].toNat : Int)) = true := decide_eq_true c2
              have HF := Lib.hid (HR.out.trans (hf (by unfold Wd.isDg; rw [decide_eq_false (show ¬ (s[k].toNat : Int) ≤ 57 by omega), Bool.and_false])))
              clear hf hts hc
              go_wp2
              go_ret
              exact ⟨by rw [HF.out]; rfl, rfl⟩
            · have e2 : decide (57 < (s[k].toNat : Int)) = false := decide_eq_false c2
              have HS := Lib.hid (show (s.data.toList.take (k + 1)).all Wd.isDg = true by
                rw [hts, List.all_append, HALL.out, List.all_cons, List.all_nil]
                unfold Wd.isDg
                rw [decide_eq_true (show 48 ≤ (s[k].toNat : Int) by omega), decide_eq_true (show (s[k].toNat : Int) ≤ 57 by omega)]; rfl)
              clear hf hts hc
              go_wp2
              go_round
              case rel => exact ⟨k + 1, by omega, by go_num, HS.out⟩
              case measure => simp [intOf]; omega
        · have HA := Lib.hid (show s.data.toList.all Wd.isDg = true by
            have h := HALL.out
            rwa [List.take_of_length_le (by rw [sizeB]; omega)] at h)
          have HA2 := Lib.hid (HR.out.trans HA.out)
          clear HA
          go_wp2
          go_ret
          exact ⟨by rw [HA2.out]; rfl, rfl⟩
set_option maxRecDepth 100000 in
set_option maxHeartbeats 4000000 in
theorem isNumeral_any (s : ByteArray) (w : World) (hs : s.size ≤ 9223372036854775807) :
    Calls Tryz.prog 132 #[.string s] w fun e w' => e = .returned (.bool (Wd.numOk s.data.toList)) ∧ w' = w := by
  have HD := hide (fun W => isDigits_any s 20 W hs)
  unfold Wd.numOk
  by_cases hd : Wd.digsOk s.data.toList 20 = true
  · have hl : 0 < s.size := by
      unfold Wd.digsOk at hd
      rw [sizeB] at hd
      rcases Nat.eq_zero_or_pos s.size with h | h
      · rw [h] at hd; simp at hd
      · exact h
    rw [hd] at HD ⊢
    rw [Bool.true_and]
    have hh : s.data.toList.head? = some s[0] := by
      have h1 : 0 < s.data.toList.length := by rw [sizeB]; exact hl
      rw [List.head?_eq_getElem?, List.getElem?_eq_getElem h1]; rfl
    have hs0 : s.toList = s.data.toList := Lib.toList_data s
    obtain ⟨r, hr⟩ : ∃ r, r = (s.data.toList == [48] || !(s.data.toList.head? == some 48)) := ⟨_, rfl⟩
    rw [← hr]
    by_cases h0 : s.data.toList = [48]
    · have HR := Lib.hid (show r = true by rw [hr, h0]; rfl)
      have e1 : (s.toList == [48]) = true := by rw [hs0, h0]; rfl
      clear hd hr hh hs0 h0
      go_enter Tryz.func132, Tryz.ntmps132
      go_wp2_with (go_at_call 134; refine ((unhide HD) _).mono ?_; rintro e w' ⟨rfl, rfl⟩)
      all_goals first | go_ret | skip
      all_goals exact ⟨by rw [HR.out]; rfl, rfl⟩
    · have e1 : (s.toList == [48]) = false := by rw [hs0]; exact beq_eq_false_iff_ne.2 h0
      by_cases h1 : (s[0].toNat : Int) = 48
      · have e2 : ((s[0].toNat : Int) != 48) = false := by rw [h1]; rfl
        have h2 : s[0] = 48 := UInt8.toNat_inj.1 (by show s[0].toNat = 48; omega)
        have HR := Lib.hid (show r = false by rw [hr, hh, h2, beq_eq_false_iff_ne.2 h0]; rfl)
        clear hd hr hh hs0 h0 h2
        go_enter Tryz.func132, Tryz.ntmps132
        go_wp2_with (go_at_call 134; refine ((unhide HD) _).mono ?_; rintro e w' ⟨rfl, rfl⟩)
        all_goals first | go_ret | skip
        all_goals exact ⟨by rw [HR.out]; rfl, rfl⟩
      · have e2 : ((s[0].toNat : Int) != 48) = true := by simp [h1]
        have h2 : ¬ s[0] = 48 := fun h => h1 (by rw [h]; rfl)
        have HR := Lib.hid (show r = true by
          have h3 : (some s[0] == some (48 : UInt8)) = false := beq_eq_false_iff_ne.2 (fun h => h2 (Option.some.inj h))
          rw [hr, hh, h3, beq_eq_false_iff_ne.2 h0]; rfl)
        clear hd hr hh hs0 h0 h2
        go_enter Tryz.func132, Tryz.ntmps132
        go_wp2_with (go_at_call 134; refine ((unhide HD) _).mono ?_; rintro e w' ⟨rfl, rfl⟩)
        all_goals first | go_ret | skip
        all_goals exact ⟨by rw [HR.out]; rfl, rfl⟩
  · have hd' : Wd.digsOk s.data.toList 20 = false := by cases h : Wd.digsOk s.data.toList 20 with
      | true => exact absurd h hd
      | false => rfl
    rw [hd'] at HD ⊢
    rw [Bool.false_and]
    clear hd hd'
    go_enter Tryz.func132, Tryz.ntmps132
    go_wp2_with (go_at_call 134; refine ((unhide HD) _).mono ?_; rintro e w' ⟨rfl, rfl⟩)
    all_goals first | go_ret | skip
    all_goals exact ⟨rfl, rfl⟩
end Go.Proofs.YtpjgoogeokbaaaaGreatDoor
/- Whole numbers of the program: the number of digits. -/
namespace Go.Proofs.YtpjgoogeokbaaaaGreatDoor
open Go.RowKit

theorem boxi_store {w W : World} {B b : Nat} {z x : Int} {s2 : Int} {neg2 : Bool} {A2 : Option Addr} {c2 : Nat} {l2 : List Nat} (hq : BoxI W b z) (hv : IntF W s2 neg2 A2 c2 l2 x) (hb : Below B w W) (hB : B ≤ b) (hBW : B ≤ W.heap.size) :
    BoxI (((W.setCell ⟨b, 0, none⟩ (.int .i64 s2)).setCell ⟨b, 1, none⟩ (.bool neg2)).setCell ⟨b, 2, none⟩ (.slice A2 l2.length c2)) b x ∧ Below B w (((W.setCell ⟨b, 0, none⟩ (.int .i64 s2)).setCell ⟨b, 1, none⟩ (.bool neg2)).setCell ⟨b, 2, none⟩ (.slice A2 l2.length c2)) := by
  obtain ⟨s1, neg1, A1, c1, l1, h1, h2⟩ := hq
  have hg := set3_grown W b (.int .i64 s2) (.bool neg2) (.slice A2 l2.length c2)
  exact ⟨⟨_, _, _, _, _, set3_block h1, hv.upto h1 (noWord3 _ _ _ _ _) hg⟩, hb.grown hg hBW (fun k hk => by injection hk with hk; omega)⟩
theorem Wd.sz_pow {B K : Nat} {z : Int} (h : Wd.Sz B K z) (h1 : Wd.Sz B 1 1) : ∀ n : Nat, Wd.Sz B (K * n + 1) (z ^ n)
  | 0 => by rw [Int.pow_zero, Nat.mul_zero, Nat.zero_add]; exact h1
  | n + 1 => by
    have := (Wd.sz_pow h h1 n).mul h
    rw [Int.pow_succ, Nat.mul_succ, Nat.add_right_comm]
    exact this
theorem sz_one : Wd.Sz B64 1 1 := by unfold Wd.Sz; rw [Nat.pow_one, B64_eq]; omega
namespace Wd
/-- The number of digits. -/
def valD (l : List UInt8) : Nat := l.foldl (fun a c => a * 10 + (c.toNat - 48)) 0
theorem valD_snoc (l : List UInt8) (c : UInt8) : valD (l ++ [c]) = valD l * 10 + (c.toNat - 48) := by
  unfold valD; rw [List.foldl_append]; rfl
theorem dg_of {l : List UInt8} (h : l.all isDg = true) {c : UInt8} (hc : c ∈ l) : 48 ≤ c.toNat ∧ c.toNat ≤ 57 := by
  have h1 := List.all_eq_true.1 h c hc
  unfold isDg at h1
  rw [Bool.and_eq_true, decide_eq_true_eq, decide_eq_true_eq] at h1
  omega
theorem all_take {l : List UInt8} (h : l.all isDg = true) (k : Nat) : (l.take k).all isDg = true :=
  List.all_eq_true.2 (fun x hx => List.all_eq_true.1 h x (List.mem_of_mem_take hx))
theorem valD_lt_aux (n : Nat) : ∀ l : List UInt8, l.length = n → l.all isDg = true → valD l < 10 ^ l.length := by
  induction n with
  | zero => intro l hl _; rw [List.length_eq_zero_iff.1 hl]; exact Nat.zero_lt_one
  | succ n ih =>
    intro l hl h
    have hne : l ≠ [] := fun e => by rw [e] at hl; cases hl
    have e := List.dropLast_concat_getLast hne
    have hl' : l.dropLast.length = n := by rw [List.length_dropLast, hl]; rfl
    have h1 := ih l.dropLast hl' (List.all_eq_true.2 (fun x hx => List.all_eq_true.1 h x ((List.dropLast_sublist l).subset hx)))
    have h2 := dg_of h (List.getLast_mem hne)
    rw [← e, valD_snoc, e, hl, Nat.pow_succ]
    rw [hl'] at h1
    omega
theorem valD_lt (l : List UInt8) (h : l.all isDg = true) : valD l < 10 ^ l.length := valD_lt_aux _ l rfl h
end Wd
theorem sz_val {n : Nat} (h : n < 10 ^ 40) : Wd.Sz B64 3 (n : Int) := by
  have : (10 : Nat) ^ 40 < B64 ^ 3 := by rw [B64_eq]; decide
  unfold Wd.Sz; rw [Int.natAbs_natCast]; omega
theorem sz_ten : Wd.Sz B64 1 10 := by unfold Wd.Sz; rw [Nat.pow_one, B64_eq]; omega
theorem sz_dig {n : Int} (h1 : 0 ≤ n) (h2 : n ≤ 9) : Wd.Sz B64 1 n := by unfold Wd.Sz; rw [Nat.pow_one, B64_eq]; omega
theorem wrap_u8 {n : Int} (h1 : 0 ≤ n) (h2 : n < 256) : IntKind.u8.wrap n = n := by
  first
    | exact IntWalk.u8_in _ ⟨h1, by omega⟩
    | (simp [IntKind.wrap]; omega)

set_option maxRecDepth 100000 in
set_option maxHeartbeats 16000000 in
theorem integer_any (s : ByteArray) (w : World) (hd : s.data.toList.all Wd.isDg = true) (hl : s.size ≤ 40) :
    Calls Tryz.prog 133 #[.string s] w fun e w' => IntR w (Wd.valD s.data.toList : Nat) e w' := by
  have HO := hide (fun W => newInt_any 0 (by omega) (by omega) W)
  have HT10 := hide (fun W => newInt_any 10 (by omega) (by omega) W)
  have HD := hide hd
  clear hd
  go_enter Tryz.func133, Tryz.ntmps133
  go_upto_region 1 with fail
  obtain ⟨nr, hsz, hw0⟩ := one_new w (.cells #[.int .i64 0, .bool false, .slice none 0 0] 61)
  generalize w.alloc (.cells #[.int .i64 0, .bool false, .slice none 0 0] 61) = W0 at *
  have hq := lt_of_block nr
  clear hsz
  go_wp2_with fail
  refine ((unhide HO) _).mono ?_
  rintro e W1 ⟨s5, neg5, A5, c5, l5, rfl, g1, hb⟩
  replace nr := (hb.block _ (lt_of_block nr)).trans nr
  replace hq := Nat.lt_of_lt_of_le hq hb.size
  replace hw0 := below_step' hw0 hb
  clear hb
  go_upto_region 2 with fail
  have hbx := BoxI.new g1 rfl
  have hb := below_alloc (Below.refl W1.heap.size W1) (.cells #[.int .i64 s5, .bool neg5, .slice A5 l5.length c5] 61)
  clear g1
  obtain ⟨bx, hbxe⟩ : ∃ b, b = W1.heap.size := ⟨_, rfl⟩
  rw [← hbxe] at hbx ⊢
  have hbB : w.heap.size < bx := by rw [hbxe]; exact hq
  generalize W1.alloc (.cells #[.int .i64 s5, .bool neg5, .slice A5 l5.length c5] 61) = W2 at *
  replace nr := (hb.block _ (lt_of_block nr)).trans nr
  replace hq := Nat.lt_of_lt_of_le hq hb.size
  replace hw0 := below_step' hw0 hb
  clear hb hbxe
  have HW0 := hide hw0; have NR := hide nr; have HQ := hide hq
  clear hw0 nr hq
  go_wp2_with fail
  go_loopw [8] (fun iv wr => ∃ k : Nat, k ≤ s.size ∧ iv = .int .i64 (k : Int) ∧ BoxI wr bx (Wd.valD (s.data.toList.take k) : Nat) ∧ Hid (Below (w.heap.size + 1) W2 wr)) (fun iv _ => s.size - (intOf iv).toNat)
  case atStart => exact ⟨0, Nat.zero_le _, by first | rfl | go_num, by exact hbx, hide (Below.refl _ _)⟩
  case round =>
    obtain ⟨k, hk, rfl, hbq, hgr⟩ := hrel
    have hwr : Below w.heap.size w wr := (unhide HW0).trans ((unhide hgr).mono (by omega))
    have hq0 := unhide HQ
    have hgs := (unhide hgr).size
    by_cases hlt : k < s.size
    · obtain ⟨s6, neg6, A6, c6, l6, j1, f1'⟩ := hbq
      have hdk := Wd.dg_of (unhide HD) (show s[k] ∈ s.data.toList from List.getElem_mem (by rw [sizeB]; exact hlt))
      have hts := Wd.valD_snoc (s.data.toList.take k) s[k]
      rw [← take_snocB s k hlt] at hts
      have hlt2 := Wd.valD_lt (s.data.toList.take k) (Wd.all_take (unhide HD) k)
      rw [List.length_take, Nat.min_eq_left (by rw [sizeB]; omega)] at hlt2
      have h40 : 10 ^ k ≤ 10 ^ 40 := Nat.pow_le_pow_right (by omega) (by omega)
      have sz1 : Wd.Sz B64 3 ((Wd.valD (s.data.toList.take k) : Nat) : Int) := sz_val (by omega)
      have sz2 : Wd.Sz B64 4 (((Wd.valD (s.data.toList.take k) : Nat) : Int) * 10) := sz1.mul sz_ten
      obtain ⟨dv, hdv⟩ : ∃ dv : Int, dv = (s[k].toNat : Int) - 48 := ⟨_, rfl⟩
      have hdb : 0 ≤ dv ∧ dv ≤ 9 := by omega
      have HTD := hide (fun W => newInt_any dv (by omega) (by omega) W)
      have szd : Wd.Sz B64 1 dv := sz_dig hdb.1 hdb.2
      obtain ⟨v, hv⟩ : ∃ v : Int, v = (Wd.valD (s.data.toList.take k) : Nat) := ⟨_, rfl⟩
      have hnext : ((Wd.valD (s.data.toList.take (k + 1)) : Nat) : Int) = v * 10 + dv := by rw [hts, hv, hdv]; omega
      rw [← hv] at f1' sz1 sz2
      have HM := hide (fun s2 neg2 A2 c2 l2 W (g1 : IntF W s6 neg6 A6 c6 l6 v) (g2 : IntF W s2 neg2 A2 c2 l2 10) => imul_any s6 neg6 A6 c6 l6 v s2 neg2 A2 c2 l2 10 W g1 g2 (g1.fit sz1 (by rw [lim_eq]; omega)) (g2.fit sz_ten (by rw [lim_eq]; omega)))
      have HA := hide (fun s2 neg2 A2 c2 l2 s3 neg3 A3 c3 l3 W (g1 : IntF W s2 neg2 A2 c2 l2 (v * 10)) (g2 : IntF W s3 neg3 A3 c3 l3 dv) => iadd_any s2 neg2 A2 c2 l2 (v * 10) s3 neg3 A3 c3 l3 dv W g1 g2 (g1.fit sz2 (by rw [lim_eq]; omega)) (g2.fit szd (by rw [lim_eq]; omega)))
      have kx_0 : wr.cell? ⟨bx, 0, none⟩ = some (.int .i64 s6) := cells_of j1 0
      have ux_0 := unfrozen_of j1 0
      have kx_1 : wr.cell? ⟨bx, 1, none⟩ = some (.bool neg6) := cells_of j1 1
      have ux_1 := unfrozen_of j1 1
      have kx_2 : wr.cell? ⟨bx, 2, none⟩ = some (.slice A6 l6.length c6) := cells_of j1 2
      have ux_2 := unfrozen_of j1 2
      have qx := lt_of_block j1
      have HN := Lib.hid hnext
      have w1 : IntKind.u8.wrap ((s[k].toNat : Int) - 48) = dv := by rw [← hdv]; exact wrap_u8 hdb.1 (by omega)
      have w2 : IntKind.i64.wrap dv = dv := IntWalk.i64_in _ (by omega)
      have w3 : wrap64 dv = dv := IntWalk.wrap64_in _ (by omega)
      have w4 : ((s[k].toNat : Int) - 48) % 256 = dv := by rw [← hdv]; omega
      have d1 : decide ((k : Int) < (s.size : Int)) = true := decide_eq_true (by omega)
      have d2 : decide (k < s.size) = true := decide_eq_true hlt
      have J1 := hide j1; have F1 := hide f1'
      clear hdk hts hlt2 h40 sz1 sz2 hdv hdb szd hv hnext j1 f1'
      go_upto_region 5 with fail
      go_region_with (first | (go_at_call_of 102 (Value.int .i64 10); refine ((unhide HT10) _).mono ?_; rintro e w' ⟨s2, neg2, A2, c2, l2, rfl, f2, hb2⟩; (try (first | replace f3 := IntF.below f3 hb2 | replace f3 := (IntF.below f3 (Below.drew (Below.refl _ _))).below hb2)); (try (first | replace f4 := IntF.below f4 hb2 | replace f4 := (IntF.below f4 (Below.drew (Below.refl _ _))).below hb2)); have hbw := below_step (w := wr) (by (first | with_reducible assumption | (repeat (first | with_reducible exact Below.refl _ _ | with_reducible assumption | refine Below.drew ?_ | (refine Below.alloc ?_ (by simp <;> omega) _) | refine belowN ?_ _)))) hb2; obtain ⟨hc, hfz⟩ := bcell hbw) | (go_at_call_of 112 (Value.agg #[.int .i64 s6, .bool neg6, .slice A6 l6.length c6]); refine ((unhide HM) s2 neg2 A2 c2 l2 _ (by exact IntF.below (unhide F1) (by (first | with_reducible assumption | (repeat (first | with_reducible exact Below.refl _ _ | with_reducible assumption | refine Below.drew ?_ | (refine Below.alloc ?_ (by simp <;> omega) _) | refine belowN ?_ _))))) (by (first | exact f2 | exact IntF.below f2 (by (first | with_reducible assumption | (repeat (first | with_reducible exact Below.refl _ _ | with_reducible assumption | refine Below.drew ?_ | (refine Below.alloc ?_ (by simp <;> omega) _) | refine belowN ?_ _))))))).mono ?_; rintro e w' ⟨s3, neg3, A3, c3, l3, rfl, f3, hb3⟩; (try (first | replace f4 := IntF.below f4 hb3 | replace f4 := (IntF.below f4 (Below.drew (Below.refl _ _))).below hb3)); have hbw := below_step (w := wr) (by (first | with_reducible assumption | (repeat (first | with_reducible exact Below.refl _ _ | with_reducible assumption | refine Below.drew ?_ | (refine Below.alloc ?_ (by simp <;> omega) _) | refine belowN ?_ _)))) hb3; obtain ⟨hc, hfz⟩ := bcell hbw) | (go_at_call_of 102 (Value.int .i64 dv); refine ((unhide HTD) _).mono ?_; rintro e w' ⟨s4, neg4, A4, c4, l4, rfl, f4, hb4⟩; (try (first | replace f2 := IntF.below f2 hb4 | replace f2 := (IntF.below f2 (Below.drew (Below.refl _ _))).below hb4)); (try (first | replace f3 := IntF.below f3 hb4 | replace f3 := (IntF.below f3 (Below.drew (Below.refl _ _))).below hb4)); have hbw := below_step (w := wr) (by (first | with_reducible assumption | (repeat (first | with_reducible exact Below.refl _ _ | with_reducible assumption | refine Below.drew ?_ | (refine Below.alloc ?_ (by simp <;> omega) _) | refine belowN ?_ _)))) hb4; obtain ⟨hc, hfz⟩ := bcell hbw) | (go_at_call_of 127 (Value.agg #[.int .i64 s3, .bool neg3, .slice A3 l3.length c3]); refine ((unhide HA) s3 neg3 A3 c3 l3 s4 neg4 A4 c4 l4 _ (by (first | exact f3 | exact IntF.below f3 (by (first | with_reducible assumption | (repeat (first | with_reducible exact Below.refl _ _ | with_reducible assumption | refine Below.drew ?_ | (refine Below.alloc ?_ (by simp <;> omega) _) | refine belowN ?_ _)))))) (by (first | exact f4 | exact IntF.below f4 (by (first | with_reducible assumption | (repeat (first | with_reducible exact Below.refl _ _ | with_reducible assumption | refine Below.drew ?_ | (refine Below.alloc ?_ (by simp <;> omega) _) | refine belowN ?_ _))))))).mono ?_; rintro e w' ⟨s5, neg5, A5, c5, l5, rfl, f5, hb5⟩; have hbw := below_step (w := wr) (by (first | with_reducible assumption | (repeat (first | with_reducible exact Below.refl _ _ | with_reducible assumption | refine Below.drew ?_ | (refine Below.alloc ?_ (by simp <;> omega) _) | refine belowN ?_ _)))) hb5; obtain ⟨hc, hfz⟩ := bcell hbw))
      all_goals
        have hst := boxi_store (BoxI.below ⟨_, _, _, _, _, unhide J1, unhide F1⟩ hbw) f5 ((unhide hgr).trans (hbw.mono (by omega))) (by omega) (by have := hbw.size; omega)
        go_wp2_with fail
        go_roundw
        case rel => exact ⟨k + 1, by omega, by first | rfl | go_num, HN.out ▸ hst.1, hide hst.2⟩
        case measure => simp [intOf] <;> omega
    · have hke : s.data.toList.take k = s.data.toList := List.take_of_length_le (by rw [sizeB]; omega)
      rw [hke] at hbq
      obtain ⟨s6, neg6, A6, c6, l6, j1, f1'⟩ := hbq
      have jr := ((unhide hgr).block w.heap.size (by omega)).trans (unhide NR)
      have kx_0 : wr.cell? ⟨bx, 0, none⟩ = some (.int .i64 s6) := cells_of j1 0
      have ux_0 := unfrozen_of j1 0
      have kx_1 : wr.cell? ⟨bx, 1, none⟩ = some (.bool neg6) := cells_of j1 1
      have ux_1 := unfrozen_of j1 1
      have kx_2 : wr.cell? ⟨bx, 2, none⟩ = some (.slice A6 l6.length c6) := cells_of j1 2
      have ux_2 := unfrozen_of j1 2
      have qx := lt_of_block j1
      have r0 : wr.cell? ⟨w.heap.size, 0, none⟩ = some (.int .i64 0) := cells_of jr 0
      have fr0 := unfrozen_of jr 0
      have r1 : wr.cell? ⟨w.heap.size, 1, none⟩ = some (.bool false) := cells_of jr 1
      have fr1 := unfrozen_of jr 1
      have r2 : wr.cell? ⟨w.heap.size, 2, none⟩ = some (.slice none 0 0) := cells_of jr 2
      have fr2 := unfrozen_of jr 2
      have qr : w.heap.size < wr.heap.size := by omega
      have HBLK := Lib.hid jr
      have F1 := hide f1'
      have d1 : decide ((k : Int) < (s.size : Int)) = false := decide_eq_false (by omega)
      have d2 : decide (k < s.size) = false := decide_eq_false hlt
      clear j1 f1' jr hke hk hl
      go_wp2_with fail
      exact bodyPost_ret (v := (Value.agg #[.int .i64 s6, .bool neg6, .slice A6 l6.length c6])) (by simp [results, Tryz.results133, go_sem, r0, r1, r2, qr]) rfl
        ⟨s6, neg6, A6, c6, l6, rfl, (unhide F1).upto HBLK.out (noWord3 _ _ _ _ _) (set3_grown _ _ _ _ _), hwr.grown (set3_grown _ _ _ _ _) hwr.size (fun k hk => by injection hk with hk; omega)⟩

end Go.Proofs.YtpjgoogeokbaaaaGreatDoor
/- Integers as numbers of the reference. -/
namespace Go.Proofs.YtpjgoogeokbaaaaGreatDoor
open Go.RowKit

/-- A number as it is kept, as a result. -/
def QVR (w : World) (q : Rat) (e : Ending) (w' : World) : Prop := ∃ A1 c1 l1 m1 A2 c2 l2 m2, e = .returned (Value.agg #[.slice A1 (List.length l1) c1, .bool m1, .slice A2 (List.length l2) c2, .bool m2]) ∧ QV w' A1 c1 l1 m1 A2 c2 l2 m2 (q) ∧ Below w.heap.size w w'
theorem qv_zero (W : World) : QV W none 0 [] false none 0 [] false (Rat.divInt (0) 1) := by
  have h0 : WholeF W none 0 [] false 0 := ⟨NatT.nil_ W 0 (by omega), rfl⟩
  obtain ⟨o1, o2⟩ := Wd.one_parts 0
  exact ⟨by rw [o1]; exact h0, 0, h0, .inr ⟨rfl, by omega⟩⟩
theorem boxq_zero {W : World} {b : Nat} (h : W.heap[b]? = some (.cells #[.slice none 0 0, .bool false, .slice none 0 0, .bool false] 52 (0, 0))) : BoxQ W b (Rat.divInt (0) 1) :=
  ⟨none, 0, [], false, none, 0, [], false, h, qv_zero W⟩
theorem tqmul_int (A1 : Option Addr) (c1 : Nat) (l1 : List Nat) (m1 : Bool) (A2 : Option Addr) (c2 : Nat) (l2 : List Nat) (m2 : Bool) (A3 : Option Addr) (c3 : Nat) (l3 : List Nat) (m3 : Bool) (A4 : Option Addr) (c4 : Nat) (l4 : List Nat) (m4 : Bool) (a b : Int) (K L : Nat) (w : World) (h1 : QV w A1 c1 l1 m1 A2 c2 l2 m2 (Rat.divInt (a) 1)) (h2 : QV w A3 c3 l3 m3 A4 c4 l4 m4 (Rat.divInt (b) 1)) (sa : Wd.Sz B32 K a) (sb : Wd.Sz B32 L b) (hK : K + L ≤ 35184372088832) :
    Calls Tryz.prog 45 #[(Value.agg #[.slice A1 l1.length c1, .bool m1, .slice A2 l2.length c2, .bool m2]), (Value.agg #[.slice A3 l3.length c3, .bool m3, .slice A4 l4.length c4, .bool m4])] w fun e w' => QR w (Rat.divInt (a * b) 1) e w' := by
  obtain ⟨o1, o2⟩ := Wd.one_parts a
  obtain ⟨o3, o4⟩ := Wd.one_parts b
  have hd1 := fun W (hW : Below w.heap.size w W) => tdenv_any A1 c1 l1 m1 A2 c2 l2 m2 _ W (h1.below hW)
  have hd3 := fun W (hW : Below w.heap.size w W) => tdenv_any A3 c3 l3 m3 A4 c4 l4 m4 _ W (h2.below hW)
  have e : Rat.divInt (a) 1 * Rat.divInt (b) 1 = Rat.divInt (a * b) 1 := by rw [Rat.divInt_mul_divInt, Int.one_mul]
  have an := ow_mul (w := w) (c := (Rat.divInt (a) 1).num * (Rat.divInt (b) 1).num) (K := K) (L := L) (by rw [o1]; exact sa) (by rw [o3]; exact sb) hK rfl
  rw [← e]
  exact qmul_tt A1 c1 l1 m1 A2 c2 l2 m2 A3 c3 l3 m3 A4 c4 l4 m4 (Rat.divInt (a) 1).num ((Rat.divInt (a) 1).den : Int) (Rat.divInt (b) 1).num ((Rat.divInt (b) 1).den : Int) _ (Rat.divInt (a) 1 * Rat.divInt (b) 1) w h1.num h2.num hd1 hd3 (o_one (decide_eq_true o2).symm) (o_one (decide_eq_true o4).symm) an (Wd.mul_i o2 o4).1 (Wd.mul_i o2 o4).2
theorem tqadd_int (A1 : Option Addr) (c1 : Nat) (l1 : List Nat) (m1 : Bool) (A2 : Option Addr) (c2 : Nat) (l2 : List Nat) (m2 : Bool) (A3 : Option Addr) (c3 : Nat) (l3 : List Nat) (m3 : Bool) (A4 : Option Addr) (c4 : Nat) (l4 : List Nat) (m4 : Bool) (a b : Int) (K L : Nat) (w : World) (h1 : QV w A1 c1 l1 m1 A2 c2 l2 m2 (Rat.divInt (a) 1)) (h2 : QV w A3 c3 l3 m3 A4 c4 l4 m4 (Rat.divInt (b) 1)) (sa : Wd.Sz B32 K a) (sb : Wd.Sz B32 L b) (hK : K + L + 1 ≤ 35184372088832) :
    Calls Tryz.prog 43 #[(Value.agg #[.slice A1 l1.length c1, .bool m1, .slice A2 l2.length c2, .bool m2]), (Value.agg #[.slice A3 l3.length c3, .bool m3, .slice A4 l4.length c4, .bool m4])] w fun e w' => QR w (Rat.divInt (a + b) 1) e w' := by
  obtain ⟨o1, o2⟩ := Wd.one_parts a
  obtain ⟨o3, o4⟩ := Wd.one_parts b
  have hd1 := fun W (hW : Below w.heap.size w W) => tdenv_any A1 c1 l1 m1 A2 c2 l2 m2 _ W (h1.below hW)
  have hd3 := fun W (hW : Below w.heap.size w W) => tdenv_any A3 c3 l3 m3 A4 c4 l4 m4 _ W (h2.below hW)
  have e : Rat.divInt (a) 1 + Rat.divInt (b) 1 = Rat.divInt (a + b) 1 := by rw [Rat.divInt_add_divInt _ _ (by omega) (by omega), Int.mul_one, Int.mul_one, Int.mul_one]
  have an := ow_add (w := w) (c := (Rat.divInt (a) 1).num + (Rat.divInt (b) 1).num) (K := K) (L := L) (by rw [o1]; exact sa) (by rw [o3]; exact sb) hK rfl
  rw [← e]
  exact qadd_tt A1 c1 l1 m1 A2 c2 l2 m2 A3 c3 l3 m3 A4 c4 l4 m4 (Rat.divInt (a) 1).num ((Rat.divInt (a) 1).den : Int) (Rat.divInt (b) 1).num ((Rat.divInt (b) 1).den : Int) _ (Rat.divInt (a) 1 + Rat.divInt (b) 1) w h1.num h2.num hd1 hd3 (o_one (decide_eq_true o2).symm) (o_one (decide_eq_true o4).symm) an (Wd.add_i o2 o4).1 (Wd.add_i o2 o4).2
theorem tint_any (n : Int) (W : World) (b1 : -9223372036854775808 ≤ n) (b2 : n ≤ 9223372036854775807) :
    Calls Tryz.prog 72 #[.int .i64 n] W fun e w' => QR W (Rat.divInt (n) 1) e w' :=
  tInt_any n _ W b1 b2 (Wd.one_parts n).1.symm (Wd.one_parts n).2.symm
theorem sz_dec {n k : Nat} (h : n < 10 ^ k) : Wd.Sz B32 (k / 9 + 1) (n : Int) := by
  have h1 : 10 ^ k ≤ 10 ^ (9 * (k / 9 + 1)) := Nat.pow_le_pow_right (by omega) (by omega)
  have h2 : (10 : Nat) ^ (9 * (k / 9 + 1)) = (10 ^ 9) ^ (k / 9 + 1) := Nat.pow_mul 10 9 _
  have h3 : (10 ^ 9) ^ (k / 9 + 1) ≤ B32 ^ (k / 9 + 1) := Nat.pow_le_pow_left (by rw [B32_eq]; decide) _
  unfold Wd.Sz
  rw [Int.natAbs_natCast]
  rw [h2] at h1
  exact Nat.lt_of_lt_of_le h (Nat.le_trans h1 h3)
theorem sz_small {z : Int} (h : z.natAbs < 4294967296) : Wd.Sz B32 1 z := by
  unfold Wd.Sz; rw [Nat.pow_one, B32_eq]; exact h

set_option maxRecDepth 100000 in
set_option maxHeartbeats 2000000 in
theorem tisDigit_any (c : Nat) (b : Bool) (w : World) (hb : b = (decide (48 ≤ (c : Int)) && decide ((c : Int) ≤ 57))) :
    Calls Tryz.prog 135 #[.int .u8 (c : Int)] w fun e w' => e = .returned (.bool b) ∧ w' = w := by
  by_cases h1 : 48 ≤ (c : Int)
  · have d1 : decide (48 ≤ (c : Int)) = true := decide_eq_true h1
    have d1' : decide (48 ≤ c) = true := decide_eq_true (by omega)
    rw [d1, Bool.true_and] at hb
    by_cases h2 : (c : Int) ≤ 57
    · have d2 : decide ((c : Int) ≤ 57) = true := decide_eq_true h2
      have d2' : decide (c ≤ 57) = true := decide_eq_true (by omega)
      rw [d2] at hb
      subst hb
      clear h1 h2
      go_enter Tryz.func135, Tryz.ntmps135
      go_wp2
      all_goals first | go_ret | skip
      all_goals exact ⟨rfl, rfl⟩
    · have d2 : decide ((c : Int) ≤ 57) = false := decide_eq_false h2
      have d2' : decide (c ≤ 57) = false := decide_eq_false (by omega)
      rw [d2] at hb
      subst hb
      clear h1 h2
      go_enter Tryz.func135, Tryz.ntmps135
      go_wp2
      all_goals first | go_ret | skip
      all_goals exact ⟨rfl, rfl⟩
  · have d1 : decide (48 ≤ (c : Int)) = false := decide_eq_false h1
    have d1' : decide (48 ≤ c) = false := decide_eq_false (by omega)
    rw [d1, Bool.false_and] at hb
    subst hb
    clear h1
    go_enter Tryz.func135, Tryz.ntmps135
    go_wp2
    all_goals first | go_ret | skip
    all_goals exact ⟨rfl, rfl⟩

end Go.Proofs.YtpjgoogeokbaaaaGreatDoor
/- The number of a text. -/
namespace Go.Proofs.YtpjgoogeokbaaaaGreatDoor
namespace Wd

/-- A text cut at the first byte c. -/
def cutAt (c : UInt8) : List UInt8 → Option (List UInt8 × List UInt8)
  | [] => none
  | x :: l => if x = c then some ([], l) else (cutAt c l).map fun p => (x :: p.1, p.2)
theorem cutAt_hit (c : UInt8) : ∀ (a b : List UInt8), c ∉ a → cutAt c (a ++ c :: b) = some (a, b)
  | [], b, _ => by simp [cutAt]
  | x :: a, b, h => by
    have h1 : ¬ x = c := fun e => h (by rw [e]; exact List.mem_cons_self)
    have h2 : c ∉ a := fun e => h (List.mem_cons_of_mem _ e)
    rw [List.cons_append, cutAt, if_neg h1, cutAt_hit c a b h2]; rfl
theorem cutAt_miss (c : UInt8) : ∀ l : List UInt8, c ∉ l → cutAt c l = none
  | [], _ => rfl
  | x :: l, h => by
    have h1 : ¬ x = c := fun e => h (by rw [e]; exact List.mem_cons_self)
    have h2 : c ∉ l := fun e => h (List.mem_cons_of_mem _ e)
    rw [cutAt, if_neg h1, cutAt_miss c l h2]; rfl
/-- The number of a text without a sign. -/
def posT (l : List UInt8) : Option Rat :=
  match cutAt 47 l with
  | some (a, b) => if (numOk a && numOk b && !(b == [48])) = true then some (Rat.divInt (valD a : Nat) (valD b : Nat)) else none
  | none => match cutAt 46 l with
    | some (a, b) => if (numOk a && digsOk b 12) = true then some (Rat.divInt (valD (a ++ b) : Nat) ((10 ^ b.length : Nat) : Int)) else none
    | none => if numOk l = true then some (Rat.divInt (valD l : Nat) 1) else none
theorem posT_slash {l a b : List UInt8} (hl : l = a ++ 47 :: b) (hn : 47 ∉ a) : posT l = if (numOk a && numOk b && !(b == [48])) = true then some (Rat.divInt (valD a : Nat) (valD b : Nat)) else none := by
  unfold posT; rw [hl, cutAt_hit 47 a b hn]
theorem posT_dot {l a b : List UInt8} (h0 : 47 ∉ l) (hl : l = a ++ 46 :: b) (hn : 46 ∉ a) : posT l = if (numOk a && digsOk b 12) = true then some (Rat.divInt (valD (a ++ b) : Nat) ((10 ^ b.length : Nat) : Int)) else none := by
  unfold posT; rw [cutAt_miss 47 l h0]; dsimp only; rw [hl, cutAt_hit 46 a b hn]
theorem posT_plain {l : List UInt8} (h0 : 47 ∉ l) (h1 : 46 ∉ l) : posT l = if numOk l = true then some (Rat.divInt (valD l : Nat) 1) else none := by
  unfold posT; rw [cutAt_miss 47 l h0]; dsimp only; rw [cutAt_miss 46 l h1]
/-- What is told of a text. -/
def parseT (l : List UInt8) : Told :=
  if l.head? = some 45 then
    match posT l.tail with
    | some q => if q = 0 then ⟨0, 0, 2⟩ else told (-q)
    | none => ⟨0, 0, 2⟩
  else match posT l with
    | some q => told q
    | none => ⟨0, 0, 2⟩
theorem valD_from (l : List UInt8) : ∀ a : Nat, l.foldl (fun a (c : UInt8) => a * 10 + (c.toNat - 48)) a = a * 10 ^ l.length + valD l := by
  unfold valD
  induction l with
  | nil => intro a; simp
  | cons c l ih =>
    intro a
    rw [List.foldl_cons, List.foldl_cons, ih, ih (0 * 10 + (c.toNat - 48)), List.length_cons, Nat.pow_succ, Nat.zero_mul, Nat.zero_add, Nat.add_mul, Nat.mul_comm (10 ^ l.length) 10, Nat.mul_assoc, Nat.add_assoc]
theorem valD_cons (c : UInt8) (l : List UInt8) : valD (c :: l) = (c.toNat - 48) * 10 ^ l.length + valD l := by
  have h := valD_from l (0 * 10 + (c.toNat - 48))
  rw [Nat.zero_mul, Nat.zero_add] at h
  show List.foldl _ (0 * 10 + (c.toNat - 48)) l = _
  rw [Nat.zero_mul, Nat.zero_add]; exact h
theorem digsOk_iff {l : List UInt8} {m : Int} : digsOk l m = true ↔ 1 ≤ l.length ∧ (l.length : Int) ≤ m ∧ l.all isDg = true := by
  unfold digsOk
  rw [Bool.and_eq_true, Bool.and_eq_true, decide_eq_true_eq, decide_eq_true_eq]
  constructor
  · rintro ⟨⟨h1, h2⟩, h3⟩; exact ⟨by omega, h2, h3⟩
  · rintro ⟨h1, h2, h3⟩; exact ⟨⟨by omega, h2⟩, h3⟩
theorem numOk_iff {l : List UInt8} : numOk l = true ↔ digsOk l 20 = true ∧ (l = [48] ∨ l.head? ≠ some 48) := by
  unfold numOk
  rw [Bool.and_eq_true, Bool.or_eq_true, beq_iff_eq, Bool.not_eq_true', beq_eq_false_iff_ne]
theorem numOk_pos {l : List UInt8} (h : numOk l = true) (hz : ¬ l = [48]) : 0 < valD l := by
  obtain ⟨h1, h2⟩ := numOk_iff.1 h
  obtain ⟨h3, _, h5⟩ := digsOk_iff.1 h1
  cases l with
  | nil => exact absurd h3 (by decide)
  | cons c l =>
    rcases h2 with h2 | h2
    · exact absurd h2 hz
    · have hc := dg_of h5 (List.mem_cons_self (a := c) (l := l))
      have hne : c.toNat ≠ 48 := fun e => h2 (by
        have : c = 48 := UInt8.toNat_inj.1 e
        rw [this]; rfl)
      rw [valD_cons]
      have := Nat.mul_le_mul (show 1 ≤ c.toNat - 48 by omega) (Nat.pow_pos (n := l.length) (show 0 < 10 by decide))
      omega
end Wd
end Go.Proofs.YtpjgoogeokbaaaaGreatDoor
