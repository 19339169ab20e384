/- Part 8 of the texts beneath a law of layer 1: RtMul, RtNeg, RtInv, RtOps, RtSub, RatV, RfIs, RatF, RfAll, RtOf, RtRat, RatC, Med, RatFl. -/
import Derived.Test.YtpjgoogeokbaaaaGreatDoorCi7
/- The walk through the product of two quotients. -/
namespace Go.Proofs.YtpjgoogeokbaaaaGreatDoor
open Go.RowKit

set_option maxRecDepth 100000 in
set_option maxHeartbeats 16000000 in
theorem rmul_walk (s1 : Int) (neg1 : Bool) (A1 : Option Addr) (c1 : Nat) (l1 : List Nat) (s2 : Int) (neg2 : Bool) (A2 : Option Addr) (c2 : Nat) (l2 : List Nat) (s3 : Int) (neg3 : Bool) (A3 : Option Addr) (c3 : Nat) (l3 : List Nat) (s4 : Int) (neg4 : Bool) (A4 : Option Addr) (c4 : Nat) (l4 : List Nat) (z1 z2 z3 z4 g h a1 b1 r1 a2 b2 r2 : Int) (w : World) (f1 : IntF w s1 neg1 A1 c1 l1 z1) (f2 : IntF w s2 neg2 A2 c2 l2 z2) (f3 : IntF w s3 neg3 A3 c3 l3 z3) (f4 : IntF w s4 neg4 A4 c4 l4 z4)
    (hg : Op2 w 124 z1 z4 g) (hh : Op2 w 124 z3 z2 h) (ha : Op2 w 125 z1 g a1) (hb : Op2 w 125 z3 h b1) (hr1 : Op2 w 112 a1 b1 r1) (hc : Op2 w 125 z2 h a2) (hd : Op2 w 125 z4 g b2) (hr2 : Op2 w 112 a2 b2 r2) :
    Calls Tryz.prog 71 #[(Value.agg #[.int .i64 s1, .bool neg1, .slice A1 l1.length c1, .int .i64 s2, .bool neg2, .slice A2 l2.length c2]), (Value.agg #[.int .i64 s3, .bool neg3, .slice A3 l3.length c3, .int .i64 s4, .bool neg4, .slice A4 l4.length c4])] w fun e w' => PairR w r1 r2 e w' := by
  have H1 := hide f1
  have H2 := hide f2
  have H3 := hide f3
  have H4 := hide f4
  clear f1 f2 f3 f4
  have HG := hide hg
  have HH := hide hh
  have HA := hide ha
  have HB := hide hb
  have HR1 := hide hr1
  have HC := hide hc
  have HD := hide hd
  have HR2 := hide hr2
  clear hg hh ha hb hr1 hc hd hr2
  go_enter Tryz.func71, Tryz.ntmps71
  go_upto_region 1 with fail
  obtain ⟨n0, n1, n2, hsz, hw0⟩ := three_new w (.cells #[.int .i64 s1, .bool neg1, .slice A1 l1.length c1, .int .i64 s2, .bool neg2, .slice A2 l2.length c2] 63) (.cells #[.int .i64 s3, .bool neg3, .slice A3 l3.length c3, .int .i64 s4, .bool neg4, .slice A4 l4.length c4] 63) (.cells #[.int .i64 0, .bool false, .slice none 0 0, .int .i64 0, .bool false, .slice none 0 0] 63)
  generalize (((w.alloc (.cells #[.int .i64 s1, .bool neg1, .slice A1 l1.length c1, .int .i64 s2, .bool neg2, .slice A2 l2.length c2] 63)).alloc (.cells #[.int .i64 s3, .bool neg3, .slice A3 l3.length c3, .int .i64 s4, .bool neg4, .slice A4 l4.length c4] 63)).alloc (.cells #[.int .i64 0, .bool false, .slice none 0 0, .int .i64 0, .bool false, .slice none 0 0] 63)) = W0 at *
  have k0_0 : W0.cell? ⟨w.heap.size, 0, none⟩ = some (.int .i64 s1) := cells_of n0 0
  have k0_1 : W0.cell? ⟨w.heap.size, 1, none⟩ = some (.bool neg1) := cells_of n0 1
  have k0_2 : W0.cell? ⟨w.heap.size, 2, none⟩ = some (.slice A1 l1.length c1) := cells_of n0 2
  have k0_3 : W0.cell? ⟨w.heap.size, 3, none⟩ = some (.int .i64 s2) := cells_of n0 3
  have k0_4 : W0.cell? ⟨w.heap.size, 4, none⟩ = some (.bool neg2) := cells_of n0 4
  have k0_5 : W0.cell? ⟨w.heap.size, 5, none⟩ = some (.slice A2 l2.length c2) := cells_of n0 5
  have q0 : w.heap.size < W0.heap.size := by omega
  have k1_0 : W0.cell? ⟨w.heap.size + 1, 0, none⟩ = some (.int .i64 s3) := cells_of n1 0
  have k1_1 : W0.cell? ⟨w.heap.size + 1, 1, none⟩ = some (.bool neg3) := cells_of n1 1
  have k1_2 : W0.cell? ⟨w.heap.size + 1, 2, none⟩ = some (.slice A3 l3.length c3) := cells_of n1 2
  have k1_3 : W0.cell? ⟨w.heap.size + 1, 3, none⟩ = some (.int .i64 s4) := cells_of n1 3
  have k1_4 : W0.cell? ⟨w.heap.size + 1, 4, none⟩ = some (.bool neg4) := cells_of n1 4
  have k1_5 : W0.cell? ⟨w.heap.size + 1, 5, none⟩ = some (.slice A4 l4.length c4) := cells_of n1 5
  have q1 : w.heap.size + 1 < W0.heap.size := by omega
  have k2_0 : W0.cell? ⟨w.heap.size + 1 + 1, 0, none⟩ = some (.int .i64 0) := cells_of n2 0
  have k2_1 : W0.cell? ⟨w.heap.size + 1 + 1, 1, none⟩ = some (.bool false) := cells_of n2 1
  have k2_2 : W0.cell? ⟨w.heap.size + 1 + 1, 2, none⟩ = some (.slice none 0 0) := cells_of n2 2
  have k2_3 : W0.cell? ⟨w.heap.size + 1 + 1, 3, none⟩ = some (.int .i64 0) := cells_of n2 3
  have k2_4 : W0.cell? ⟨w.heap.size + 1 + 1, 4, none⟩ = some (.bool false) := cells_of n2 4
  have k2_5 : W0.cell? ⟨w.heap.size + 1 + 1, 5, none⟩ = some (.slice none 0 0) := cells_of n2 5
  have q2 : w.heap.size + 1 + 1 < W0.heap.size := by omega
  have f2_0 := unfrozen_of n2 0
  have f2_1 := unfrozen_of n2 1
  have f2_2 := unfrozen_of n2 2
  have f2_3 := unfrozen_of n2 3
  have f2_4 := unfrozen_of n2 4
  have f2_5 := unfrozen_of n2 5
  have NR := Lib.hid n2
  clear hsz n0 n1 n2
  replace H1 := hide ((unhide H1).below hw0)
  replace H2 := hide ((unhide H2).below hw0)
  replace H3 := hide ((unhide H3).below hw0)
  replace H4 := hide ((unhide H4).below hw0)
  go_upto_region 1 with fail
  go_cut [5, 6] (fun s5_ s6_ wx => ∃ b5 b6 : Nat, s5_ = .pointer (some ⟨b5, 0, none⟩) ∧ s6_ = .pointer (some ⟨b6, 0, none⟩) ∧ BoxI wx b5 g ∧ BoxI wx b6 h ∧ Below W0.heap.size W0 wx ∧ W0.heap.size ≤ b5 ∧ W0.heap.size ≤ b6)
  case first =>
    have KEEP := hide (show ∀ X, Below W0.heap.size W0 X → X.cell? ⟨w.heap.size, 0, none⟩ = some (.int .i64 s1) ∧ X.cell? ⟨w.heap.size, 1, none⟩ = some (.bool neg1) ∧ X.cell? ⟨w.heap.size, 2, none⟩ = some (.slice A1 l1.length c1) ∧ X.cell? ⟨w.heap.size, 3, none⟩ = some (.int .i64 s2) ∧ X.cell? ⟨w.heap.size, 4, none⟩ = some (.bool neg2) ∧ X.cell? ⟨w.heap.size, 5, none⟩ = some (.slice A2 l2.length c2) ∧ X.cell? ⟨w.heap.size + 1, 0, none⟩ = some (.int .i64 s3) ∧ X.cell? ⟨w.heap.size + 1, 1, none⟩ = some (.bool neg3) ∧ X.cell? ⟨w.heap.size + 1, 2, none⟩ = some (.slice A3 l3.length c3) ∧ X.cell? ⟨w.heap.size + 1, 3, none⟩ = some (.int .i64 s4) ∧ X.cell? ⟨w.heap.size + 1, 4, none⟩ = some (.bool neg4) ∧ X.cell? ⟨w.heap.size + 1, 5, none⟩ = some (.slice A4 l4.length c4) from fun X hB => ⟨keep_cell hB q0 k0_0, keep_cell hB q0 k0_1, keep_cell hB q0 k0_2, keep_cell hB q0 k0_3, keep_cell hB q0 k0_4, keep_cell hB q0 k0_5, keep_cell hB q1 k1_0, keep_cell hB q1 k1_1, keep_cell hB q1 k1_2, keep_cell hB q1 k1_3, keep_cell hB q1 k1_4, keep_cell hB q1 k1_5⟩)
    go_region_held3 (fun w' => w'.cell? ⟨w.heap.size, 0, none⟩ = some (.int .i64 s1) ∧ w'.cell? ⟨w.heap.size, 1, none⟩ = some (.bool neg1) ∧ w'.cell? ⟨w.heap.size, 2, none⟩ = some (.slice A1 l1.length c1) ∧ w'.cell? ⟨w.heap.size, 3, none⟩ = some (.int .i64 s2) ∧ w'.cell? ⟨w.heap.size, 4, none⟩ = some (.bool neg2) ∧ w'.cell? ⟨w.heap.size, 5, none⟩ = some (.slice A2 l2.length c2) ∧ w'.cell? ⟨w.heap.size + 1, 0, none⟩ = some (.int .i64 s3) ∧ w'.cell? ⟨w.heap.size + 1, 1, none⟩ = some (.bool neg3) ∧ w'.cell? ⟨w.heap.size + 1, 2, none⟩ = some (.slice A3 l3.length c3) ∧ w'.cell? ⟨w.heap.size + 1, 3, none⟩ = some (.int .i64 s4) ∧ w'.cell? ⟨w.heap.size + 1, 4, none⟩ = some (.bool neg4) ∧ w'.cell? ⟨w.heap.size + 1, 5, none⟩ = some (.slice A4 l4.length c4)) (exact (unhide KEEP) _ (by (repeat (first | with_reducible exact Below.refl _ _ | with_reducible assumption | with_reducible refine Below.drew ?_ | with_reducible refine below_alloc ?_ _ | (with_reducible refine below_set ?_ ?_ _ _; rotate_left; (first | omega | (simp <;> omega))))))) (first | (go_at_call_of 124 (Value.agg #[.int .i64 s1, .bool neg1, .slice A1 l1.length c1]); refine ((unhide HG) s1 neg1 A1 c1 l1 s4 neg4 A4 c4 l4 _ (below_step' hw0 (by (repeat (first | with_reducible exact Below.refl _ _ | with_reducible assumption | with_reducible refine Below.drew ?_ | with_reducible refine below_alloc ?_ _)))) (IntF.below (unhide H1) (by (repeat (first | with_reducible exact Below.refl _ _ | with_reducible assumption | with_reducible refine Below.drew ?_ | with_reducible refine below_alloc ?_ _)))) (IntF.below (unhide H4) (by (repeat (first | with_reducible exact Below.refl _ _ | with_reducible assumption | with_reducible refine Below.drew ?_ | with_reducible refine below_alloc ?_ _))))).mono ?_; rintro e w' ⟨s5, neg5, A5, c5, l5, rfl, hf5, hb5⟩; have hbw := below_step (w := W0) (by (repeat (first | with_reducible exact Below.refl _ _ | with_reducible assumption | with_reducible refine Below.drew ?_ | with_reducible refine below_alloc ?_ _))) hb5; have hsw := hbw.size; obtain ⟨hc, hfz⟩ := bcell hbw; (try ((first | have u5a : Fr W0 w' _ := Fr.below (Fr.new (by (repeat (first | with_reducible exact Below.refl _ _ | with_reducible assumption | with_reducible refine Below.drew ?_ | with_reducible refine below_alloc ?_ _))) rfl) hb5 | have u5a : Fr W0 w' _ := Fr.below (Fr.drew (Fr.new (by (repeat (first | with_reducible exact Below.refl _ _ | with_reducible assumption | with_reducible refine Below.drew ?_ | with_reducible refine below_alloc ?_ _))) rfl)) hb5); (try simp only [World.size_alloc] at u5a); (try dsimp only [World.drew] at u5a); (try simp only [World.size_alloc] at u5a); obtain ⟨⟨u5a1, u5a2, u5a3⟩, ⟨u5a4, u5a5, u5a6⟩, ⟨u5a7, u5a8, u5a9⟩, ⟨u5a10, u5a11, u5a12⟩, u5a13, u5a14⟩ := Fr.facts u5a)); (try ((first | have u5b : Fr W0 w' _ := Fr.below (Fr.alloc (Fr.new (by (repeat (first | with_reducible exact Below.refl _ _ | with_reducible assumption | with_reducible refine Below.drew ?_ | with_reducible refine below_alloc ?_ _))) rfl)) hb5 | have u5b : Fr W0 w' _ := Fr.below (Fr.drew (Fr.alloc (Fr.new (by (repeat (first | with_reducible exact Below.refl _ _ | with_reducible assumption | with_reducible refine Below.drew ?_ | with_reducible refine below_alloc ?_ _))) rfl))) hb5); (try simp only [World.size_alloc] at u5b); (try dsimp only [World.drew] at u5b); (try simp only [World.size_alloc] at u5b); obtain ⟨⟨u5b1, u5b2, u5b3⟩, ⟨u5b4, u5b5, u5b6⟩, ⟨u5b7, u5b8, u5b9⟩, ⟨u5b10, u5b11, u5b12⟩, u5b13, u5b14⟩ := Fr.facts u5b))) | (go_at_call_of 124 (Value.agg #[.int .i64 s3, .bool neg3, .slice A3 l3.length c3]); refine ((unhide HH) s3 neg3 A3 c3 l3 s2 neg2 A2 c2 l2 _ (below_step' hw0 (by (repeat (first | with_reducible exact Below.refl _ _ | with_reducible assumption | with_reducible refine Below.drew ?_ | with_reducible refine below_alloc ?_ _)))) (IntF.below (unhide H3) (by (repeat (first | with_reducible exact Below.refl _ _ | with_reducible assumption | with_reducible refine Below.drew ?_ | with_reducible refine below_alloc ?_ _)))) (IntF.below (unhide H2) (by (repeat (first | with_reducible exact Below.refl _ _ | with_reducible assumption | with_reducible refine Below.drew ?_ | with_reducible refine below_alloc ?_ _))))).mono ?_; rintro e w' ⟨s6, neg6, A6, c6, l6, rfl, hf6, hb6⟩; have hf5 := IntF.below (IntF.below hf5 (by (repeat (first | with_reducible exact Below.refl _ _ | with_reducible assumption | with_reducible refine Below.drew ?_ | with_reducible refine below_alloc ?_ _)))) hb6; have hbw := below_step (w := W0) (by (repeat (first | with_reducible exact Below.refl _ _ | with_reducible assumption | with_reducible refine Below.drew ?_ | with_reducible refine below_alloc ?_ _))) hb6; have hsw := hbw.size; obtain ⟨hc, hfz⟩ := bcell hbw; (try ((first | have u6a : Fr W0 w' _ := Fr.below (Fr.new (by (repeat (first | with_reducible exact Below.refl _ _ | with_reducible assumption | with_reducible refine Below.drew ?_ | with_reducible refine below_alloc ?_ _))) rfl) hb6 | have u6a : Fr W0 w' _ := Fr.below (Fr.drew (Fr.new (by (repeat (first | with_reducible exact Below.refl _ _ | with_reducible assumption | with_reducible refine Below.drew ?_ | with_reducible refine below_alloc ?_ _))) rfl)) hb6); (try simp only [World.size_alloc] at u6a); (try dsimp only [World.drew] at u6a); (try simp only [World.size_alloc] at u6a); obtain ⟨⟨u6a1, u6a2, u6a3⟩, ⟨u6a4, u6a5, u6a6⟩, ⟨u6a7, u6a8, u6a9⟩, ⟨u6a10, u6a11, u6a12⟩, u6a13, u6a14⟩ := Fr.facts u6a)); (try ((first | have u6b : Fr W0 w' _ := Fr.below (Fr.alloc (Fr.new (by (repeat (first | with_reducible exact Below.refl _ _ | with_reducible assumption | with_reducible refine Below.drew ?_ | with_reducible refine below_alloc ?_ _))) rfl)) hb6 | have u6b : Fr W0 w' _ := Fr.below (Fr.drew (Fr.alloc (Fr.new (by (repeat (first | with_reducible exact Below.refl _ _ | with_reducible assumption | with_reducible refine Below.drew ?_ | with_reducible refine below_alloc ?_ _))) rfl))) hb6); (try simp only [World.size_alloc] at u6b); (try dsimp only [World.drew] at u6b); (try simp only [World.size_alloc] at u6b); obtain ⟨⟨u6b1, u6b2, u6b3⟩, ⟨u6b4, u6b5, u6b6⟩, ⟨u6b7, u6b8, u6b9⟩, ⟨u6b10, u6b11, u6b12⟩, u6b13, u6b14⟩ := Fr.facts u6b)); (try ((first | have u6c : Fr W0 w' _ := Fr.below u5a hb6 | have u6c : Fr W0 w' _ := Fr.below (Fr.alloc u5a) hb6 | have u6c : Fr W0 w' _ := Fr.below (Fr.alloc (Fr.alloc u5a)) hb6); (try simp only [World.size_alloc] at u6c); (try dsimp only [World.drew] at u6c); (try simp only [World.size_alloc] at u6c); obtain ⟨⟨u6c1, u6c2, u6c3⟩, ⟨u6c4, u6c5, u6c6⟩, ⟨u6c7, u6c8, u6c9⟩, ⟨u6c10, u6c11, u6c12⟩, u6c13, u6c14⟩ := Fr.facts u6c)); (try ((first | have u6d : Fr W0 w' _ := Fr.below u5b hb6 | have u6d : Fr W0 w' _ := Fr.below (Fr.alloc u5b) hb6 | have u6d : Fr W0 w' _ := Fr.below (Fr.alloc (Fr.alloc u5b)) hb6); (try simp only [World.size_alloc] at u6d); (try dsimp only [World.drew] at u6d); (try simp only [World.size_alloc] at u6d); obtain ⟨⟨u6d1, u6d2, u6d3⟩, ⟨u6d4, u6d5, u6d6⟩, ⟨u6d7, u6d8, u6d9⟩, ⟨u6d10, u6d11, u6d12⟩, u6d13, u6d14⟩ := Fr.facts u6d))))
    all_goals (go_wp2_with fail; go_meet; refine ⟨_, _, rfl, rfl, ?_⟩; first | with_reducible exact put_two ⟨by assumption, by assumption, by first | assumption | omega⟩ hf5 hf6 hbw | with_reducible exact put_two (Fr2.newR (by assumption) rfl) hf5.alloc hf6.alloc (below_alloc hbw _) | with_reducible exact put_two (Fr2.newL (by assumption) rfl) hf5.alloc hf6.alloc (below_alloc hbw _) | with_reducible exact put_nn hf5 hf6 hbw rfl rfl | with_reducible exact put_mm hf5 hf6 hbw rfl rfl | with_reducible exact put_ns (by assumption) hf5 hf6 hbw rfl)
  case rest =>
    revert hcut
    generalize wc = W1
    intro hcut
    obtain ⟨b5, b6, rfl, rfl, B5, B6, hbx, ob5, ob6⟩ := hcut
    obtain ⟨hc, hfz⟩ := bcell hbx
    replace k0_0 := (hc _ _ q0).trans k0_0
    replace k0_1 := (hc _ _ q0).trans k0_1
    replace k0_2 := (hc _ _ q0).trans k0_2
    replace k0_3 := (hc _ _ q0).trans k0_3
    replace k0_4 := (hc _ _ q0).trans k0_4
    replace k0_5 := (hc _ _ q0).trans k0_5
    replace q0 := Nat.lt_of_lt_of_le q0 hbx.size
    replace k1_0 := (hc _ _ q1).trans k1_0
    replace k1_1 := (hc _ _ q1).trans k1_1
    replace k1_2 := (hc _ _ q1).trans k1_2
    replace k1_3 := (hc _ _ q1).trans k1_3
    replace k1_4 := (hc _ _ q1).trans k1_4
    replace k1_5 := (hc _ _ q1).trans k1_5
    replace q1 := Nat.lt_of_lt_of_le q1 hbx.size
    replace ob5 : w.heap.size + 1 + 1 < b5 := Nat.lt_of_lt_of_le q2 ob5
    replace ob6 : w.heap.size + 1 + 1 < b6 := Nat.lt_of_lt_of_le q2 ob6
    replace k2_0 := (hc _ _ q2).trans k2_0
    replace f2_0 := (hfz _ _ q2).trans f2_0
    replace k2_1 := (hc _ _ q2).trans k2_1
    replace f2_1 := (hfz _ _ q2).trans f2_1
    replace k2_2 := (hc _ _ q2).trans k2_2
    replace f2_2 := (hfz _ _ q2).trans f2_2
    replace k2_3 := (hc _ _ q2).trans k2_3
    replace f2_3 := (hfz _ _ q2).trans f2_3
    replace k2_4 := (hc _ _ q2).trans k2_4
    replace f2_4 := (hfz _ _ q2).trans f2_4
    replace k2_5 := (hc _ _ q2).trans k2_5
    replace f2_5 := (hfz _ _ q2).trans f2_5
    replace NR := Lib.hid ((hbx.block _ q2).trans NR.out)
    replace q2 := Nat.lt_of_lt_of_le q2 hbx.size
    replace hw0 := below_step' hw0 hbx
    replace H1 := hide ((unhide H1).below hbx)
    replace H2 := hide ((unhide H2).below hbx)
    replace H3 := hide ((unhide H3).below hbx)
    replace H4 := hide ((unhide H4).below hbx)
    obtain ⟨s5, neg5, A5, c5, l5, n5, H5⟩ := B5
    have kb5_0 : W1.cell? ⟨b5, 0, none⟩ = some (.int .i64 s5) := cells_of n5 0
    have kb5_1 : W1.cell? ⟨b5, 1, none⟩ = some (.bool neg5) := cells_of n5 1
    have kb5_2 : W1.cell? ⟨b5, 2, none⟩ = some (.slice A5 l5.length c5) := cells_of n5 2
    have qb5 := lt_of_block n5
    replace H5 := hide H5
    clear n5
    obtain ⟨s6, neg6, A6, c6, l6, n6, H6⟩ := B6
    have kb6_0 : W1.cell? ⟨b6, 0, none⟩ = some (.int .i64 s6) := cells_of n6 0
    have kb6_1 : W1.cell? ⟨b6, 1, none⟩ = some (.bool neg6) := cells_of n6 1
    have kb6_2 : W1.cell? ⟨b6, 2, none⟩ = some (.slice A6 l6.length c6) := cells_of n6 2
    have qb6 := lt_of_block n6
    replace H6 := hide H6
    clear n6
    clear hbx hc hfz
    go_upto_region 2 with fail
    have KEEP := hide (show ∀ X, Below W1.heap.size W1 X → X.cell? ⟨w.heap.size, 0, none⟩ = some (.int .i64 s1) ∧ X.cell? ⟨w.heap.size, 1, none⟩ = some (.bool neg1) ∧ X.cell? ⟨w.heap.size, 2, none⟩ = some (.slice A1 l1.length c1) ∧ X.cell? ⟨w.heap.size, 3, none⟩ = some (.int .i64 s2) ∧ X.cell? ⟨w.heap.size, 4, none⟩ = some (.bool neg2) ∧ X.cell? ⟨w.heap.size, 5, none⟩ = some (.slice A2 l2.length c2) ∧ X.cell? ⟨w.heap.size + 1, 0, none⟩ = some (.int .i64 s3) ∧ X.cell? ⟨w.heap.size + 1, 1, none⟩ = some (.bool neg3) ∧ X.cell? ⟨w.heap.size + 1, 2, none⟩ = some (.slice A3 l3.length c3) ∧ X.cell? ⟨w.heap.size + 1, 3, none⟩ = some (.int .i64 s4) ∧ X.cell? ⟨w.heap.size + 1, 4, none⟩ = some (.bool neg4) ∧ X.cell? ⟨w.heap.size + 1, 5, none⟩ = some (.slice A4 l4.length c4) ∧ X.cell? ⟨b5, 0, none⟩ = some (.int .i64 s5) ∧ X.cell? ⟨b5, 1, none⟩ = some (.bool neg5) ∧ X.cell? ⟨b5, 2, none⟩ = some (.slice A5 l5.length c5) ∧ X.cell? ⟨b6, 0, none⟩ = some (.int .i64 s6) ∧ X.cell? ⟨b6, 1, none⟩ = some (.bool neg6) ∧ X.cell? ⟨b6, 2, none⟩ = some (.slice A6 l6.length c6) from fun X hB => ⟨keep_cell hB q0 k0_0, keep_cell hB q0 k0_1, keep_cell hB q0 k0_2, keep_cell hB q0 k0_3, keep_cell hB q0 k0_4, keep_cell hB q0 k0_5, keep_cell hB q1 k1_0, keep_cell hB q1 k1_1, keep_cell hB q1 k1_2, keep_cell hB q1 k1_3, keep_cell hB q1 k1_4, keep_cell hB q1 k1_5, keep_cell hB qb5 kb5_0, keep_cell hB qb5 kb5_1, keep_cell hB qb5 kb5_2, keep_cell hB qb6 kb6_0, keep_cell hB qb6 kb6_1, keep_cell hB qb6 kb6_2⟩)
    go_region_held3 (fun w' => w'.cell? ⟨w.heap.size, 0, none⟩ = some (.int .i64 s1) ∧ w'.cell? ⟨w.heap.size, 1, none⟩ = some (.bool neg1) ∧ w'.cell? ⟨w.heap.size, 2, none⟩ = some (.slice A1 l1.length c1) ∧ w'.cell? ⟨w.heap.size, 3, none⟩ = some (.int .i64 s2) ∧ w'.cell? ⟨w.heap.size, 4, none⟩ = some (.bool neg2) ∧ w'.cell? ⟨w.heap.size, 5, none⟩ = some (.slice A2 l2.length c2) ∧ w'.cell? ⟨w.heap.size + 1, 0, none⟩ = some (.int .i64 s3) ∧ w'.cell? ⟨w.heap.size + 1, 1, none⟩ = some (.bool neg3) ∧ w'.cell? ⟨w.heap.size + 1, 2, none⟩ = some (.slice A3 l3.length c3) ∧ w'.cell? ⟨w.heap.size + 1, 3, none⟩ = some (.int .i64 s4) ∧ w'.cell? ⟨w.heap.size + 1, 4, none⟩ = some (.bool neg4) ∧ w'.cell? ⟨w.heap.size + 1, 5, none⟩ = some (.slice A4 l4.length c4) ∧ w'.cell? ⟨b5, 0, none⟩ = some (.int .i64 s5) ∧ w'.cell? ⟨b5, 1, none⟩ = some (.bool neg5) ∧ w'.cell? ⟨b5, 2, none⟩ = some (.slice A5 l5.length c5) ∧ w'.cell? ⟨b6, 0, none⟩ = some (.int .i64 s6) ∧ w'.cell? ⟨b6, 1, none⟩ = some (.bool neg6) ∧ w'.cell? ⟨b6, 2, none⟩ = some (.slice A6 l6.length c6)) (first | with_reducible exact ⟨(cell_set6 _ _ _ _ _ _ _ _ (by omega)).trans (keep_cell hbw q0 k0_0), (cell_set6 _ _ _ _ _ _ _ _ (by omega)).trans (keep_cell hbw q0 k0_1), (cell_set6 _ _ _ _ _ _ _ _ (by omega)).trans (keep_cell hbw q0 k0_2), (cell_set6 _ _ _ _ _ _ _ _ (by omega)).trans (keep_cell hbw q0 k0_3), (cell_set6 _ _ _ _ _ _ _ _ (by omega)).trans (keep_cell hbw q0 k0_4), (cell_set6 _ _ _ _ _ _ _ _ (by omega)).trans (keep_cell hbw q0 k0_5), (cell_set6 _ _ _ _ _ _ _ _ (by omega)).trans (keep_cell hbw q1 k1_0), (cell_set6 _ _ _ _ _ _ _ _ (by omega)).trans (keep_cell hbw q1 k1_1), (cell_set6 _ _ _ _ _ _ _ _ (by omega)).trans (keep_cell hbw q1 k1_2), (cell_set6 _ _ _ _ _ _ _ _ (by omega)).trans (keep_cell hbw q1 k1_3), (cell_set6 _ _ _ _ _ _ _ _ (by omega)).trans (keep_cell hbw q1 k1_4), (cell_set6 _ _ _ _ _ _ _ _ (by omega)).trans (keep_cell hbw q1 k1_5), (cell_set6 _ _ _ _ _ _ _ _ (by omega)).trans (keep_cell hbw qb5 kb5_0), (cell_set6 _ _ _ _ _ _ _ _ (by omega)).trans (keep_cell hbw qb5 kb5_1), (cell_set6 _ _ _ _ _ _ _ _ (by omega)).trans (keep_cell hbw qb5 kb5_2), (cell_set6 _ _ _ _ _ _ _ _ (by omega)).trans (keep_cell hbw qb6 kb6_0), (cell_set6 _ _ _ _ _ _ _ _ (by omega)).trans (keep_cell hbw qb6 kb6_1), (cell_set6 _ _ _ _ _ _ _ _ (by omega)).trans (keep_cell hbw qb6 kb6_2)⟩ | with_reducible exact (unhide KEEP) _ (by (repeat (first | with_reducible exact Below.refl _ _ | with_reducible assumption | with_reducible refine Below.drew ?_ | with_reducible refine below_alloc ?_ _)))) (first | (go_at_call_of 125 (Value.agg #[.int .i64 s1, .bool neg1, .slice A1 l1.length c1]); refine ((unhide HA) s1 neg1 A1 c1 l1 s5 neg5 A5 c5 l5 _ (below_step' hw0 (by (repeat (first | with_reducible exact Below.refl _ _ | with_reducible assumption | with_reducible refine Below.drew ?_ | with_reducible refine below_alloc ?_ _)))) (IntF.below (unhide H1) (by (repeat (first | with_reducible exact Below.refl _ _ | with_reducible assumption | with_reducible refine Below.drew ?_ | with_reducible refine below_alloc ?_ _)))) (IntF.below (unhide H5) (by (repeat (first | with_reducible exact Below.refl _ _ | with_reducible assumption | with_reducible refine Below.drew ?_ | with_reducible refine below_alloc ?_ _))))).mono ?_; rintro e w' ⟨s7, neg7, A7, c7, l7, rfl, hf7, hb7⟩; have hbw := below_step (w := W1) (by (repeat (first | with_reducible exact Below.refl _ _ | with_reducible assumption | with_reducible refine Below.drew ?_ | with_reducible refine below_alloc ?_ _))) hb7; have hsw := hbw.size; obtain ⟨hc, hfz⟩ := bcell hbw) | (go_at_call_of 125 (Value.agg #[.int .i64 s3, .bool neg3, .slice A3 l3.length c3]); refine ((unhide HB) s3 neg3 A3 c3 l3 s6 neg6 A6 c6 l6 _ (below_step' hw0 (by (repeat (first | with_reducible exact Below.refl _ _ | with_reducible assumption | with_reducible refine Below.drew ?_ | with_reducible refine below_alloc ?_ _)))) (IntF.below (unhide H3) (by (repeat (first | with_reducible exact Below.refl _ _ | with_reducible assumption | with_reducible refine Below.drew ?_ | with_reducible refine below_alloc ?_ _)))) (IntF.below (unhide H6) (by (repeat (first | with_reducible exact Below.refl _ _ | with_reducible assumption | with_reducible refine Below.drew ?_ | with_reducible refine below_alloc ?_ _))))).mono ?_; rintro e w' ⟨s8, neg8, A8, c8, l8, rfl, hf8, hb8⟩; have hf7 := IntF.below (IntF.below hf7 (by (repeat (first | with_reducible exact Below.refl _ _ | with_reducible assumption | with_reducible refine Below.drew ?_ | with_reducible refine below_alloc ?_ _)))) hb8; have hbw := below_step (w := W1) (by (repeat (first | with_reducible exact Below.refl _ _ | with_reducible assumption | with_reducible refine Below.drew ?_ | with_reducible refine below_alloc ?_ _))) hb8; have hsw := hbw.size; obtain ⟨hc, hfz⟩ := bcell hbw) | (go_at_call_of 112 (Value.agg #[.int .i64 s7, .bool neg7, .slice A7 l7.length c7]); refine ((unhide HR1) s7 neg7 A7 c7 l7 s8 neg8 A8 c8 l8 _ (below_step' hw0 (by (repeat (first | with_reducible exact Below.refl _ _ | with_reducible assumption | with_reducible refine Below.drew ?_ | with_reducible refine below_alloc ?_ _)))) (IntF.below hf7 (by (repeat (first | with_reducible exact Below.refl _ _ | with_reducible assumption | with_reducible refine Below.drew ?_ | with_reducible refine below_alloc ?_ _)))) (IntF.below hf8 (by (repeat (first | with_reducible exact Below.refl _ _ | with_reducible assumption | with_reducible refine Below.drew ?_ | with_reducible refine below_alloc ?_ _))))).mono ?_; rintro e w' ⟨s9, neg9, A9, c9, l9, rfl, hf9, hb9⟩; have hf7 := IntF.below (IntF.below hf7 (by (repeat (first | with_reducible exact Below.refl _ _ | with_reducible assumption | with_reducible refine Below.drew ?_ | with_reducible refine below_alloc ?_ _)))) hb9; have hf8 := IntF.below (IntF.below hf8 (by (repeat (first | with_reducible exact Below.refl _ _ | with_reducible assumption | with_reducible refine Below.drew ?_ | with_reducible refine below_alloc ?_ _)))) hb9; have hbw := below_step (w := W1) (by (repeat (first | with_reducible exact Below.refl _ _ | with_reducible assumption | with_reducible refine Below.drew ?_ | with_reducible refine below_alloc ?_ _))) hb9; have hsw := hbw.size; obtain ⟨hc, hfz⟩ := bcell hbw) | (go_at_call_of 125 (Value.agg #[.int .i64 s2, .bool neg2, .slice A2 l2.length c2]); refine ((unhide HC) s2 neg2 A2 c2 l2 s6 neg6 A6 c6 l6 _ (below_step' hw0 (by (repeat (first | with_reducible exact Below.refl _ _ | with_reducible assumption | with_reducible refine Below.drew ?_ | with_reducible refine below_alloc ?_ _)))) (IntF.below (unhide H2) (by (repeat (first | with_reducible exact Below.refl _ _ | with_reducible assumption | with_reducible refine Below.drew ?_ | with_reducible refine below_alloc ?_ _)))) (IntF.below (unhide H6) (by (repeat (first | with_reducible exact Below.refl _ _ | with_reducible assumption | with_reducible refine Below.drew ?_ | with_reducible refine below_alloc ?_ _))))).mono ?_; rintro e w' ⟨s10, neg10, A10, c10, l10, rfl, hf10, hb10⟩; have hf7 := IntF.below (IntF.below hf7 (by (repeat (first | with_reducible exact Below.refl _ _ | with_reducible assumption | with_reducible refine Below.drew ?_ | with_reducible refine below_alloc ?_ _)))) hb10; have hf8 := IntF.below (IntF.below hf8 (by (repeat (first | with_reducible exact Below.refl _ _ | with_reducible assumption | with_reducible refine Below.drew ?_ | with_reducible refine below_alloc ?_ _)))) hb10; have hf9 := IntF.below (IntF.below hf9 (by (repeat (first | with_reducible exact Below.refl _ _ | with_reducible assumption | with_reducible refine Below.drew ?_ | with_reducible refine below_alloc ?_ _)))) hb10; have hbw := below_step (w := W1) (by (repeat (first | with_reducible exact Below.refl _ _ | with_reducible assumption | with_reducible refine Below.drew ?_ | with_reducible refine below_alloc ?_ _))) hb10; have hsw := hbw.size; obtain ⟨hc, hfz⟩ := bcell hbw) | (go_at_call_of 125 (Value.agg #[.int .i64 s4, .bool neg4, .slice A4 l4.length c4]); refine ((unhide HD) s4 neg4 A4 c4 l4 s5 neg5 A5 c5 l5 _ (below_step' hw0 (by (repeat (first | with_reducible exact Below.refl _ _ | with_reducible assumption | with_reducible refine Below.drew ?_ | with_reducible refine below_alloc ?_ _)))) (IntF.below (unhide H4) (by (repeat (first | with_reducible exact Below.refl _ _ | with_reducible assumption | with_reducible refine Below.drew ?_ | with_reducible refine below_alloc ?_ _)))) (IntF.below (unhide H5) (by (repeat (first | with_reducible exact Below.refl _ _ | with_reducible assumption | with_reducible refine Below.drew ?_ | with_reducible refine below_alloc ?_ _))))).mono ?_; rintro e w' ⟨s11, neg11, A11, c11, l11, rfl, hf11, hb11⟩; have hf7 := IntF.below (IntF.below hf7 (by (repeat (first | with_reducible exact Below.refl _ _ | with_reducible assumption | with_reducible refine Below.drew ?_ | with_reducible refine below_alloc ?_ _)))) hb11; have hf8 := IntF.below (IntF.below hf8 (by (repeat (first | with_reducible exact Below.refl _ _ | with_reducible assumption | with_reducible refine Below.drew ?_ | with_reducible refine below_alloc ?_ _)))) hb11; have hf9 := IntF.below (IntF.below hf9 (by (repeat (first | with_reducible exact Below.refl _ _ | with_reducible assumption | with_reducible refine Below.drew ?_ | with_reducible refine below_alloc ?_ _)))) hb11; have hf10 := IntF.below (IntF.below hf10 (by (repeat (first | with_reducible exact Below.refl _ _ | with_reducible assumption | with_reducible refine Below.drew ?_ | with_reducible refine below_alloc ?_ _)))) hb11; have hbw := below_step (w := W1) (by (repeat (first | with_reducible exact Below.refl _ _ | with_reducible assumption | with_reducible refine Below.drew ?_ | with_reducible refine below_alloc ?_ _))) hb11; have hsw := hbw.size; obtain ⟨hc, hfz⟩ := bcell hbw) | (go_at_call_of 112 (Value.agg #[.int .i64 s10, .bool neg10, .slice A10 l10.length c10]); refine ((unhide HR2) s10 neg10 A10 c10 l10 s11 neg11 A11 c11 l11 _ (below_step' hw0 (by (repeat (first | with_reducible exact Below.refl _ _ | with_reducible assumption | with_reducible refine Below.drew ?_ | with_reducible refine below_alloc ?_ _)))) (IntF.below hf10 (by (repeat (first | with_reducible exact Below.refl _ _ | with_reducible assumption | with_reducible refine Below.drew ?_ | with_reducible refine below_alloc ?_ _)))) (IntF.below hf11 (by (repeat (first | with_reducible exact Below.refl _ _ | with_reducible assumption | with_reducible refine Below.drew ?_ | with_reducible refine below_alloc ?_ _))))).mono ?_; rintro e w' ⟨s12, neg12, A12, c12, l12, rfl, hf12, hb12⟩; have hf7 := IntF.below (IntF.below hf7 (by (repeat (first | with_reducible exact Below.refl _ _ | with_reducible assumption | with_reducible refine Below.drew ?_ | with_reducible refine below_alloc ?_ _)))) hb12; have hf8 := IntF.below (IntF.below hf8 (by (repeat (first | with_reducible exact Below.refl _ _ | with_reducible assumption | with_reducible refine Below.drew ?_ | with_reducible refine below_alloc ?_ _)))) hb12; have hf9 := IntF.below (IntF.below hf9 (by (repeat (first | with_reducible exact Below.refl _ _ | with_reducible assumption | with_reducible refine Below.drew ?_ | with_reducible refine below_alloc ?_ _)))) hb12; have hf10 := IntF.below (IntF.below hf10 (by (repeat (first | with_reducible exact Below.refl _ _ | with_reducible assumption | with_reducible refine Below.drew ?_ | with_reducible refine below_alloc ?_ _)))) hb12; have hf11 := IntF.below (IntF.below hf11 (by (repeat (first | with_reducible exact Below.refl _ _ | with_reducible assumption | with_reducible refine Below.drew ?_ | with_reducible refine below_alloc ?_ _)))) hb12; have hbw := below_step (w := W1) (by (repeat (first | with_reducible exact Below.refl _ _ | with_reducible assumption | with_reducible refine Below.drew ?_ | with_reducible refine below_alloc ?_ _))) hb12; have hsw := hbw.size; obtain ⟨hc, hfz⟩ := bcell hbw))
    have hblk : w'.heap[w.heap.size + 1 + 1]? = some (.cells #[.int .i64 0, .bool false, .slice none 0 0, .int .i64 0, .bool false, .slice none 0 0] 63 (0, 0)) := (hbw.block _ q2).trans NR.out
    have HBLK := Lib.hid hblk
    have hb9 : Below w.heap.size w w' := below_step' hw0 hbw
    clear hblk
    go_wp2_with fail
    exact bodyPost_ret (v := (Value.agg #[.int .i64 s9, .bool neg9, .slice A9 l9.length c9, .int .i64 s12, .bool neg12, .slice A12 l12.length c12])) (by simp [results, Tryz.results71, go_sem, hc, k2_0, k2_1, k2_2, k2_3, k2_4, k2_5, q2]) rfl
      ⟨s9, neg9, A9, c9, l9, s12, neg12, A12, c12, l12, rfl, (hf9).upto HBLK.out (noWord6 _ _ _ _ _ _ _ _ _ _) (set6_grown _ _ _ _ _ _ _ _), (hf12).upto HBLK.out (noWord6 _ _ _ _ _ _ _ _ _ _) (set6_grown _ _ _ _ _ _ _ _), hb9.grown (set6_grown _ _ _ _ _ _ _ _) hb9.size (fun k hk => by injection hk with hk; omega)⟩

end Go.Proofs.YtpjgoogeokbaaaaGreatDoor
/- The opposite of a quotient. -/
namespace Go.Proofs.YtpjgoogeokbaaaaGreatDoor
open Go.RowKit

set_option maxRecDepth 100000 in
set_option maxHeartbeats 8000000 in
theorem rneg_any (s1 : Int) (neg1 : Bool) (A1 : Option Addr) (c1 : Nat) (l1 : List Nat) (z1 : Int) (s2 : Int) (neg2 : Bool) (A2 : Option Addr) (c2 : Nat) (l2 : List Nat) (z2 : Int) (w : World) (h1 : IntF w s1 neg1 A1 c1 l1 z1) (h2 : IntF w s2 neg2 A2 c2 l2 z2) :
    Calls Tryz.prog 87 #[(Value.agg #[.int .i64 s1, .bool neg1, .slice A1 l1.length c1, .int .i64 s2, .bool neg2, .slice A2 l2.length c2])] w fun e w' => PairR w (-z1) z2 e w' := by
  have H1 := hide h1
  have H2 := hide h2
  clear h1 h2
  go_enter Tryz.func87, Tryz.ntmps87
  go_wp2_with fail
  obtain ⟨n0, n1, hsz, hw0⟩ := two_new w (.cells #[.int .i64 s1, .bool neg1, .slice A1 l1.length c1, .int .i64 s2, .bool neg2, .slice A2 l2.length c2] 63) (.cells #[.int .i64 0, .bool false, .slice none 0 0, .int .i64 0, .bool false, .slice none 0 0] 63)
  generalize ((w.alloc (.cells #[.int .i64 s1, .bool neg1, .slice A1 l1.length c1, .int .i64 s2, .bool neg2, .slice A2 l2.length c2] 63)).alloc (.cells #[.int .i64 0, .bool false, .slice none 0 0, .int .i64 0, .bool false, .slice none 0 0] 63)) = W0 at *
  have k0_0 : W0.cell? ⟨w.heap.size, 0, none⟩ = some (.int .i64 s1) := cells_of n0 0
  have k0_1 : W0.cell? ⟨w.heap.size, 1, none⟩ = some (.bool neg1) := cells_of n0 1
  have k0_2 : W0.cell? ⟨w.heap.size, 2, none⟩ = some (.slice A1 l1.length c1) := cells_of n0 2
  have k0_3 : W0.cell? ⟨w.heap.size, 3, none⟩ = some (.int .i64 s2) := cells_of n0 3
  have k0_4 : W0.cell? ⟨w.heap.size, 4, none⟩ = some (.bool neg2) := cells_of n0 4
  have k0_5 : W0.cell? ⟨w.heap.size, 5, none⟩ = some (.slice A2 l2.length c2) := cells_of n0 5
  have q0 : w.heap.size < W0.heap.size := by omega
  have k1_0 : W0.cell? ⟨w.heap.size + 1, 0, none⟩ = some (.int .i64 0) := cells_of n1 0
  have k1_1 : W0.cell? ⟨w.heap.size + 1, 1, none⟩ = some (.bool false) := cells_of n1 1
  have k1_2 : W0.cell? ⟨w.heap.size + 1, 2, none⟩ = some (.slice none 0 0) := cells_of n1 2
  have k1_3 : W0.cell? ⟨w.heap.size + 1, 3, none⟩ = some (.int .i64 0) := cells_of n1 3
  have k1_4 : W0.cell? ⟨w.heap.size + 1, 4, none⟩ = some (.bool false) := cells_of n1 4
  have k1_5 : W0.cell? ⟨w.heap.size + 1, 5, none⟩ = some (.slice none 0 0) := cells_of n1 5
  have q1 : w.heap.size + 1 < W0.heap.size := by omega
  have f1_0 := unfrozen_of n1 0
  have f1_1 := unfrozen_of n1 1
  have f1_2 := unfrozen_of n1 2
  have f1_3 := unfrozen_of n1 3
  have f1_4 := unfrozen_of n1 4
  have f1_5 := unfrozen_of n1 5
  have NR := Lib.hid n1
  clear n0 n1
  go_region_held3 (fun w' => w'.cell? ⟨w.heap.size, 0, none⟩ = some (.int .i64 s1) ∧ w'.cell? ⟨w.heap.size, 1, none⟩ = some (.bool neg1) ∧ w'.cell? ⟨w.heap.size, 2, none⟩ = some (.slice A1 l1.length c1) ∧ w'.cell? ⟨w.heap.size, 3, none⟩ = some (.int .i64 s2) ∧ w'.cell? ⟨w.heap.size, 4, none⟩ = some (.bool neg2) ∧ w'.cell? ⟨w.heap.size, 5, none⟩ = some (.slice A2 l2.length c2)) ((first | with_reducible exact ⟨(hc _ _ q0).trans k0_0, (hc _ _ q0).trans k0_1, (hc _ _ q0).trans k0_2, (hc _ _ q0).trans k0_3, (hc _ _ q0).trans k0_4, (hc _ _ q0).trans k0_5⟩ | with_reducible exact ⟨k0_0, k0_1, k0_2, k0_3, k0_4, k0_5⟩ | with_reducible exact ⟨(cell_set6 _ _ _ _ _ _ _ _ (by omega)).trans ((hc _ _ q0).trans k0_0), (cell_set6 _ _ _ _ _ _ _ _ (by omega)).trans ((hc _ _ q0).trans k0_1), (cell_set6 _ _ _ _ _ _ _ _ (by omega)).trans ((hc _ _ q0).trans k0_2), (cell_set6 _ _ _ _ _ _ _ _ (by omega)).trans ((hc _ _ q0).trans k0_3), (cell_set6 _ _ _ _ _ _ _ _ (by omega)).trans ((hc _ _ q0).trans k0_4), (cell_set6 _ _ _ _ _ _ _ _ (by omega)).trans ((hc _ _ q0).trans k0_5)⟩ | exact ⟨(hc _ _ q0).trans k0_0, (hc _ _ q0).trans k0_1, (hc _ _ q0).trans k0_2, (hc _ _ q0).trans k0_3, (hc _ _ q0).trans k0_4, (hc _ _ q0).trans k0_5⟩ | exact ⟨k0_0, k0_1, k0_2, k0_3, k0_4, k0_5⟩ | exact ⟨(cell_set6 _ _ _ _ _ _ _ _ (by omega)).trans ((hc _ _ q0).trans k0_0), (cell_set6 _ _ _ _ _ _ _ _ (by omega)).trans ((hc _ _ q0).trans k0_1), (cell_set6 _ _ _ _ _ _ _ _ (by omega)).trans ((hc _ _ q0).trans k0_2), (cell_set6 _ _ _ _ _ _ _ _ (by omega)).trans ((hc _ _ q0).trans k0_3), (cell_set6 _ _ _ _ _ _ _ _ (by omega)).trans ((hc _ _ q0).trans k0_4), (cell_set6 _ _ _ _ _ _ _ _ (by omega)).trans ((hc _ _ q0).trans k0_5)⟩)) (first | (go_at_call_of 129 (Value.agg #[.int .i64 s1, .bool neg1, .slice A1 l1.length c1]); refine (neg_any s1 neg1 A1 c1 l1 z1 _ (by exact (unhide H1).below (below_step' hw0 (by (first | assumption | (repeat (first | exact Below.refl _ _ | assumption | refine Below.drew ?_ | (refine Below.alloc ?_ (by simp <;> omega) _)))))))).mono ?_; rintro e w' ⟨s5, neg5, A5, c5, l5, rfl, hf5, hb⟩; have hbw := below_step (w := W0) (by (first | assumption | (repeat (first | exact Below.refl _ _ | assumption | refine Below.drew ?_ | (refine Below.alloc ?_ (by simp <;> omega) _))))) hb; obtain ⟨hc, hfz⟩ := bcell hbw))
  have hblk : w'.heap[w.heap.size + 1]? = some (.cells #[.int .i64 0, .bool false, .slice none 0 0, .int .i64 0, .bool false, .slice none 0 0] 63 (0, 0)) := (hbw.block _ q1).trans NR.out
  have HBLK := Lib.hid hblk
  have hb9 : Below w.heap.size w w' := below_step' hw0 hbw
  clear hblk
  go_wp2_with fail
  exact bodyPost_ret (v := (Value.agg #[.int .i64 s5, .bool neg5, .slice A5 l5.length c5, .int .i64 s2, .bool neg2, .slice A2 l2.length c2])) (by simp [results, Tryz.results87, go_sem, hc, k1_0, k1_1, k1_2, k1_3, k1_4, k1_5, q1]) rfl
    ⟨s5, neg5, A5, c5, l5, s2, neg2, A2, c2, l2, rfl, (hf5).upto HBLK.out (noWord6 _ _ _ _ _ _ _ _ _ _) (set6_grown _ _ _ _ _ _ _ _), ((unhide H2).below (below_step' hw0 hbw)).upto HBLK.out (noWord6 _ _ _ _ _ _ _ _ _ _) (set6_grown _ _ _ _ _ _ _ _), hb9.grown (set6_grown _ _ _ _ _ _ _ _) hb9.size (fun k hk => by injection hk with hk; omega)⟩

end Go.Proofs.YtpjgoogeokbaaaaGreatDoor
/- The inverse of a quotient. -/
namespace Go.Proofs.YtpjgoogeokbaaaaGreatDoor
open Go.RowKit

end Go.Proofs.YtpjgoogeokbaaaaGreatDoor
/- Quotients as rational numbers. -/
namespace Go.Proofs.YtpjgoogeokbaaaaGreatDoor
open Go.RowKit

/-- Function F makes of the quotient x the quotient q, in every world that holds what w holds. -/
def OpQ1 (w : World) (F : Nat) (x q : Rat) : Prop := ∀ (s1 : Int) (neg1 : Bool) (A1 : Option Addr) (c1 : Nat) (l1 : List Nat) (s2 : Int) (neg2 : Bool) (A2 : Option Addr) (c2 : Nat) (l2 : List Nat) (W : World), Below w.heap.size w W → IntF W s1 neg1 A1 c1 l1 x.num → IntF W s2 neg2 A2 c2 l2 (x.den : Int) → Calls Tryz.prog F #[(Value.agg #[.int .i64 s1, .bool neg1, .slice A1 l1.length c1, .int .i64 s2, .bool neg2, .slice A2 l2.length c2])] W fun e w' => PairR W q.num (q.den : Int) e w'
/-- Function F makes of the quotients x and y the quotient q. -/
def OpQ2 (w : World) (F : Nat) (x y q : Rat) : Prop := ∀ (s1 : Int) (neg1 : Bool) (A1 : Option Addr) (c1 : Nat) (l1 : List Nat) (s2 : Int) (neg2 : Bool) (A2 : Option Addr) (c2 : Nat) (l2 : List Nat) (s3 : Int) (neg3 : Bool) (A3 : Option Addr) (c3 : Nat) (l3 : List Nat) (s4 : Int) (neg4 : Bool) (A4 : Option Addr) (c4 : Nat) (l4 : List Nat) (W : World), Below w.heap.size w W → IntF W s1 neg1 A1 c1 l1 x.num → IntF W s2 neg2 A2 c2 l2 (x.den : Int) → IntF W s3 neg3 A3 c3 l3 y.num → IntF W s4 neg4 A4 c4 l4 (y.den : Int) → Calls Tryz.prog F #[(Value.agg #[.int .i64 s1, .bool neg1, .slice A1 l1.length c1, .int .i64 s2, .bool neg2, .slice A2 l2.length c2]), (Value.agg #[.int .i64 s3, .bool neg3, .slice A3 l3.length c3, .int .i64 s4, .bool neg4, .slice A4 l4.length c4])] W fun e w' => PairR W q.num (q.den : Int) e w'
theorem OpQ1.mono {w w' : World} {F : Nat} {x q : Rat} (h : OpQ1 w F x q) (hb : Below w.heap.size w w') : OpQ1 w' F x q := fun _ _ _ _ _ _ _ _ _ _ W hW => h _ _ _ _ _ _ _ _ _ _ W (below_step' hb hW)
theorem OpQ2.mono {w w' : World} {F : Nat} {x y q : Rat} (h : OpQ2 w F x y q) (hb : Below w.heap.size w w') : OpQ2 w' F x y q := fun _ _ _ _ _ _ _ _ _ _ _ _ _ _ _ _ _ _ _ _ W hW => h _ _ _ _ _ _ _ _ _ _ _ _ _ _ _ _ _ _ _ _ W (below_step' hb hW)

/-- Numerator and denominator have at most K words. -/
def SzQ (K : Nat) (q : Rat) : Prop := Wd.Sz B64 K q.num ∧ Wd.Sz B64 K (q.den : Int)
theorem SzQ.mono {K L : Nat} {q : Rat} (h : SzQ K q) (hk : K ≤ L) : SzQ L q := ⟨h.1.mono B64_pos hk, h.2.mono B64_pos hk⟩
theorem SzQ.neg {K : Nat} {q : Rat} (h : SzQ K q) : SzQ K (-q) := ⟨by rw [Rat.neg_num]; exact h.1.neg, by rw [Rat.neg_den]; exact h.2⟩

theorem opq_neg (w : World) (x : Rat) : OpQ1 w 87 x (-x) := fun s1 neg1 A1 c1 l1 s2 neg2 A2 c2 l2 W _ f1 f2 => by
  rw [Rat.neg_num, Rat.neg_den]
  exact rneg_any s1 neg1 A1 c1 l1 _ s2 neg2 A2 c2 l2 _ W f1 f2
theorem opq_add {w : World} {K : Nat} (hT : Tab w) (x y : Rat) (hx : SzQ K x) (hy : SzQ K y) (hK : K + K + 1 ≤ lim) : OpQ2 w 82 x y (x + y) ∧ SzQ (K + K + 1) (x + y) := by
  have dx : (x.den : Int) ≠ 0 := by have := x.den_pos; omega
  have dy : (y.den : Int) ≠ 0 := by have := y.den_pos; omega
  obtain ⟨g, hg⟩ : ∃ g, g = x.den.gcd y.den := ⟨_, rfl⟩
  obtain ⟨xd, hxd⟩ : ∃ z, z = (x.den : Int).tdiv g := ⟨_, rfl⟩
  obtain ⟨yd, hyd⟩ : ∃ z, z = (y.den : Int).tdiv g := ⟨_, rfl⟩
  obtain ⟨m1, hm1⟩ : ∃ z, z = x.num * yd := ⟨_, rfl⟩
  obtain ⟨m2, hm2⟩ : ∃ z, z = y.num * xd := ⟨_, rfl⟩
  obtain ⟨n, hn⟩ : ∃ z, z = m1 + m2 := ⟨_, rfl⟩
  obtain ⟨h, hh⟩ : ∃ h, h = g.gcd n.natAbs := ⟨_, rfl⟩
  obtain ⟨e1, he1⟩ : ∃ z, z = (y.den : Int).tdiv h := ⟨_, rfl⟩
  have hp := Wd.add_parts_int x y g h n hg (by rw [hn, hm1, hm2, hxd, hyd]) hh
  have g0 : 0 < g := by rw [hg]; exact Nat.gcd_pos_of_pos_left _ x.den_pos
  have h0 : 0 < h := by rw [hh]; exact Nat.gcd_pos_of_pos_left _ g0
  have sg : Wd.Sz B64 K (g : Int) := by
    have := hx.2.gcd_left (b := (y.den : Int)) dx
    simpa [hg] using this
  have sh : Wd.Sz B64 K (h : Int) := by
    have := sg.gcd_left (b := n) (by omega)
    simpa [hh] using this
  have sxd : Wd.Sz B64 K xd := by rw [hxd]; exact hx.2.tdiv _
  have syd : Wd.Sz B64 K yd := by rw [hyd]; exact hy.2.tdiv _
  have sm1 : Wd.Sz B64 (K + K) m1 := by rw [hm1]; exact hx.1.mul syd
  have sm2 : Wd.Sz B64 (K + K) m2 := by rw [hm2]; exact hy.1.mul sxd
  have sn : Wd.Sz B64 (K + K + 1) n := by rw [hn]; exact sm1.add B64_pos sm2
  have se1 : Wd.Sz B64 K e1 := by rw [he1]; exact hy.2.tdiv _
  have B := B64_pos
  have up : ∀ z, Wd.Sz B64 K z → Wd.Sz B64 (K + K + 1) z := fun z hz => hz.mono B (by omega)
  refine ⟨?_, ⟨by rw [hp.1]; exact sn.tdiv _, by rw [hp.2]; exact ((hx.2.tdiv _).mul (hy.2.tdiv _)).mono B (by omega)⟩⟩
  rw [OpQ2, hp.1, hp.2]
  exact fun s1 neg1 A1 c1 l1 s2 neg2 A2 c2 l2 s3 neg3 A3 c3 l3 s4 neg4 A4 c4 l4 W hW f1 f2 f3 f4 => radd_walk s1 neg1 A1 c1 l1 s2 neg2 A2 c2 l2 s3 neg3 A3 c3 l3 s4 neg4 A4 c4 l4 x.num (x.den : Int) y.num (y.den : Int) (g : Int) xd yd m1 m2 n (h : Int) _ e1 _ W f1 f2 f3 f4
    (op_gcd (hT.below hW) (up _ hx.2) (up _ hy.2) hK (by simp [hg])) (op_quo (up _ hx.2) (up _ sg) hK (by omega) hxd) (op_quo (up _ hy.2) (up _ sg) hK (by omega) hyd)
    (op_mul (up _ hx.1) (up _ syd) hK hm1) (op_mul (up _ hy.1) (up _ sxd) hK hm2) (op_add (sm1.mono B (by omega)) (sm2.mono B (by omega)) hK hn)
    (op_gcd (hT.below hW) (up _ sg) sn hK (by simp [hh])) (op_quo sn (up _ sh) hK (by omega) rfl) (op_quo (up _ hy.2) (up _ sh) hK (by omega) he1) (op_mul (up _ sxd) (up _ se1) hK (by rw [hxd, he1]))

theorem opq_mul {w : World} {K : Nat} (hT : Tab w) (x y : Rat) (hx : SzQ K x) (hy : SzQ K y) (hK : K + K + 1 ≤ lim) : OpQ2 w 71 x y (x * y) ∧ SzQ (K + K) (x * y) := by
  have dx : (x.den : Int) ≠ 0 := by have := x.den_pos; omega
  have dy : (y.den : Int) ≠ 0 := by have := y.den_pos; omega
  obtain ⟨g, hg⟩ : ∃ g, g = x.num.natAbs.gcd y.den := ⟨_, rfl⟩
  obtain ⟨h, hh⟩ : ∃ h, h = y.num.natAbs.gcd x.den := ⟨_, rfl⟩
  obtain ⟨a1, ha1⟩ : ∃ z, z = x.num.tdiv g := ⟨_, rfl⟩
  obtain ⟨b1, hb1⟩ : ∃ z, z = y.num.tdiv h := ⟨_, rfl⟩
  obtain ⟨a2, ha2⟩ : ∃ z, z = (x.den : Int).tdiv h := ⟨_, rfl⟩
  obtain ⟨b2, hb2⟩ : ∃ z, z = (y.den : Int).tdiv g := ⟨_, rfl⟩
  have hp := Wd.mul_parts_int x y g h hg hh
  have g0 : 0 < g := by rw [hg]; exact Nat.gcd_pos_of_pos_right _ y.den_pos
  have h0 : 0 < h := by rw [hh]; exact Nat.gcd_pos_of_pos_right _ x.den_pos
  have sg : Wd.Sz B64 K (g : Int) := by
    have := hy.2.gcd_right (a := x.num) dy
    simpa [hg] using this
  have sh : Wd.Sz B64 K (h : Int) := by
    have := hx.2.gcd_right (a := y.num) dx
    simpa [hh] using this
  have sa1 : Wd.Sz B64 K a1 := by rw [ha1]; exact hx.1.tdiv _
  have sb1 : Wd.Sz B64 K b1 := by rw [hb1]; exact hy.1.tdiv _
  have sa2 : Wd.Sz B64 K a2 := by rw [ha2]; exact hx.2.tdiv _
  have sb2 : Wd.Sz B64 K b2 := by rw [hb2]; exact hy.2.tdiv _
  have hK1 : K ≤ lim := by omega
  refine ⟨?_, ⟨by rw [hp.1, ← ha1, ← hb1]; exact sa1.mul sb1, by rw [hp.2, ← ha2, ← hb2]; exact sa2.mul sb2⟩⟩
  rw [OpQ2, hp.1, hp.2]
  exact fun s1 neg1 A1 c1 l1 s2 neg2 A2 c2 l2 s3 neg3 A3 c3 l3 s4 neg4 A4 c4 l4 W hW f1 f2 f3 f4 => rmul_walk s1 neg1 A1 c1 l1 s2 neg2 A2 c2 l2 s3 neg3 A3 c3 l3 s4 neg4 A4 c4 l4 x.num (x.den : Int) y.num (y.den : Int) (g : Int) (h : Int) a1 b1 _ a2 b2 _ W f1 f2 f3 f4
    (op_gcd (hT.below hW) hx.1 hy.2 hK1 (by simp [hg])) (op_gcd (hT.below hW) hy.1 hx.2 hK1 (by simp [hh])) (op_quo hx.1 sg hK1 (by omega) ha1) (op_quo hy.1 sh hK1 (by omega) hb1)
    (op_mul sa1 sb1 hK1 (by rw [ha1, hb1])) (op_quo hx.2 sh hK1 (by omega) ha2) (op_quo hy.2 sg hK1 (by omega) hb2) (op_mul sa2 sb2 hK1 (by rw [ha2, hb2]))

end Go.Proofs.YtpjgoogeokbaaaaGreatDoor
/- Differences and quotients of quotients. -/
namespace Go.Proofs.YtpjgoogeokbaaaaGreatDoor
open Go.RowKit

set_option maxRecDepth 100000 in
set_option maxHeartbeats 16000000 in
theorem opq_sub_of {w : World} {x y v q : Rat} (g1 : OpQ1 w 87 y v) (g2 : OpQ2 w 82 x v q) : OpQ2 w 61 x y q := by
  intro s1 neg1 A1 c1 l1 s2 neg2 A2 c2 l2 s3 neg3 A3 c3 l3 s4 neg4 A4 c4 l4 W hW f1 f2 f3 f4
  replace g1 := g1.mono hW
  replace g2 := g2.mono hW
  clear hW w
  revert W
  intro w f1 f2 f3 f4 g1 g2
  have H1 := hide f1
  have H2 := hide f2
  have H3 := hide f3
  have H4 := hide f4
  clear f1 f2 f3 f4
  have HG1 := hide g1
  have HG2 := hide g2
  clear g1 g2
  go_enter Tryz.func61, Tryz.ntmps61
  go_upto_region 1 with fail
  obtain ⟨n0, n1, n2, hsz, hw0⟩ := three_new w (.cells #[.int .i64 s1, .bool neg1, .slice A1 l1.length c1, .int .i64 s2, .bool neg2, .slice A2 l2.length c2] 63) (.cells #[.int .i64 s3, .bool neg3, .slice A3 l3.length c3, .int .i64 s4, .bool neg4, .slice A4 l4.length c4] 63) (.cells #[.int .i64 0, .bool false, .slice none 0 0, .int .i64 0, .bool false, .slice none 0 0] 63)
  generalize (((w.alloc (.cells #[.int .i64 s1, .bool neg1, .slice A1 l1.length c1, .int .i64 s2, .bool neg2, .slice A2 l2.length c2] 63)).alloc (.cells #[.int .i64 s3, .bool neg3, .slice A3 l3.length c3, .int .i64 s4, .bool neg4, .slice A4 l4.length c4] 63)).alloc (.cells #[.int .i64 0, .bool false, .slice none 0 0, .int .i64 0, .bool false, .slice none 0 0] 63)) = W0 at *
  have k0_0 : W0.cell? ⟨w.heap.size, 0, none⟩ = some (.int .i64 s1) := cells_of n0 0
  have k0_1 : W0.cell? ⟨w.heap.size, 1, none⟩ = some (.bool neg1) := cells_of n0 1
  have k0_2 : W0.cell? ⟨w.heap.size, 2, none⟩ = some (.slice A1 l1.length c1) := cells_of n0 2
  have k0_3 : W0.cell? ⟨w.heap.size, 3, none⟩ = some (.int .i64 s2) := cells_of n0 3
  have k0_4 : W0.cell? ⟨w.heap.size, 4, none⟩ = some (.bool neg2) := cells_of n0 4
  have k0_5 : W0.cell? ⟨w.heap.size, 5, none⟩ = some (.slice A2 l2.length c2) := cells_of n0 5
  have q0 : w.heap.size < W0.heap.size := by omega
  have k1_0 : W0.cell? ⟨w.heap.size + 1, 0, none⟩ = some (.int .i64 s3) := cells_of n1 0
  have k1_1 : W0.cell? ⟨w.heap.size + 1, 1, none⟩ = some (.bool neg3) := cells_of n1 1
  have k1_2 : W0.cell? ⟨w.heap.size + 1, 2, none⟩ = some (.slice A3 l3.length c3) := cells_of n1 2
  have k1_3 : W0.cell? ⟨w.heap.size + 1, 3, none⟩ = some (.int .i64 s4) := cells_of n1 3
  have k1_4 : W0.cell? ⟨w.heap.size + 1, 4, none⟩ = some (.bool neg4) := cells_of n1 4
  have k1_5 : W0.cell? ⟨w.heap.size + 1, 5, none⟩ = some (.slice A4 l4.length c4) := cells_of n1 5
  have q1 : w.heap.size + 1 < W0.heap.size := by omega
  have k2_0 : W0.cell? ⟨w.heap.size + 1 + 1, 0, none⟩ = some (.int .i64 0) := cells_of n2 0
  have k2_1 : W0.cell? ⟨w.heap.size + 1 + 1, 1, none⟩ = some (.bool false) := cells_of n2 1
  have k2_2 : W0.cell? ⟨w.heap.size + 1 + 1, 2, none⟩ = some (.slice none 0 0) := cells_of n2 2
  have k2_3 : W0.cell? ⟨w.heap.size + 1 + 1, 3, none⟩ = some (.int .i64 0) := cells_of n2 3
  have k2_4 : W0.cell? ⟨w.heap.size + 1 + 1, 4, none⟩ = some (.bool false) := cells_of n2 4
  have k2_5 : W0.cell? ⟨w.heap.size + 1 + 1, 5, none⟩ = some (.slice none 0 0) := cells_of n2 5
  have q2 : w.heap.size + 1 + 1 < W0.heap.size := by omega
  have f2_0 := unfrozen_of n2 0
  have f2_1 := unfrozen_of n2 1
  have f2_2 := unfrozen_of n2 2
  have f2_3 := unfrozen_of n2 3
  have f2_4 := unfrozen_of n2 4
  have f2_5 := unfrozen_of n2 5
  have NR := Lib.hid n2
  clear hsz n0 n1 n2
  replace H1 := hide ((unhide H1).below hw0)
  replace H2 := hide ((unhide H2).below hw0)
  replace H3 := hide ((unhide H3).below hw0)
  replace H4 := hide ((unhide H4).below hw0)
  have KEEP := hide (show ∀ X, Below W0.heap.size W0 X → X.cell? ⟨w.heap.size, 0, none⟩ = some (.int .i64 s1) ∧ X.cell? ⟨w.heap.size, 1, none⟩ = some (.bool neg1) ∧ X.cell? ⟨w.heap.size, 2, none⟩ = some (.slice A1 l1.length c1) ∧ X.cell? ⟨w.heap.size, 3, none⟩ = some (.int .i64 s2) ∧ X.cell? ⟨w.heap.size, 4, none⟩ = some (.bool neg2) ∧ X.cell? ⟨w.heap.size, 5, none⟩ = some (.slice A2 l2.length c2) ∧ X.cell? ⟨w.heap.size + 1, 0, none⟩ = some (.int .i64 s3) ∧ X.cell? ⟨w.heap.size + 1, 1, none⟩ = some (.bool neg3) ∧ X.cell? ⟨w.heap.size + 1, 2, none⟩ = some (.slice A3 l3.length c3) ∧ X.cell? ⟨w.heap.size + 1, 3, none⟩ = some (.int .i64 s4) ∧ X.cell? ⟨w.heap.size + 1, 4, none⟩ = some (.bool neg4) ∧ X.cell? ⟨w.heap.size + 1, 5, none⟩ = some (.slice A4 l4.length c4) from fun X hB => ⟨keep_cell hB q0 k0_0, keep_cell hB q0 k0_1, keep_cell hB q0 k0_2, keep_cell hB q0 k0_3, keep_cell hB q0 k0_4, keep_cell hB q0 k0_5, keep_cell hB q1 k1_0, keep_cell hB q1 k1_1, keep_cell hB q1 k1_2, keep_cell hB q1 k1_3, keep_cell hB q1 k1_4, keep_cell hB q1 k1_5⟩)
  go_region_held3 (fun w' => w'.cell? ⟨w.heap.size, 0, none⟩ = some (.int .i64 s1) ∧ w'.cell? ⟨w.heap.size, 1, none⟩ = some (.bool neg1) ∧ w'.cell? ⟨w.heap.size, 2, none⟩ = some (.slice A1 l1.length c1) ∧ w'.cell? ⟨w.heap.size, 3, none⟩ = some (.int .i64 s2) ∧ w'.cell? ⟨w.heap.size, 4, none⟩ = some (.bool neg2) ∧ w'.cell? ⟨w.heap.size, 5, none⟩ = some (.slice A2 l2.length c2) ∧ w'.cell? ⟨w.heap.size + 1, 0, none⟩ = some (.int .i64 s3) ∧ w'.cell? ⟨w.heap.size + 1, 1, none⟩ = some (.bool neg3) ∧ w'.cell? ⟨w.heap.size + 1, 2, none⟩ = some (.slice A3 l3.length c3) ∧ w'.cell? ⟨w.heap.size + 1, 3, none⟩ = some (.int .i64 s4) ∧ w'.cell? ⟨w.heap.size + 1, 4, none⟩ = some (.bool neg4) ∧ w'.cell? ⟨w.heap.size + 1, 5, none⟩ = some (.slice A4 l4.length c4)) (first | with_reducible exact ⟨(cell_set6 _ _ _ _ _ _ _ _ (by omega)).trans (keep_cell hbw q0 k0_0), (cell_set6 _ _ _ _ _ _ _ _ (by omega)).trans (keep_cell hbw q0 k0_1), (cell_set6 _ _ _ _ _ _ _ _ (by omega)).trans (keep_cell hbw q0 k0_2), (cell_set6 _ _ _ _ _ _ _ _ (by omega)).trans (keep_cell hbw q0 k0_3), (cell_set6 _ _ _ _ _ _ _ _ (by omega)).trans (keep_cell hbw q0 k0_4), (cell_set6 _ _ _ _ _ _ _ _ (by omega)).trans (keep_cell hbw q0 k0_5), (cell_set6 _ _ _ _ _ _ _ _ (by omega)).trans (keep_cell hbw q1 k1_0), (cell_set6 _ _ _ _ _ _ _ _ (by omega)).trans (keep_cell hbw q1 k1_1), (cell_set6 _ _ _ _ _ _ _ _ (by omega)).trans (keep_cell hbw q1 k1_2), (cell_set6 _ _ _ _ _ _ _ _ (by omega)).trans (keep_cell hbw q1 k1_3), (cell_set6 _ _ _ _ _ _ _ _ (by omega)).trans (keep_cell hbw q1 k1_4), (cell_set6 _ _ _ _ _ _ _ _ (by omega)).trans (keep_cell hbw q1 k1_5)⟩ | with_reducible exact (unhide KEEP) _ (by (repeat (first | with_reducible exact Below.refl _ _ | with_reducible assumption | with_reducible refine Below.drew ?_ | with_reducible refine below_alloc ?_ _)))) (first | (go_at_call_of 87 (Value.agg #[.int .i64 s3, .bool neg3, .slice A3 l3.length c3, .int .i64 s4, .bool neg4, .slice A4 l4.length c4]); refine ((unhide HG1) s3 neg3 A3 c3 l3 s4 neg4 A4 c4 l4 _ (below_step' hw0 (by (repeat (first | with_reducible exact Below.refl _ _ | with_reducible assumption | with_reducible refine Below.drew ?_ | with_reducible refine below_alloc ?_ _)))) (IntF.below (unhide H3) (by (repeat (first | with_reducible exact Below.refl _ _ | with_reducible assumption | with_reducible refine Below.drew ?_ | with_reducible refine below_alloc ?_ _)))) (IntF.below (unhide H4) (by (repeat (first | with_reducible exact Below.refl _ _ | with_reducible assumption | with_reducible refine Below.drew ?_ | with_reducible refine below_alloc ?_ _))))).mono ?_; rintro e w' ⟨s5, neg5, A5, c5, l5, s6, neg6, A6, c6, l6, rfl, hf5, hf6, hb5⟩; have hbw := below_step (w := W0) (by (repeat (first | with_reducible exact Below.refl _ _ | with_reducible assumption | with_reducible refine Below.drew ?_ | with_reducible refine below_alloc ?_ _))) hb5; have hsw := hbw.size; obtain ⟨hc, hfz⟩ := bcell hbw) | (go_at_call_of 82 (Value.agg #[.int .i64 s1, .bool neg1, .slice A1 l1.length c1, .int .i64 s2, .bool neg2, .slice A2 l2.length c2]); refine ((unhide HG2) s1 neg1 A1 c1 l1 s2 neg2 A2 c2 l2 s5 neg5 A5 c5 l5 s6 neg6 A6 c6 l6 _ (below_step' hw0 (by (repeat (first | with_reducible exact Below.refl _ _ | with_reducible assumption | with_reducible refine Below.drew ?_ | with_reducible refine below_alloc ?_ _)))) (IntF.below (unhide H1) (by (repeat (first | with_reducible exact Below.refl _ _ | with_reducible assumption | with_reducible refine Below.drew ?_ | with_reducible refine below_alloc ?_ _)))) (IntF.below (unhide H2) (by (repeat (first | with_reducible exact Below.refl _ _ | with_reducible assumption | with_reducible refine Below.drew ?_ | with_reducible refine below_alloc ?_ _)))) (IntF.below hf5 (by (repeat (first | with_reducible exact Below.refl _ _ | with_reducible assumption | with_reducible refine Below.drew ?_ | with_reducible refine below_alloc ?_ _)))) (IntF.below hf6 (by (repeat (first | with_reducible exact Below.refl _ _ | with_reducible assumption | with_reducible refine Below.drew ?_ | with_reducible refine below_alloc ?_ _))))).mono ?_; rintro e w' ⟨s7, neg7, A7, c7, l7, s8, neg8, A8, c8, l8, rfl, hf7, hf8, hb7⟩; have hbw := below_step (w := W0) (by (repeat (first | with_reducible exact Below.refl _ _ | with_reducible assumption | with_reducible refine Below.drew ?_ | with_reducible refine below_alloc ?_ _))) hb7; have hsw := hbw.size; obtain ⟨hc, hfz⟩ := bcell hbw))
  have hblk : w'.heap[w.heap.size + 1 + 1]? = some (.cells #[.int .i64 0, .bool false, .slice none 0 0, .int .i64 0, .bool false, .slice none 0 0] 63 (0, 0)) := (hbw.block _ q2).trans NR.out
  have HBLK := Lib.hid hblk
  have hb9 : Below w.heap.size w w' := below_step' hw0 hbw
  clear hblk
  go_wp2_with fail
  exact bodyPost_ret (v := (Value.agg #[.int .i64 s7, .bool neg7, .slice A7 l7.length c7, .int .i64 s8, .bool neg8, .slice A8 l8.length c8])) (by simp [results, Tryz.results61, go_sem, hc, k2_0, k2_1, k2_2, k2_3, k2_4, k2_5, q2]) rfl
    ⟨s7, neg7, A7, c7, l7, s8, neg8, A8, c8, l8, rfl, (hf7).upto HBLK.out (noWord6 _ _ _ _ _ _ _ _ _ _) (set6_grown _ _ _ _ _ _ _ _), (hf8).upto HBLK.out (noWord6 _ _ _ _ _ _ _ _ _ _) (set6_grown _ _ _ _ _ _ _ _), hb9.grown (set6_grown _ _ _ _ _ _ _ _) hb9.size (fun k hk => by injection hk with hk; omega)⟩
theorem opq_sub {w : World} {K : Nat} (hT : Tab w) (x y : Rat) (hx : SzQ K x) (hy : SzQ K y) (hK : K + K + 1 ≤ lim) : OpQ2 w 61 x y (x - y) ∧ SzQ (K + K + 1) (x - y) := by
  obtain ⟨a, b⟩ := opq_add hT x (-y) hx hy.neg hK
  rw [Rat.sub_eq_add_neg]
  exact ⟨opq_sub_of (opq_neg w y) a, b⟩
end Go.Proofs.YtpjgoogeokbaaaaGreatDoor
/- Which numbers there are: the program's own check. -/
namespace Go.Proofs.YtpjgoogeokbaaaaGreatDoor
open Go.RowKit

/-- What the check tells. -/
def valE (n d : Int) : Int := if Wd.okR n d then 0 else 1

set_option maxRecDepth 100000 in
set_option maxHeartbeats 2000000 in
theorem val_bad1 (n d : Int) (h1 : d < 1) (w : World) :
    Calls Tryz.prog 49 #[.agg #[.int .i64 n, .int .i64 d]] w fun e w' => e = .returned (.int .i64 1) ∧ Below w.heap.size w w' := by
  have d1 : decide (d < 1) = true := decide_eq_true (by omega)
  clear h1
  go_enter Tryz.func49, Tryz.ntmps49
  go_wp2
  go_ret
  exact ⟨rfl, (Below.refl _ _).alloc (Nat.le_refl _) _⟩
set_option maxRecDepth 100000 in
set_option maxHeartbeats 2000000 in
theorem val_bad2 (n d : Int) (h1 : ¬ d < 1) (h2 : 1000000000000 < d) (w : World) :
    Calls Tryz.prog 49 #[.agg #[.int .i64 n, .int .i64 d]] w fun e w' => e = .returned (.int .i64 1) ∧ Below w.heap.size w w' := by
  have d1 : decide (d < 1) = false := decide_eq_false (by omega)
  have d2 : decide (1000000000000 < d) = true := decide_eq_true (by omega)
  clear h1 h2
  go_enter Tryz.func49, Tryz.ntmps49
  go_wp2
  go_ret
  exact ⟨rfl, (Below.refl _ _).alloc (Nat.le_refl _) _⟩
set_option maxRecDepth 100000 in
set_option maxHeartbeats 2000000 in
theorem val_bad3 (n d : Int) (h1 : ¬ d < 1) (h2 : ¬ 1000000000000 < d) (h3 : n < -1000000000000) (w : World) :
    Calls Tryz.prog 49 #[.agg #[.int .i64 n, .int .i64 d]] w fun e w' => e = .returned (.int .i64 1) ∧ Below w.heap.size w w' := by
  have d1 : decide (d < 1) = false := decide_eq_false (by omega)
  have d2 : decide (1000000000000 < d) = false := decide_eq_false (by omega)
  have d3 : decide (n < -1000000000000) = true := decide_eq_true (by omega)
  clear h1 h2 h3
  go_enter Tryz.func49, Tryz.ntmps49
  go_wp2
  go_ret
  exact ⟨rfl, (Below.refl _ _).alloc (Nat.le_refl _) _⟩
set_option maxRecDepth 100000 in
set_option maxHeartbeats 2000000 in
theorem val_bad4 (n d : Int) (h1 : ¬ d < 1) (h2 : ¬ 1000000000000 < d) (h3 : ¬ n < -1000000000000) (h4 : 1000000000000 < n) (w : World) :
    Calls Tryz.prog 49 #[.agg #[.int .i64 n, .int .i64 d]] w fun e w' => e = .returned (.int .i64 1) ∧ Below w.heap.size w w' := by
  have d1 : decide (d < 1) = false := decide_eq_false (by omega)
  have d2 : decide (1000000000000 < d) = false := decide_eq_false (by omega)
  have d3 : decide (n < -1000000000000) = false := decide_eq_false (by omega)
  have d4 : decide (1000000000000 < n) = true := decide_eq_true (by omega)
  clear h1 h2 h3 h4
  go_enter Tryz.func49, Tryz.ntmps49
  go_wp2
  go_ret
  exact ⟨rfl, (Below.refl _ _).alloc (Nat.le_refl _) _⟩
set_option maxRecDepth 100000 in
set_option maxHeartbeats 2000000 in
theorem val_ok (n d : Int) (h1 : ¬ d < 1) (h2 : ¬ 1000000000000 < d) (h3 : ¬ n < -1000000000000) (h4 : ¬ 1000000000000 < n) (h5 : n.natAbs.gcd d.natAbs = 1) (w : World) (hT : Tab w) :
    Calls Tryz.prog 49 #[.agg #[.int .i64 n, .int .i64 d]] w fun e w' => e = .returned (.int .i64 0) ∧ Below w.heap.size w w' := by
  have d1 : decide (d < 1) = false := decide_eq_false (by omega)
  have d2 : decide (1000000000000 < d) = false := decide_eq_false (by omega)
  have d3 : decide (n < -1000000000000) = false := decide_eq_false (by omega)
  have d4 : decide (1000000000000 < n) = false := decide_eq_false (by omega)
  have e1 : wrap64 (-n) = -n := IntWalk.wrap64_in _ (by omega)
  have e1' : IntKind.i64.wrap (-n) = -n := IntWalk.i64_in _ (by omega)
  obtain ⟨a, ha⟩ : ∃ a, a = n.natAbs := ⟨_, rfl⟩
  obtain ⟨b, hb⟩ : ∃ b, b = d.natAbs := ⟨_, rfl⟩
  have e2 : max n (-n) = ((a : Nat) : Int) := by omega
  have e3 : IntKind.u64.wrap ((a : Nat) : Int) = ((a : Nat) : Int) := by rw [IntKind.wrap_u64]; omega
  have e4 : IntKind.u64.wrap d = ((b : Nat) : Int) := by rw [IntKind.wrap_u64]; omega
  rw [← ha, ← hb] at h5
  have HG := hide (fun W (hW : Tab W) => gcd64_any a b (by rw [B64_eq]; omega) (by rw [B64_eq]; omega) W hW)
  have HT := hide hT
  obtain ⟨g, hg⟩ : ∃ g, g = a.gcd b := ⟨_, rfl⟩
  rw [← hg] at h5 HG
  have d5 : ((g : Int) == 1) = true := beq_iff_eq.2 (by omega)
  have d6 : ((g : Int) != 1) = false := by simp [bne, d5]
  clear h1 h2 h3 h4 h5 ha hb hg hT
  go_enter Tryz.func49, Tryz.ntmps49
  go_wp2_with fail
  refine ((unhide HG) _ ((unhide HT).alloc _)).mono ?_
  rintro e w' ⟨rfl, rfl⟩
  go_wp2
  go_ret
  exact ⟨rfl, (Below.refl _ _).alloc (Nat.le_refl _) _⟩
set_option maxRecDepth 100000 in
set_option maxHeartbeats 2000000 in
theorem val_bad5 (n d : Int) (h1 : ¬ d < 1) (h2 : ¬ 1000000000000 < d) (h3 : ¬ n < -1000000000000) (h4 : ¬ 1000000000000 < n) (h5 : ¬ n.natAbs.gcd d.natAbs = 1) (w : World) (hT : Tab w) :
    Calls Tryz.prog 49 #[.agg #[.int .i64 n, .int .i64 d]] w fun e w' => e = .returned (.int .i64 1) ∧ Below w.heap.size w w' := by
  have d1 : decide (d < 1) = false := decide_eq_false (by omega)
  have d2 : decide (1000000000000 < d) = false := decide_eq_false (by omega)
  have d3 : decide (n < -1000000000000) = false := decide_eq_false (by omega)
  have d4 : decide (1000000000000 < n) = false := decide_eq_false (by omega)
  have e1 : wrap64 (-n) = -n := IntWalk.wrap64_in _ (by omega)
  have e1' : IntKind.i64.wrap (-n) = -n := IntWalk.i64_in _ (by omega)
  obtain ⟨a, ha⟩ : ∃ a, a = n.natAbs := ⟨_, rfl⟩
  obtain ⟨b, hb⟩ : ∃ b, b = d.natAbs := ⟨_, rfl⟩
  have e2 : max n (-n) = ((a : Nat) : Int) := by omega
  have e3 : IntKind.u64.wrap ((a : Nat) : Int) = ((a : Nat) : Int) := by rw [IntKind.wrap_u64]; omega
  have e4 : IntKind.u64.wrap d = ((b : Nat) : Int) := by rw [IntKind.wrap_u64]; omega
  rw [← ha, ← hb] at h5
  have HG := hide (fun W (hW : Tab W) => gcd64_any a b (by rw [B64_eq]; omega) (by rw [B64_eq]; omega) W hW)
  have HT := hide hT
  obtain ⟨g, hg⟩ : ∃ g, g = a.gcd b := ⟨_, rfl⟩
  rw [← hg] at h5 HG
  have d5 : ((g : Int) == 1) = false := beq_eq_false_iff_ne.2 (by omega)
  have d6 : ((g : Int) != 1) = true := by simp [bne, d5]
  clear h1 h2 h3 h4 h5 ha hb hg hT
  go_enter Tryz.func49, Tryz.ntmps49
  go_wp2_with fail
  refine ((unhide HG) _ ((unhide HT).alloc _)).mono ?_
  rintro e w' ⟨rfl, rfl⟩
  go_wp2
  go_ret
  exact ⟨rfl, (Below.refl _ _).alloc (Nat.le_refl _) _⟩
theorem val_any (n d : Int) (w : World) (hT : Tab w) :
    Calls Tryz.prog 49 #[.agg #[.int .i64 n, .int .i64 d]] w fun e w' => e = .returned (.int .i64 (valE n d)) ∧ Below w.heap.size w w' := by
  unfold valE
  by_cases h1 : d < 1
  · rw [if_neg (by unfold Wd.okR; omega)]; exact val_bad1 n d h1 w
  by_cases h2 : 1000000000000 < d
  · rw [if_neg (by unfold Wd.okR; omega)]; exact val_bad2 n d h1 h2 w
  by_cases h3 : n < -1000000000000
  · rw [if_neg (by unfold Wd.okR; omega)]; exact val_bad3 n d h1 h2 h3 w
  by_cases h4 : 1000000000000 < n
  · rw [if_neg (by unfold Wd.okR; omega)]; exact val_bad4 n d h1 h2 h3 h4 w
  by_cases h5 : n.natAbs.gcd d.natAbs = 1
  · rw [if_pos (by unfold Wd.okR; omega)]; exact val_ok n d h1 h2 h3 h4 h5 w hT
  · rw [if_neg (by unfold Wd.okR; omega)]; exact val_bad5 n d h1 h2 h3 h4 h5 w hT
end Go.Proofs.YtpjgoogeokbaaaaGreatDoor
/- The reference: which numbers there are. -/
namespace Go.Proofs.YtpjgoogeokbaaaaGreatDoor
open Go.RowKit

set_option maxRecDepth 100000 in
set_option maxHeartbeats 1000000 in
theorem tIs_any (n d : Int) (w : World) :
    Calls Tryz.prog 53 #[.agg #[.int .i64 n, .int .i64 d]] w fun e w' => e = .returned (.bool (decide (Wd.okR n d))) ∧ Below w.heap.size w w' := by
  have hba : Below w.heap.size w (w.alloc (.cells #[.int .i64 n, .int .i64 d] 23)) := (Below.refl _ _).alloc (Nat.le_refl _) _
  have HB := hide hba
  by_cases hr : 1 ≤ d ∧ d ≤ 1000000000000 ∧ -1000000000000 ≤ n ∧ n ≤ 1000000000000
  · obtain ⟨r1, r2, r3, r4⟩ := hr
    have hok : decide (n.natAbs.gcd d.natAbs = 1) = decide (Wd.okR n d) := decide_eq_decide.2 (by
      unfold Wd.okR
      constructor
      · intro h; refine ⟨?_, ?_, ?_, ?_, ?_⟩ <;> first | omega | exact h
      · rintro ⟨_, _, _, _, h⟩; exact h)
    rw [← hok]
    obtain ⟨rb, hrb⟩ : ∃ b, b = decide (n.natAbs.gcd d.natAbs = 1) := ⟨_, rfl⟩
    rw [← hrb]
    have HRB := Lib.hid hrb
    clear hok hba hrb
    have d1 : decide (d < 1) = false := decide_eq_false (by omega)
    have d2 : decide (1000000000000 < d) = false := decide_eq_false (by omega)
    have d3 : decide (n < -1000000000000) = false := decide_eq_false (by omega)
    have d4 : decide (1000000000000 < n) = false := decide_eq_false (by omega)
    have en : IntKind.i64.wrap (-n) = -n := IntWalk.i64_in _ (by omega)
    obtain ⟨a, ha⟩ : ∃ a, a = n.natAbs := ⟨_, rfl⟩
    obtain ⟨b, hb⟩ : ∃ b, b = d.natAbs := ⟨_, rfl⟩
    go_enter Tryz.func53, Tryz.ntmps53
    go_wp2_with fail
    all_goals first | omega | skip
    all_goals go_quiet (fail)
    all_goals go_wp2_with fail
    all_goals
      have HRR := hide (And.intro r1 (And.intro r2 (And.intro r3 r4)))
      go_loopw [3, 4] (fun av bv wr => ∃ (a b : Nat), av = .int .i64 ((a : Nat) : Int) ∧ bv = .int .i64 ((b : Nat) : Int) ∧ a ≤ 1000000000000 ∧ b ≤ 1000000000000 ∧ Hid (a.gcd b = n.natAbs.gcd d.natAbs) ∧ Below w.heap.size w wr) (fun _ bv _ => (intOf bv).toNat)
      case atStart =>
        refine ⟨n.natAbs, d.natAbs, ?_, ?_, by omega, by omega, rfl, by first | exact unhide HB | exact (unhide HB).drew | exact belowN (unhide HB) _⟩
        · show Value.int .i64 _ = Value.int .i64 _
          congr 1; omega
        · show Value.int .i64 _ = Value.int .i64 _
          congr 1; omega
      case round =>
        obtain ⟨a, b, rfl, rfl, ha, hb, HG, hbl⟩ := hrel
        by_cases h0 : b = 0
        · subst h0
          have hg := HG.out
          rw [Nat.gcd_zero_right] at hg
          have hres : ((a : Int) == 1) = rb := by
            rw [HRB.out]
            by_cases h : a = 1
            · exact (show ((a : Int) == 1) = true by rw [h]; rfl).trans (decide_eq_true (hg.symm.trans h)).symm
            · exact (show ((a : Int) == 1) = false from beq_eq_false_iff_ne.2 (by omega)).trans (decide_eq_false (fun e => h (hg.trans e))).symm
          have HRES := Lib.hid hres
          clear hg hres
          go_wp2_with fail
          all_goals first | omega | skip
          go_ret
          exact ⟨by rw [← HRES.out]; rfl, hbl⟩
        · have dp : decide ((0 : Int) < (b : Int)) = true := decide_eq_true (by omega)
          have dp' : decide (0 < b) = true := decide_eq_true (by omega)
          have e1 : ((a : Int)).tmod (b : Int) = ((a % b : Nat) : Int) := (Int.ofNat_tmod _ _).symm
          have e2 : ((b : Int) == 0) = false := beq_eq_false_iff_ne.2 (by omega)
          have e3 : ¬ ((b : Int) = 0) := by omega
          have hm := Nat.mod_lt a (Nat.pos_of_ne_zero h0)
          obtain ⟨r, hr⟩ : ∃ r, r = a % b := ⟨_, rfl⟩
          rw [← hr] at e1 hm
          have e4 : IntKind.i64.wrap (r : Int) = (r : Int) := IntWalk.i64_in _ (by omega)
          have hgg : b.gcd r = n.natAbs.gcd d.natAbs := by
            rw [← HG.out, hr, Nat.gcd_comm b (a % b), ← Nat.gcd_rec b a, Nat.gcd_comm]
          have HGG := Lib.hid hgg
          clear hgg hr HG
          go_wp2_with fail
          all_goals first | omega | skip
          go_quiet (fail)
          go_wp2_with fail
          go_roundw
          case rel => exact ⟨b, r, by go_num, by go_num, by omega, by omega, HGG, by first | exact hbl | exact hbl.drew | exact belowN hbl _⟩
          case measure => simp [intOf] <;> omega
  · have hok : decide (Wd.okR n d) = false := decide_eq_false (by
      unfold Wd.okR
      rintro ⟨a1, a2, a3, a4, _⟩
      exact hr ⟨by omega, by omega, by omega, by omega⟩)
    rw [hok]
    clear hok hba
    go_enter Tryz.func53, Tryz.ntmps53
    go_wp2_with fail
    all_goals first | omega | skip
    all_goals
      go_ret
      exact ⟨rfl, unhide HB⟩
end Go.Proofs.YtpjgoogeokbaaaaGreatDoor
/- The first error of two numbers. -/
namespace Go.Proofs.YtpjgoogeokbaaaaGreatDoor
open Go.RowKit

end Go.Proofs.YtpjgoogeokbaaaaGreatDoor
/- The reference: the error of two numbers. -/
namespace Go.Proofs.YtpjgoogeokbaaaaGreatDoor
open Go.RowKit

end Go.Proofs.YtpjgoogeokbaaaaGreatDoor
/- A number as a quotient. -/
namespace Go.Proofs.YtpjgoogeokbaaaaGreatDoor
open Go.RowKit

set_option maxRecDepth 100000 in
set_option maxHeartbeats 8000000 in
theorem rof_any (n d : Int) (w : World) (b1 : -9223372036854775808 ≤ n) (b2 : n ≤ 9223372036854775807) (b3 : -9223372036854775808 ≤ d) (b4 : d ≤ 9223372036854775807) :
    Calls Tryz.prog 50 #[(.agg #[.int .i64 n, .int .i64 d])] w fun e w' => PairR w n d e w' := by
  have HN1 := hide (fun W => newInt_any n b1 b2 W)
  have HN2 := hide (fun W => newInt_any d b3 b4 W)
  clear b1 b2 b3 b4
  go_enter Tryz.func50, Tryz.ntmps50
  go_wp2_with fail
  obtain ⟨n0, n1, hsz, hw0⟩ := two_new w (.cells #[.int .i64 n, .int .i64 d] 23) (.cells #[.int .i64 0, .bool false, .slice none 0 0, .int .i64 0, .bool false, .slice none 0 0] 63)
  generalize ((w.alloc (.cells #[.int .i64 n, .int .i64 d] 23)).alloc (.cells #[.int .i64 0, .bool false, .slice none 0 0, .int .i64 0, .bool false, .slice none 0 0] 63)) = W0 at *
  have k0_0 : W0.cell? ⟨w.heap.size, 0, none⟩ = some (.int .i64 n) := cells_of n0 0
  have k0_1 : W0.cell? ⟨w.heap.size, 1, none⟩ = some (.int .i64 d) := cells_of n0 1
  have q0 : w.heap.size < W0.heap.size := by omega
  have k1_0 : W0.cell? ⟨w.heap.size + 1, 0, none⟩ = some (.int .i64 0) := cells_of n1 0
  have k1_1 : W0.cell? ⟨w.heap.size + 1, 1, none⟩ = some (.bool false) := cells_of n1 1
  have k1_2 : W0.cell? ⟨w.heap.size + 1, 2, none⟩ = some (.slice none 0 0) := cells_of n1 2
  have k1_3 : W0.cell? ⟨w.heap.size + 1, 3, none⟩ = some (.int .i64 0) := cells_of n1 3
  have k1_4 : W0.cell? ⟨w.heap.size + 1, 4, none⟩ = some (.bool false) := cells_of n1 4
  have k1_5 : W0.cell? ⟨w.heap.size + 1, 5, none⟩ = some (.slice none 0 0) := cells_of n1 5
  have q1 : w.heap.size + 1 < W0.heap.size := by omega
  have f1_0 := unfrozen_of n1 0
  have f1_1 := unfrozen_of n1 1
  have f1_2 := unfrozen_of n1 2
  have f1_3 := unfrozen_of n1 3
  have f1_4 := unfrozen_of n1 4
  have f1_5 := unfrozen_of n1 5
  have NR := Lib.hid n1
  clear n0 n1
  go_region_held3 (fun w' => w'.cell? ⟨w.heap.size, 0, none⟩ = some (.int .i64 n) ∧ w'.cell? ⟨w.heap.size, 1, none⟩ = some (.int .i64 d)) ((first | with_reducible exact ⟨(hc _ _ q0).trans k0_0, (hc _ _ q0).trans k0_1⟩ | with_reducible exact ⟨k0_0, k0_1⟩ | with_reducible exact ⟨(cell_set6 _ _ _ _ _ _ _ _ (by omega)).trans ((hc _ _ q0).trans k0_0), (cell_set6 _ _ _ _ _ _ _ _ (by omega)).trans ((hc _ _ q0).trans k0_1)⟩ | exact ⟨(hc _ _ q0).trans k0_0, (hc _ _ q0).trans k0_1⟩ | exact ⟨k0_0, k0_1⟩ | exact ⟨(cell_set6 _ _ _ _ _ _ _ _ (by omega)).trans ((hc _ _ q0).trans k0_0), (cell_set6 _ _ _ _ _ _ _ _ (by omega)).trans ((hc _ _ q0).trans k0_1)⟩)) (first | (go_at_call 102; refine ((unhide HN1) _).mono ?_; clear HN1; rintro e w' ⟨s5, neg5, A5, c5, l5, rfl, hf5, hb⟩; have hbw := below_step (w := W0) (by (first | assumption | (repeat (first | exact Below.refl _ _ | assumption | refine Below.drew ?_ | (refine Below.alloc ?_ (by simp <;> omega) _))))) hb; obtain ⟨hc, hfz⟩ := bcell hbw) | (go_at_call 102; refine ((unhide HN2) _).mono ?_; rintro e w' ⟨s6, neg6, A6, c6, l6, rfl, hf6, hb⟩; have hf5 := hf5.below hb; have hbw := below_step (w := W0) (by (first | assumption | (repeat (first | exact Below.refl _ _ | assumption | refine Below.drew ?_ | (refine Below.alloc ?_ (by simp <;> omega) _))))) hb; obtain ⟨hc, hfz⟩ := bcell hbw))
  have hblk : w'.heap[w.heap.size + 1]? = some (.cells #[.int .i64 0, .bool false, .slice none 0 0, .int .i64 0, .bool false, .slice none 0 0] 63 (0, 0)) := (hbw.block _ q1).trans NR.out
  have HBLK := Lib.hid hblk
  have hb9 : Below w.heap.size w w' := below_step' hw0 hbw
  clear hblk
  go_wp2_with fail
  exact bodyPost_ret (v := (Value.agg #[.int .i64 s5, .bool neg5, .slice A5 l5.length c5, .int .i64 s6, .bool neg6, .slice A6 l6.length c6])) (by simp [results, Tryz.results50, go_sem, hc, k1_0, k1_1, k1_2, k1_3, k1_4, k1_5, q1]) rfl
    ⟨s5, neg5, A5, c5, l5, s6, neg6, A6, c6, l6, rfl, (hf5).upto HBLK.out (noWord6 _ _ _ _ _ _ _ _ _ _) (set6_grown _ _ _ _ _ _ _ _), (hf6).upto HBLK.out (noWord6 _ _ _ _ _ _ _ _ _ _) (set6_grown _ _ _ _ _ _ _ _), hb9.grown (set6_grown _ _ _ _ _ _ _ _) hb9.size (fun k hk => by injection hk with hk; omega)⟩

end Go.Proofs.YtpjgoogeokbaaaaGreatDoor
/- What is told of a quotient. -/
namespace Go.Proofs.YtpjgoogeokbaaaaGreatDoor
open Go.RowKit

set_option maxRecDepth 100000 in
set_option maxHeartbeats 8000000 in
theorem rrat_big1 (s1 : Int) (neg1 : Bool) (A1 : Option Addr) (c1 : Nat) (l1 : List Nat) (z1 : Int) (s2 : Int) (neg2 : Bool) (A2 : Option Addr) (c2 : Nat) (l2 : List Nat) (z2 : Int) (w : World) (h1 : IntF w s1 neg1 A1 c1 l1 z1) (h2 : IntF w s2 neg2 A2 c2 l2 z2) (a1 : ¬ l1.length = 0) :
    Calls Tryz.prog 52 #[(Value.agg #[.int .i64 s1, .bool neg1, .slice A1 l1.length c1, .int .i64 s2, .bool neg2, .slice A2 l2.length c2])] w fun e w' => e = .returned (.tuple #[.agg #[.int .i64 0, .int .i64 0], .int .i64 3]) ∧ Below w.heap.size w w' := by
  have HS1 := hide (fun W => small_any s1 neg1 A1 c1 l1.length W)
  have HS2 := hide (fun W => small_any s2 neg2 A2 c2 l2.length W)
  rw [decide_eq_false a1] at HS1
  obtain ⟨B2, hB2⟩ : ∃ b, b = decide (l2.length = 0) := ⟨_, rfl⟩
  rw [← hB2] at HS2
  clear hB2
  clear a1 h1 h2
  go_enter Tryz.func52, Tryz.ntmps52
  go_wp2_with fail
  obtain ⟨n0, n1, hsz, hw0⟩ := two_new w (.cells #[.int .i64 s1, .bool neg1, .slice A1 l1.length c1, .int .i64 s2, .bool neg2, .slice A2 l2.length c2] 63) (.cells #[.int .i64 0, .int .i64 0] 23)
  generalize ((w.alloc (.cells #[.int .i64 s1, .bool neg1, .slice A1 l1.length c1, .int .i64 s2, .bool neg2, .slice A2 l2.length c2] 63)).alloc (.cells #[.int .i64 0, .int .i64 0] 23)) = W0 at *
  have k0_0 : W0.cell? ⟨w.heap.size, 0, none⟩ = some (.int .i64 s1) := cells_of n0 0
  have k0_1 : W0.cell? ⟨w.heap.size, 1, none⟩ = some (.bool neg1) := cells_of n0 1
  have k0_2 : W0.cell? ⟨w.heap.size, 2, none⟩ = some (.slice A1 l1.length c1) := cells_of n0 2
  have k0_3 : W0.cell? ⟨w.heap.size, 3, none⟩ = some (.int .i64 s2) := cells_of n0 3
  have k0_4 : W0.cell? ⟨w.heap.size, 4, none⟩ = some (.bool neg2) := cells_of n0 4
  have k0_5 : W0.cell? ⟨w.heap.size, 5, none⟩ = some (.slice A2 l2.length c2) := cells_of n0 5
  have q0 : w.heap.size < W0.heap.size := by omega
  have k1_0 : W0.cell? ⟨w.heap.size + 1, 0, none⟩ = some (.int .i64 0) := cells_of n1 0
  have k1_1 : W0.cell? ⟨w.heap.size + 1, 1, none⟩ = some (.int .i64 0) := cells_of n1 1
  have q1 : w.heap.size + 1 < W0.heap.size := by omega
  have f1_0 := unfrozen_of n1 0
  have f1_1 := unfrozen_of n1 1
  have NR := Lib.hid n1
  clear n0 n1
  refine ((unhide HS1) _).mono ?_
  rintro e w3 ⟨rfl, hb⟩
  have hbw := below_step (w := W0) (by (first | assumption | (repeat (first | exact Below.refl _ _ | assumption | refine Below.drew ?_ | (refine Below.alloc ?_ (by simp <;> omega) _))))) hb
  obtain ⟨hc, hfz⟩ := bcell hbw
  go_wp2_with fail
  refine ((unhide HS2) _).mono ?_
  rintro e w4 ⟨rfl, hb⟩
  have hbw := below_step (w := W0) (by (first | assumption | (repeat (first | exact Below.refl _ _ | assumption | refine Below.drew ?_ | (refine Below.alloc ?_ (by simp <;> omega) _))))) hb
  obtain ⟨hc, hfz⟩ := bcell hbw
  have hb9 : Below w.heap.size w w4 := below_step' hw0 hbw
  go_wp2_with fail
  exact bodyPost_ret (v := .tuple #[.agg #[.int .i64 0, .int .i64 0], .int .i64 3]) (by simp [results, Tryz.results52, go_sem, hc, k1_0, k1_1, q1]) rfl
    ⟨rfl, hb9.grown (set2_grown _ _ _ _) hb9.size (fun k hk => by injection hk with hk; omega)⟩
set_option maxRecDepth 100000 in
set_option maxHeartbeats 8000000 in
theorem rrat_big2 (s1 : Int) (neg1 : Bool) (A1 : Option Addr) (c1 : Nat) (l1 : List Nat) (z1 : Int) (s2 : Int) (neg2 : Bool) (A2 : Option Addr) (c2 : Nat) (l2 : List Nat) (z2 : Int) (w : World) (h1 : IntF w s1 neg1 A1 c1 l1 z1) (h2 : IntF w s2 neg2 A2 c2 l2 z2) (a1 : l1.length = 0) (a2 : ¬ l2.length = 0) :
    Calls Tryz.prog 52 #[(Value.agg #[.int .i64 s1, .bool neg1, .slice A1 l1.length c1, .int .i64 s2, .bool neg2, .slice A2 l2.length c2])] w fun e w' => e = .returned (.tuple #[.agg #[.int .i64 0, .int .i64 0], .int .i64 3]) ∧ Below w.heap.size w w' := by
  have HS1 := hide (fun W => small_any s1 neg1 A1 c1 l1.length W)
  have HS2 := hide (fun W => small_any s2 neg2 A2 c2 l2.length W)
  rw [decide_eq_true a1] at HS1
  rw [decide_eq_false a2] at HS2
  clear a1 a2 h1 h2
  go_enter Tryz.func52, Tryz.ntmps52
  go_wp2_with fail
  obtain ⟨n0, n1, hsz, hw0⟩ := two_new w (.cells #[.int .i64 s1, .bool neg1, .slice A1 l1.length c1, .int .i64 s2, .bool neg2, .slice A2 l2.length c2] 63) (.cells #[.int .i64 0, .int .i64 0] 23)
  generalize ((w.alloc (.cells #[.int .i64 s1, .bool neg1, .slice A1 l1.length c1, .int .i64 s2, .bool neg2, .slice A2 l2.length c2] 63)).alloc (.cells #[.int .i64 0, .int .i64 0] 23)) = W0 at *
  have k0_0 : W0.cell? ⟨w.heap.size, 0, none⟩ = some (.int .i64 s1) := cells_of n0 0
  have k0_1 : W0.cell? ⟨w.heap.size, 1, none⟩ = some (.bool neg1) := cells_of n0 1
  have k0_2 : W0.cell? ⟨w.heap.size, 2, none⟩ = some (.slice A1 l1.length c1) := cells_of n0 2
  have k0_3 : W0.cell? ⟨w.heap.size, 3, none⟩ = some (.int .i64 s2) := cells_of n0 3
  have k0_4 : W0.cell? ⟨w.heap.size, 4, none⟩ = some (.bool neg2) := cells_of n0 4
  have k0_5 : W0.cell? ⟨w.heap.size, 5, none⟩ = some (.slice A2 l2.length c2) := cells_of n0 5
  have q0 : w.heap.size < W0.heap.size := by omega
  have k1_0 : W0.cell? ⟨w.heap.size + 1, 0, none⟩ = some (.int .i64 0) := cells_of n1 0
  have k1_1 : W0.cell? ⟨w.heap.size + 1, 1, none⟩ = some (.int .i64 0) := cells_of n1 1
  have q1 : w.heap.size + 1 < W0.heap.size := by omega
  have f1_0 := unfrozen_of n1 0
  have f1_1 := unfrozen_of n1 1
  have NR := Lib.hid n1
  clear n0 n1
  refine ((unhide HS1) _).mono ?_
  rintro e w3 ⟨rfl, hb⟩
  have hbw := below_step (w := W0) (by (first | assumption | (repeat (first | exact Below.refl _ _ | assumption | refine Below.drew ?_ | (refine Below.alloc ?_ (by simp <;> omega) _))))) hb
  obtain ⟨hc, hfz⟩ := bcell hbw
  go_wp2_with fail
  refine ((unhide HS2) _).mono ?_
  rintro e w4 ⟨rfl, hb⟩
  have hbw := below_step (w := W0) (by (first | assumption | (repeat (first | exact Below.refl _ _ | assumption | refine Below.drew ?_ | (refine Below.alloc ?_ (by simp <;> omega) _))))) hb
  obtain ⟨hc, hfz⟩ := bcell hbw
  have hb9 : Below w.heap.size w w4 := below_step' hw0 hbw
  go_wp2_with fail
  exact bodyPost_ret (v := .tuple #[.agg #[.int .i64 0, .int .i64 0], .int .i64 3]) (by simp [results, Tryz.results52, go_sem, hc, k1_0, k1_1, q1]) rfl
    ⟨rfl, hb9.grown (set2_grown _ _ _ _) hb9.size (fun k hk => by injection hk with hk; omega)⟩
set_option maxRecDepth 100000 in
set_option maxHeartbeats 8000000 in
theorem rrat_lo (s1 : Int) (neg1 : Bool) (A1 : Option Addr) (c1 : Nat) (l1 : List Nat) (z1 : Int) (s2 : Int) (neg2 : Bool) (A2 : Option Addr) (c2 : Nat) (l2 : List Nat) (z2 : Int) (w : World) (h1 : IntF w s1 neg1 A1 c1 l1 z1) (h2 : IntF w s2 neg2 A2 c2 l2 z2) (a1 : l1.length = 0) (a2 : l2.length = 0) (g1 : s1 < -1000000000000) :
    Calls Tryz.prog 52 #[(Value.agg #[.int .i64 s1, .bool neg1, .slice A1 l1.length c1, .int .i64 s2, .bool neg2, .slice A2 l2.length c2])] w fun e w' => e = .returned (.tuple #[.agg #[.int .i64 0, .int .i64 0], .int .i64 3]) ∧ Below w.heap.size w w' := by
  have HS1 := hide (fun W => small_any s1 neg1 A1 c1 l1.length W)
  have HS2 := hide (fun W => small_any s2 neg2 A2 c2 l2.length W)
  rw [decide_eq_true a1] at HS1
  rw [decide_eq_true a2] at HS2
  have d1 : decide (s1 < -1000000000000) = true := decide_eq_true (by omega)
  clear a1 a2 h1 h2 g1
  go_enter Tryz.func52, Tryz.ntmps52
  go_wp2_with fail
  obtain ⟨n0, n1, hsz, hw0⟩ := two_new w (.cells #[.int .i64 s1, .bool neg1, .slice A1 l1.length c1, .int .i64 s2, .bool neg2, .slice A2 l2.length c2] 63) (.cells #[.int .i64 0, .int .i64 0] 23)
  generalize ((w.alloc (.cells #[.int .i64 s1, .bool neg1, .slice A1 l1.length c1, .int .i64 s2, .bool neg2, .slice A2 l2.length c2] 63)).alloc (.cells #[.int .i64 0, .int .i64 0] 23)) = W0 at *
  have k0_0 : W0.cell? ⟨w.heap.size, 0, none⟩ = some (.int .i64 s1) := cells_of n0 0
  have k0_1 : W0.cell? ⟨w.heap.size, 1, none⟩ = some (.bool neg1) := cells_of n0 1
  have k0_2 : W0.cell? ⟨w.heap.size, 2, none⟩ = some (.slice A1 l1.length c1) := cells_of n0 2
  have k0_3 : W0.cell? ⟨w.heap.size, 3, none⟩ = some (.int .i64 s2) := cells_of n0 3
  have k0_4 : W0.cell? ⟨w.heap.size, 4, none⟩ = some (.bool neg2) := cells_of n0 4
  have k0_5 : W0.cell? ⟨w.heap.size, 5, none⟩ = some (.slice A2 l2.length c2) := cells_of n0 5
  have q0 : w.heap.size < W0.heap.size := by omega
  have k1_0 : W0.cell? ⟨w.heap.size + 1, 0, none⟩ = some (.int .i64 0) := cells_of n1 0
  have k1_1 : W0.cell? ⟨w.heap.size + 1, 1, none⟩ = some (.int .i64 0) := cells_of n1 1
  have q1 : w.heap.size + 1 < W0.heap.size := by omega
  have f1_0 := unfrozen_of n1 0
  have f1_1 := unfrozen_of n1 1
  have NR := Lib.hid n1
  clear n0 n1
  refine ((unhide HS1) _).mono ?_
  rintro e w3 ⟨rfl, hb⟩
  have hbw := below_step (w := W0) (by (first | assumption | (repeat (first | exact Below.refl _ _ | assumption | refine Below.drew ?_ | (refine Below.alloc ?_ (by simp <;> omega) _))))) hb
  obtain ⟨hc, hfz⟩ := bcell hbw
  go_wp2_with fail
  refine ((unhide HS2) _).mono ?_
  rintro e w4 ⟨rfl, hb⟩
  have hbw := below_step (w := W0) (by (first | assumption | (repeat (first | exact Below.refl _ _ | assumption | refine Below.drew ?_ | (refine Below.alloc ?_ (by simp <;> omega) _))))) hb
  obtain ⟨hc, hfz⟩ := bcell hbw
  have hb9 : Below w.heap.size w w4 := below_step' hw0 hbw
  go_wp2_with fail
  exact bodyPost_ret (v := .tuple #[.agg #[.int .i64 0, .int .i64 0], .int .i64 3]) (by simp [results, Tryz.results52, go_sem, hc, k1_0, k1_1, q1]) rfl
    ⟨rfl, hb9.grown (set2_grown _ _ _ _) hb9.size (fun k hk => by injection hk with hk; omega)⟩
set_option maxRecDepth 100000 in
set_option maxHeartbeats 8000000 in
theorem rrat_hi (s1 : Int) (neg1 : Bool) (A1 : Option Addr) (c1 : Nat) (l1 : List Nat) (z1 : Int) (s2 : Int) (neg2 : Bool) (A2 : Option Addr) (c2 : Nat) (l2 : List Nat) (z2 : Int) (w : World) (h1 : IntF w s1 neg1 A1 c1 l1 z1) (h2 : IntF w s2 neg2 A2 c2 l2 z2) (a1 : l1.length = 0) (a2 : l2.length = 0) (g1 : 1000000000000 < s1) :
    Calls Tryz.prog 52 #[(Value.agg #[.int .i64 s1, .bool neg1, .slice A1 l1.length c1, .int .i64 s2, .bool neg2, .slice A2 l2.length c2])] w fun e w' => e = .returned (.tuple #[.agg #[.int .i64 0, .int .i64 0], .int .i64 3]) ∧ Below w.heap.size w w' := by
  have HS1 := hide (fun W => small_any s1 neg1 A1 c1 l1.length W)
  have HS2 := hide (fun W => small_any s2 neg2 A2 c2 l2.length W)
  rw [decide_eq_true a1] at HS1
  rw [decide_eq_true a2] at HS2
  have d1 : decide (s1 < -1000000000000) = false := decide_eq_false (by omega)
  have d2 : decide (1000000000000 < s1) = true := decide_eq_true (by omega)
  clear a1 a2 h1 h2 g1
  go_enter Tryz.func52, Tryz.ntmps52
  go_wp2_with fail
  obtain ⟨n0, n1, hsz, hw0⟩ := two_new w (.cells #[.int .i64 s1, .bool neg1, .slice A1 l1.length c1, .int .i64 s2, .bool neg2, .slice A2 l2.length c2] 63) (.cells #[.int .i64 0, .int .i64 0] 23)
  generalize ((w.alloc (.cells #[.int .i64 s1, .bool neg1, .slice A1 l1.length c1, .int .i64 s2, .bool neg2, .slice A2 l2.length c2] 63)).alloc (.cells #[.int .i64 0, .int .i64 0] 23)) = W0 at *
  have k0_0 : W0.cell? ⟨w.heap.size, 0, none⟩ = some (.int .i64 s1) := cells_of n0 0
  have k0_1 : W0.cell? ⟨w.heap.size, 1, none⟩ = some (.bool neg1) := cells_of n0 1
  have k0_2 : W0.cell? ⟨w.heap.size, 2, none⟩ = some (.slice A1 l1.length c1) := cells_of n0 2
  have k0_3 : W0.cell? ⟨w.heap.size, 3, none⟩ = some (.int .i64 s2) := cells_of n0 3
  have k0_4 : W0.cell? ⟨w.heap.size, 4, none⟩ = some (.bool neg2) := cells_of n0 4
  have k0_5 : W0.cell? ⟨w.heap.size, 5, none⟩ = some (.slice A2 l2.length c2) := cells_of n0 5
  have q0 : w.heap.size < W0.heap.size := by omega
  have k1_0 : W0.cell? ⟨w.heap.size + 1, 0, none⟩ = some (.int .i64 0) := cells_of n1 0
  have k1_1 : W0.cell? ⟨w.heap.size + 1, 1, none⟩ = some (.int .i64 0) := cells_of n1 1
  have q1 : w.heap.size + 1 < W0.heap.size := by omega
  have f1_0 := unfrozen_of n1 0
  have f1_1 := unfrozen_of n1 1
  have NR := Lib.hid n1
  clear n0 n1
  refine ((unhide HS1) _).mono ?_
  rintro e w3 ⟨rfl, hb⟩
  have hbw := below_step (w := W0) (by (first | assumption | (repeat (first | exact Below.refl _ _ | assumption | refine Below.drew ?_ | (refine Below.alloc ?_ (by simp <;> omega) _))))) hb
  obtain ⟨hc, hfz⟩ := bcell hbw
  go_wp2_with fail
  refine ((unhide HS2) _).mono ?_
  rintro e w4 ⟨rfl, hb⟩
  have hbw := below_step (w := W0) (by (first | assumption | (repeat (first | exact Below.refl _ _ | assumption | refine Below.drew ?_ | (refine Below.alloc ?_ (by simp <;> omega) _))))) hb
  obtain ⟨hc, hfz⟩ := bcell hbw
  have hb9 : Below w.heap.size w w4 := below_step' hw0 hbw
  go_wp2_with fail
  exact bodyPost_ret (v := .tuple #[.agg #[.int .i64 0, .int .i64 0], .int .i64 3]) (by simp [results, Tryz.results52, go_sem, hc, k1_0, k1_1, q1]) rfl
    ⟨rfl, hb9.grown (set2_grown _ _ _ _) hb9.size (fun k hk => by injection hk with hk; omega)⟩
set_option maxRecDepth 100000 in
set_option maxHeartbeats 8000000 in
theorem rrat_den (s1 : Int) (neg1 : Bool) (A1 : Option Addr) (c1 : Nat) (l1 : List Nat) (z1 : Int) (s2 : Int) (neg2 : Bool) (A2 : Option Addr) (c2 : Nat) (l2 : List Nat) (z2 : Int) (w : World) (h1 : IntF w s1 neg1 A1 c1 l1 z1) (h2 : IntF w s2 neg2 A2 c2 l2 z2) (a1 : l1.length = 0) (a2 : l2.length = 0) (g1 : ¬ s1 < -1000000000000) (g2 : ¬ 1000000000000 < s1) (g3 : 1000000000000 < s2) :
    Calls Tryz.prog 52 #[(Value.agg #[.int .i64 s1, .bool neg1, .slice A1 l1.length c1, .int .i64 s2, .bool neg2, .slice A2 l2.length c2])] w fun e w' => e = .returned (.tuple #[.agg #[.int .i64 0, .int .i64 0], .int .i64 3]) ∧ Below w.heap.size w w' := by
  have HS1 := hide (fun W => small_any s1 neg1 A1 c1 l1.length W)
  have HS2 := hide (fun W => small_any s2 neg2 A2 c2 l2.length W)
  rw [decide_eq_true a1] at HS1
  rw [decide_eq_true a2] at HS2
  have d1 : decide (s1 < -1000000000000) = false := decide_eq_false (by omega)
  have d2 : decide (1000000000000 < s1) = false := decide_eq_false (by omega)
  have d3 : decide (1000000000000 < s2) = true := decide_eq_true (by omega)
  clear a1 a2 h1 h2 g1 g2 g3
  go_enter Tryz.func52, Tryz.ntmps52
  go_wp2_with fail
  obtain ⟨n0, n1, hsz, hw0⟩ := two_new w (.cells #[.int .i64 s1, .bool neg1, .slice A1 l1.length c1, .int .i64 s2, .bool neg2, .slice A2 l2.length c2] 63) (.cells #[.int .i64 0, .int .i64 0] 23)
  generalize ((w.alloc (.cells #[.int .i64 s1, .bool neg1, .slice A1 l1.length c1, .int .i64 s2, .bool neg2, .slice A2 l2.length c2] 63)).alloc (.cells #[.int .i64 0, .int .i64 0] 23)) = W0 at *
  have k0_0 : W0.cell? ⟨w.heap.size, 0, none⟩ = some (.int .i64 s1) := cells_of n0 0
  have k0_1 : W0.cell? ⟨w.heap.size, 1, none⟩ = some (.bool neg1) := cells_of n0 1
  have k0_2 : W0.cell? ⟨w.heap.size, 2, none⟩ = some (.slice A1 l1.length c1) := cells_of n0 2
  have k0_3 : W0.cell? ⟨w.heap.size, 3, none⟩ = some (.int .i64 s2) := cells_of n0 3
  have k0_4 : W0.cell? ⟨w.heap.size, 4, none⟩ = some (.bool neg2) := cells_of n0 4
  have k0_5 : W0.cell? ⟨w.heap.size, 5, none⟩ = some (.slice A2 l2.length c2) := cells_of n0 5
  have q0 : w.heap.size < W0.heap.size := by omega
  have k1_0 : W0.cell? ⟨w.heap.size + 1, 0, none⟩ = some (.int .i64 0) := cells_of n1 0
  have k1_1 : W0.cell? ⟨w.heap.size + 1, 1, none⟩ = some (.int .i64 0) := cells_of n1 1
  have q1 : w.heap.size + 1 < W0.heap.size := by omega
  have f1_0 := unfrozen_of n1 0
  have f1_1 := unfrozen_of n1 1
  have NR := Lib.hid n1
  clear n0 n1
  refine ((unhide HS1) _).mono ?_
  rintro e w3 ⟨rfl, hb⟩
  have hbw := below_step (w := W0) (by (first | assumption | (repeat (first | exact Below.refl _ _ | assumption | refine Below.drew ?_ | (refine Below.alloc ?_ (by simp <;> omega) _))))) hb
  obtain ⟨hc, hfz⟩ := bcell hbw
  go_wp2_with fail
  refine ((unhide HS2) _).mono ?_
  rintro e w4 ⟨rfl, hb⟩
  have hbw := below_step (w := W0) (by (first | assumption | (repeat (first | exact Below.refl _ _ | assumption | refine Below.drew ?_ | (refine Below.alloc ?_ (by simp <;> omega) _))))) hb
  obtain ⟨hc, hfz⟩ := bcell hbw
  have hb9 : Below w.heap.size w w4 := below_step' hw0 hbw
  go_wp2_with fail
  exact bodyPost_ret (v := .tuple #[.agg #[.int .i64 0, .int .i64 0], .int .i64 3]) (by simp [results, Tryz.results52, go_sem, hc, k1_0, k1_1, q1]) rfl
    ⟨rfl, hb9.grown (set2_grown _ _ _ _) hb9.size (fun k hk => by injection hk with hk; omega)⟩
set_option maxRecDepth 100000 in
set_option maxHeartbeats 8000000 in
theorem rrat_ok (s1 : Int) (neg1 : Bool) (A1 : Option Addr) (c1 : Nat) (l1 : List Nat) (z1 : Int) (s2 : Int) (neg2 : Bool) (A2 : Option Addr) (c2 : Nat) (l2 : List Nat) (z2 : Int) (w : World) (h1 : IntF w s1 neg1 A1 c1 l1 z1) (h2 : IntF w s2 neg2 A2 c2 l2 z2) (a1 : l1.length = 0) (a2 : l2.length = 0) (g1 : ¬ s1 < -1000000000000) (g2 : ¬ 1000000000000 < s1) (g3 : ¬ 1000000000000 < s2) :
    Calls Tryz.prog 52 #[(Value.agg #[.int .i64 s1, .bool neg1, .slice A1 l1.length c1, .int .i64 s2, .bool neg2, .slice A2 l2.length c2])] w fun e w' => e = .returned (.tuple #[.agg #[.int .i64 s1, .int .i64 s2], .int .i64 0]) ∧ Below w.heap.size w w' := by
  have HS1 := hide (fun W => small_any s1 neg1 A1 c1 l1.length W)
  have HS2 := hide (fun W => small_any s2 neg2 A2 c2 l2.length W)
  rw [decide_eq_true a1] at HS1
  rw [decide_eq_true a2] at HS2
  have d1 : decide (s1 < -1000000000000) = false := decide_eq_false (by omega)
  have d2 : decide (1000000000000 < s1) = false := decide_eq_false (by omega)
  have d3 : decide (1000000000000 < s2) = false := decide_eq_false (by omega)
  clear a1 a2 h1 h2 g1 g2 g3
  go_enter Tryz.func52, Tryz.ntmps52
  go_wp2_with fail
  obtain ⟨n0, n1, hsz, hw0⟩ := two_new w (.cells #[.int .i64 s1, .bool neg1, .slice A1 l1.length c1, .int .i64 s2, .bool neg2, .slice A2 l2.length c2] 63) (.cells #[.int .i64 0, .int .i64 0] 23)
  generalize ((w.alloc (.cells #[.int .i64 s1, .bool neg1, .slice A1 l1.length c1, .int .i64 s2, .bool neg2, .slice A2 l2.length c2] 63)).alloc (.cells #[.int .i64 0, .int .i64 0] 23)) = W0 at *
  have k0_0 : W0.cell? ⟨w.heap.size, 0, none⟩ = some (.int .i64 s1) := cells_of n0 0
  have k0_1 : W0.cell? ⟨w.heap.size, 1, none⟩ = some (.bool neg1) := cells_of n0 1
  have k0_2 : W0.cell? ⟨w.heap.size, 2, none⟩ = some (.slice A1 l1.length c1) := cells_of n0 2
  have k0_3 : W0.cell? ⟨w.heap.size, 3, none⟩ = some (.int .i64 s2) := cells_of n0 3
  have k0_4 : W0.cell? ⟨w.heap.size, 4, none⟩ = some (.bool neg2) := cells_of n0 4
  have k0_5 : W0.cell? ⟨w.heap.size, 5, none⟩ = some (.slice A2 l2.length c2) := cells_of n0 5
  have q0 : w.heap.size < W0.heap.size := by omega
  have k1_0 : W0.cell? ⟨w.heap.size + 1, 0, none⟩ = some (.int .i64 0) := cells_of n1 0
  have k1_1 : W0.cell? ⟨w.heap.size + 1, 1, none⟩ = some (.int .i64 0) := cells_of n1 1
  have q1 : w.heap.size + 1 < W0.heap.size := by omega
  have f1_0 := unfrozen_of n1 0
  have f1_1 := unfrozen_of n1 1
  have NR := Lib.hid n1
  clear n0 n1
  refine ((unhide HS1) _).mono ?_
  rintro e w3 ⟨rfl, hb⟩
  have hbw := below_step (w := W0) (by (first | assumption | (repeat (first | exact Below.refl _ _ | assumption | refine Below.drew ?_ | (refine Below.alloc ?_ (by simp <;> omega) _))))) hb
  obtain ⟨hc, hfz⟩ := bcell hbw
  go_wp2_with fail
  refine ((unhide HS2) _).mono ?_
  rintro e w4 ⟨rfl, hb⟩
  have hbw := below_step (w := W0) (by (first | assumption | (repeat (first | exact Below.refl _ _ | assumption | refine Below.drew ?_ | (refine Below.alloc ?_ (by simp <;> omega) _))))) hb
  obtain ⟨hc, hfz⟩ := bcell hbw
  have hb9 : Below w.heap.size w w4 := below_step' hw0 hbw
  go_wp2_with fail
  exact bodyPost_ret (v := .tuple #[.agg #[.int .i64 s1, .int .i64 s2], .int .i64 0]) (by simp [results, Tryz.results52, go_sem, hc, k1_0, k1_1, q1]) rfl
    ⟨rfl, hb9.grown (set2_grown _ _ _ _) hb9.size (fun k hk => by injection hk with hk; omega)⟩

/-- What the call tells of a quotient in lowest terms. -/
theorem rrat_any (s1 : Int) (neg1 : Bool) (A1 : Option Addr) (c1 : Nat) (l1 : List Nat) (z1 : Int) (s2 : Int) (neg2 : Bool) (A2 : Option Addr) (c2 : Nat) (l2 : List Nat) (z2 : Int) (w : World) (h1 : IntF w s1 neg1 A1 c1 l1 z1) (h2 : IntF w s2 neg2 A2 c2 l2 z2) (q : Rat) (e1 : z1 = q.num) (e2 : z2 = (q.den : Int)) :
    Calls Tryz.prog 52 #[(Value.agg #[.int .i64 s1, .bool neg1, .slice A1 l1.length c1, .int .i64 s2, .bool neg2, .slice A2 l2.length c2])] w fun e w' => e = .returned (.tuple #[.agg #[.int .i64 (Wd.told q).n, .int .i64 (Wd.told q).d], .int .i64 (Wd.told q).e]) ∧ Below w.heap.size w w' := by
  have hden := q.den_pos
  have big : ∀ (l : List Nat) (s : Int) (neg : Bool) (A : Option Addr) (c : Nat) (z : Int), IntF w s neg A c l z → ¬ l.length = 0 → 9223372036854775808 ≤ z.natAbs := fun l s neg A c z h a => by
    rcases h.form with ⟨x, _⟩ | ⟨_, _, _, _, x⟩
    · exact absurd x a
    · rwa [M63_eq] at x
  have large : ∀ P : Prop, ¬ Wd.fits q → (Wd.told q) = ⟨0, 0, 3⟩ := fun _ h => by unfold Wd.told; rw [if_neg h]
  by_cases a1 : l1.length = 0
  · obtain ⟨x1, _, _⟩ := h1.of_small a1
    by_cases a2 : l2.length = 0
    · obtain ⟨x2, _, _⟩ := h2.of_small a2
      by_cases g1 : s1 < -1000000000000
      · rw [large True (fun hf => by have := hf.1; rw [Wd.MX_eq] at this; omega)]; exact rrat_lo s1 neg1 A1 c1 l1 z1 s2 neg2 A2 c2 l2 z2 w h1 h2 a1 a2 g1
      by_cases g2 : 1000000000000 < s1
      · rw [large True (fun hf => by have := hf.1; rw [Wd.MX_eq] at this; omega)]; exact rrat_hi s1 neg1 A1 c1 l1 z1 s2 neg2 A2 c2 l2 z2 w h1 h2 a1 a2 g2
      by_cases g3 : 1000000000000 < s2
      · rw [large True (fun hf => by have := hf.2; rw [Wd.MX_eq] at this; omega)]; exact rrat_den s1 neg1 A1 c1 l1 z1 s2 neg2 A2 c2 l2 z2 w h1 h2 a1 a2 g1 g2 g3
      have hf : Wd.fits q := by unfold Wd.fits; rw [Wd.MX_eq]; omega
      have ht : Wd.told q = ⟨s1, s2, 0⟩ := by unfold Wd.told; rw [if_pos hf, x1, x2, e1, e2]
      rw [ht]
      exact rrat_ok s1 neg1 A1 c1 l1 z1 s2 neg2 A2 c2 l2 z2 w h1 h2 a1 a2 g1 g2 g3
    · have := big _ _ _ _ _ _ h2 a2
      rw [large True (fun hf => by have := hf.2; rw [Wd.MX_eq] at this; omega)]; exact rrat_big2 s1 neg1 A1 c1 l1 z1 s2 neg2 A2 c2 l2 z2 w h1 h2 a1 a2
  · have := big _ _ _ _ _ _ h1 a1
    rw [large True (fun hf => by have := hf.1; rw [Wd.MX_eq] at this; omega)]; exact rrat_big1 s1 neg1 A1 c1 l1 z1 s2 neg2 A2 c2 l2 z2 w h1 h2 a1

end Go.Proofs.YtpjgoogeokbaaaaGreatDoor
/- Two numbers put together: the errors ahead of it, and what is told. -/
namespace Go.Proofs.YtpjgoogeokbaaaaGreatDoor
open Go.RowKit

/-- What a call hands back: a number as it is told; what was there is as it was. -/
def TolR (w : World) (t : Wd.Told) (e : Ending) (w' : World) : Prop := e = .returned (.tuple #[.agg #[.int .i64 t.n, .int .i64 t.d], .int .i64 t.e]) ∧ Below w.heap.size w w'
end Go.Proofs.YtpjgoogeokbaaaaGreatDoor
/- A sum of numerators and denominators. -/
namespace Go.Proofs.YtpjgoogeokbaaaaGreatDoor
open Go.RowKit

set_option maxRecDepth 100000 in
set_option maxHeartbeats 16000000 in
theorem med_any (a b c d k kc kd u v : Int) (w : World) (h1 : k * c = kc) (h2 : k * d = kd) (h3 : a + kc = u) (h4 : b + kd = v)
    (b1 : -9223372036854775808 ≤ kc ∧ kc ≤ 9223372036854775807) (b2 : -9223372036854775808 ≤ kd ∧ kd ≤ 9223372036854775807) (b3 : -9223372036854775808 ≤ u ∧ u ≤ 9223372036854775807) (b4 : -9223372036854775808 ≤ v ∧ v ≤ 9223372036854775807) :
    Calls Tryz.prog 111 #[(Value.agg #[.int .i64 a, .int .i64 b]), (Value.agg #[.int .i64 c, .int .i64 d]), .int .i64 k] w fun e w' => e = .returned (Value.agg #[.int .i64 u, .int .i64 v]) ∧ Below w.heap.size w w' := by
  have e1 : wrap64 (k * c) = kc := by rw [h1]; exact IntWalk.wrap64_in _ b1
  have e2 : wrap64 (k * d) = kd := by rw [h2]; exact IntWalk.wrap64_in _ b2
  have e3 : wrap64 (a + kc) = u := by rw [h3]; exact IntWalk.wrap64_in _ b3
  have e4 : wrap64 (b + kd) = v := by rw [h4]; exact IntWalk.wrap64_in _ b4
  clear h1 h2 h3 h4 b1 b2 b3 b4
  go_enter Tryz.func111, Tryz.ntmps111
  go_wp2
  exact bodyPost_ret (v := (Value.agg #[.int .i64 u, .int .i64 v])) (by simp [results, Tryz.results111, go_sem]) rfl
    ⟨rfl, below_alloc (below_alloc (below_alloc (Below.refl _ _) _) _) _⟩

end Go.Proofs.YtpjgoogeokbaaaaGreatDoor
/- The integer below a number. -/
namespace Go.Proofs.YtpjgoogeokbaaaaGreatDoor
open Go.RowKit

theorem floor_math (n d : Int) (hd : 0 < d) : (n.tmod d < 0 → n.tdiv d - 1 = n / d) ∧ (¬ n.tmod d < 0 → n.tdiv d = n / d) := by
  have h1 := Int.tmod_add_mul_tdiv n d
  have h2 := Int.tmod_lt_of_pos n hd
  have h3 := Int.lt_tmod_of_pos n hd
  generalize n.tmod d = r at *
  generalize n.tdiv d = t at *
  constructor
  · intro h
    exact ((Int.ediv_emod_unique hd (r := r + d) (q := t - 1)).2 ⟨by rw [Int.mul_sub]; omega, by omega, by omega⟩).1.symm
  · intro h
    exact ((Int.ediv_emod_unique hd (r := r) (q := t)).2 ⟨by omega, by omega, by omega⟩).1.symm
theorem tdiv_le (n d : Int) : (n.tdiv d).natAbs ≤ n.natAbs := by rw [Int.natAbs_tdiv]; exact Nat.div_le_self _ _
set_option maxRecDepth 100000 in
set_option maxHeartbeats 16000000 in
theorem fdiv_any (n d : Int) (w : World) (b1 : -9223372036854775808 < n) (b2 : n ≤ 9223372036854775807) (hd : 0 < d) (b4 : d ≤ 9223372036854775807) :
    Calls Tryz.prog 55 #[.int .i64 n, .int .i64 d] w fun e w' => e = .returned (.int .i64 (n / d)) ∧ w' = w := by
  have hm := floor_math n d hd
  have hq := tdiv_le n d
  have hz : (d == 0) = false := beq_eq_false_iff_ne.2 (by omega)
  have hz' : ¬ d = 0 := by omega
  obtain ⟨t, ht⟩ : ∃ t, t = n.tdiv d := ⟨_, rfl⟩
  obtain ⟨r, hr⟩ : ∃ r, r = n.tmod d := ⟨_, rfl⟩
  obtain ⟨q, hqq⟩ : ∃ q, q = n / d := ⟨_, rfl⟩
  rw [← ht, ← hr, ← hqq] at hm
  rw [← ht] at hq
  rw [← hqq]
  have e1 : IntKind.i64.wrap t = t := IntWalk.i64_in _ (by omega)
  have e2 : wrap64 t = t := IntWalk.wrap64_in _ (by omega)
  have hr2 := Int.tmod_lt_of_pos n hd
  have hr3 := Int.lt_tmod_of_pos n hd
  rw [← hr] at hr2 hr3
  have e3 : IntKind.i64.wrap r = r := IntWalk.i64_in _ (by omega)
  have e4 : wrap64 r = r := IntWalk.wrap64_in _ (by omega)
  have e5 := ht.symm
  have e6 := hr.symm
  by_cases h : r < 0
  · have d1 : decide (r < 0) = true := decide_eq_true h
    have e7 : wrap64 (t - 1) = q := by rw [← hm.1 h]; exact IntWalk.wrap64_in _ (by omega)
    have e8 : IntKind.i64.wrap (t - 1) = q := by rw [← hm.1 h]; exact IntWalk.i64_in _ (by omega)
    clear hm hq ht hr hqq hr2 hr3 h b1 b2 hd b4
    go_enter Tryz.func55, Tryz.ntmps55
    go_wp2
    go_ret
    exact ⟨rfl, rfl⟩
  · have d1 : decide (r < 0) = false := decide_eq_false h
    have e7 : t = q := hm.2 h
    subst e7
    clear hm hq ht hr hqq hr2 hr3 h b1 b2 hd b4
    go_enter Tryz.func55, Tryz.ntmps55
    go_wp2
    go_ret
    exact ⟨rfl, rfl⟩
/-- The integer below a number, as it is told. -/
def floorV (n d : Int) : Int := if Wd.okR n d then n / d else 0
set_option maxRecDepth 100000 in
set_option maxHeartbeats 16000000 in
theorem floor_any (n d : Int) (w : World) (hT : Tab w) :
    Calls Tryz.prog 14 #[.agg #[.int .i64 n, .int .i64 d]] w fun e w' => e = .returned (.tuple #[.int .i64 (floorV n d), .int .i64 (valE n d)]) ∧ Below w.heap.size w w' := by
  have HV := hide (val_any n d)
  have HT := hide hT
  unfold floorV
  by_cases ok : Wd.okR n d
  · have hv : valE n d = 0 := if_pos ok
    rw [if_pos ok]
    rw [hv] at HV ⊢
    have HF := hide (fun W => fdiv_any n d W (by have := ok.2.2.1; omega) (by have := ok.2.2.2.1; omega) (by have := ok.1; omega) (by have := ok.2.1; omega))
    obtain ⟨q, hq⟩ : ∃ q, q = n / d := ⟨_, rfl⟩
    rw [← hq] at HF ⊢
    clear ok hv hT hq
    go_enter Tryz.func14, Tryz.ntmps14
    go_wp2_with fail
    have nb := heap_alloc_new w (.cells #[.int .i64 n, .int .i64 d] 23)
    have hw0 : Below w.heap.size w (w.alloc (.cells #[.int .i64 n, .int .i64 d] 23)) := below_alloc (Below.refl _ _) _
    generalize w.alloc (.cells #[.int .i64 n, .int .i64 d] 23) = W0 at *
    refine ((unhide HV) _ ((unhide HT).below hw0)).mono ?_
    rintro e W1 ⟨rfl, hb⟩
    have nb1 := (hb.block _ (lt_of_block nb)).trans nb
    have k0 : W1.cell? ⟨w.heap.size, 0, none⟩ = some (.int .i64 n) := cells_of nb1 0
    have k1 : W1.cell? ⟨w.heap.size, 1, none⟩ = some (.int .i64 d) := cells_of nb1 1
    have hb9 := below_step' hw0 hb
    clear nb nb1 hb
    go_wp2_with fail
    refine ((unhide HF) _).mono ?_
    rintro e W2 ⟨rfl, rfl⟩
    go_wp2_with fail
    exact bodyPost_ret (v := .tuple #[.int .i64 q, .int .i64 0]) (by simp [results, Tryz.results14, go_sem]) rfl ⟨rfl, hb9⟩
  · have hv : valE n d = 1 := if_neg ok
    rw [if_neg ok]
    rw [hv] at HV ⊢
    clear ok hv hT
    go_enter Tryz.func14, Tryz.ntmps14
    go_wp2_with fail
    have hw0 : Below w.heap.size w (w.alloc (.cells #[.int .i64 n, .int .i64 d] 23)) := below_alloc (Below.refl _ _) _
    refine ((unhide HV) _ ((unhide HT).below hw0)).mono ?_
    rintro e W1 ⟨rfl, hb⟩
    have hb9 := below_step' hw0 hb
    go_wp2_with fail
    exact bodyPost_ret (v := .tuple #[.int .i64 0, .int .i64 1]) (by simp [results, Tryz.results14, go_sem]) rfl ⟨rfl, hb9⟩

end Go.Proofs.YtpjgoogeokbaaaaGreatDoor
