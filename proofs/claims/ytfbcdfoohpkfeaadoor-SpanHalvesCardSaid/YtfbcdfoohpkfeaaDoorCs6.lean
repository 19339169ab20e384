/- Part 6 of the texts beneath a law of layer 1: RtAdd, RtMul, RtNeg, RtInv, RtOps. -/
import Derived.Test.YtfbcdfoohpkfeaaDoorCs5
/- The walk through the sum of two quotients. -/
namespace Go.Proofs.YtfbcdfoohpkfeaaDoor
open Go.RowKit

set_option maxRecDepth 100000 in
set_option maxHeartbeats 16000000 in
theorem radd_walk (s1 : Int) (neg1 : Bool) (A1 : Option Addr) (c1 : Nat) (l1 : List Nat) (s2 : Int) (neg2 : Bool) (A2 : Option Addr) (c2 : Nat) (l2 : List Nat) (s3 : Int) (neg3 : Bool) (A3 : Option Addr) (c3 : Nat) (l3 : List Nat) (s4 : Int) (neg4 : Bool) (A4 : Option Addr) (c4 : Nat) (l4 : List Nat) (z1 z2 z3 z4 g xd yd m1 m2 n h r1 e1 r2 : Int) (w : World) (f1 : IntF w s1 neg1 A1 c1 l1 z1) (f2 : IntF w s2 neg2 A2 c2 l2 z2) (f3 : IntF w s3 neg3 A3 c3 l3 z3) (f4 : IntF w s4 neg4 A4 c4 l4 z4)
    (hg : Op2 w 49 z2 z4 g) (hxd : Op2 w 52 z2 g xd) (hyd : Op2 w 52 z4 g yd) (hm1 : Op2 w 59 z1 yd m1) (hm2 : Op2 w 59 z3 xd m2) (hn : Op2 w 68 m1 m2 n) (hh : Op2 w 49 g n h) (hr1 : Op2 w 52 n h r1) (he : Op2 w 52 z4 h e1) (hr2 : Op2 w 59 xd e1 r2) :
    Calls Tryd.prog 37 #[(Value.agg #[.int .i64 s1, .bool neg1, .slice A1 l1.length c1, .int .i64 s2, .bool neg2, .slice A2 l2.length c2]), (Value.agg #[.int .i64 s3, .bool neg3, .slice A3 l3.length c3, .int .i64 s4, .bool neg4, .slice A4 l4.length c4])] w fun e w' => PairR w r1 r2 e w' := by
  have H1 := hide f1
  have H2 := hide f2
  have H3 := hide f3
  have H4 := hide f4
  clear f1 f2 f3 f4
  have HG := hide hg
  have HXD := hide hxd
  have HYD := hide hyd
  have HM1 := hide hm1
  have HM2 := hide hm2
  have HN := hide hn
  have HH := hide hh
  have HR1 := hide hr1
  have HE := hide he
  have HR2 := hide hr2
  clear hg hxd hyd hm1 hm2 hn hh hr1 he hr2
  go_enter Tryd.func37, Tryd.ntmps37
  go_upto_region 1 with fail
  obtain ⟨n0, n1, n2, hsz, hw0⟩ := three_new w (.cells #[.int .i64 s1, .bool neg1, .slice A1 l1.length c1, .int .i64 s2, .bool neg2, .slice A2 l2.length c2] 48) (.cells #[.int .i64 s3, .bool neg3, .slice A3 l3.length c3, .int .i64 s4, .bool neg4, .slice A4 l4.length c4] 48) (.cells #[.int .i64 0, .bool false, .slice none 0 0, .int .i64 0, .bool false, .slice none 0 0] 48)
  generalize (((w.alloc (.cells #[.int .i64 s1, .bool neg1, .slice A1 l1.length c1, .int .i64 s2, .bool neg2, .slice A2 l2.length c2] 48)).alloc (.cells #[.int .i64 s3, .bool neg3, .slice A3 l3.length c3, .int .i64 s4, .bool neg4, .slice A4 l4.length c4] 48)).alloc (.cells #[.int .i64 0, .bool false, .slice none 0 0, .int .i64 0, .bool false, .slice none 0 0] 48)) = W0 at *
  have k0_0 : W0.cell? ⟨w.heap.size, 0, none⟩ = some (.int .i64 s1) := cells_of n0 0
  have k0_1 : W0.cell? ⟨w.heap.size, 1, none⟩ = some (.bool neg1) := cells_of n0 1
  have k0_2 : W0.cell? ⟨w.heap.size, 2, none⟩ = some (.slice A1 l1.length c1) := cells_of n0 2
  have k0_3 : W0.cell? ⟨w.heap.size, 3, none⟩ = some (.int .i64 s2) := cells_of n0 3
  have k0_4 : W0.cell? ⟨w.heap.size, 4, none⟩ = some (.bool neg2) := cells_of n0 4
  have k0_5 : W0.cell? ⟨w.heap.size, 5, none⟩ = some (.slice A2 l2.length c2) := cells_of n0 5
  have q0 : w.heap.size < W0.heap.size := by omega
  have k1_0 : W0.cell? ⟨w.heap.size + 1, 0, none⟩ = some (.int .i64 s3) := cells_of n1 0
  have k1_1 : W0.cell? ⟨w.heap.size + 1, 1, none⟩ = some (.bool neg3) := cells_of n1 1
  have k1_2 : W0.cell? ⟨w.heap.size + 1, 2, none⟩ = some (.slice A3 l3.length c3) := cells_of n1 2
  have k1_3 : W0.cell? ⟨w.heap.size + 1, 3, none⟩ = some (.int .i64 s4) := cells_of n1 3
  have k1_4 : W0.cell? ⟨w.heap.size + 1, 4, none⟩ = some (.bool neg4) := cells_of n1 4
  have k1_5 : W0.cell? ⟨w.heap.size + 1, 5, none⟩ = some (.slice A4 l4.length c4) := cells_of n1 5
  have q1 : w.heap.size + 1 < W0.heap.size := by omega
  have k2_0 : W0.cell? ⟨w.heap.size + 1 + 1, 0, none⟩ = some (.int .i64 0) := cells_of n2 0
  have k2_1 : W0.cell? ⟨w.heap.size + 1 + 1, 1, none⟩ = some (.bool false) := cells_of n2 1
  have k2_2 : W0.cell? ⟨w.heap.size + 1 + 1, 2, none⟩ = some (.slice none 0 0) := cells_of n2 2
  have k2_3 : W0.cell? ⟨w.heap.size + 1 + 1, 3, none⟩ = some (.int .i64 0) := cells_of n2 3
  have k2_4 : W0.cell? ⟨w.heap.size + 1 + 1, 4, none⟩ = some (.bool false) := cells_of n2 4
  have k2_5 : W0.cell? ⟨w.heap.size + 1 + 1, 5, none⟩ = some (.slice none 0 0) := cells_of n2 5
  have q2 : w.heap.size + 1 + 1 < W0.heap.size := by omega
  have f2_0 := unfrozen_of n2 0
  have f2_1 := unfrozen_of n2 1
  have f2_2 := unfrozen_of n2 2
  have f2_3 := unfrozen_of n2 3
  have f2_4 := unfrozen_of n2 4
  have f2_5 := unfrozen_of n2 5
  have NR := Lib.hid n2
  clear hsz n0 n1 n2
  replace H1 := hide ((unhide H1).below hw0)
  replace H2 := hide ((unhide H2).below hw0)
  replace H3 := hide ((unhide H3).below hw0)
  replace H4 := hide ((unhide H4).below hw0)
  go_upto_region 1 with fail
  go_cut [5] (fun s5_ wx => ∃ b5 : Nat, s5_ = .pointer (some ⟨b5, 0, none⟩) ∧ BoxI wx b5 g ∧ Below W0.heap.size W0 wx ∧ W0.heap.size ≤ b5)
  case first =>
    go_wp2_with fail
    (go_at_call_of 49 (Value.agg #[.int .i64 s2, .bool neg2, .slice A2 l2.length c2]); refine ((unhide HG) s2 neg2 A2 c2 l2 s4 neg4 A4 c4 l4 _ (below_step' hw0 (by (repeat (first | with_reducible exact Below.refl _ _ | with_reducible assumption | with_reducible refine Below.drew ?_ | with_reducible refine below_alloc ?_ _)))) (IntF.below (unhide H2) (by (repeat (first | with_reducible exact Below.refl _ _ | with_reducible assumption | with_reducible refine Below.drew ?_ | with_reducible refine below_alloc ?_ _)))) (IntF.below (unhide H4) (by (repeat (first | with_reducible exact Below.refl _ _ | with_reducible assumption | with_reducible refine Below.drew ?_ | with_reducible refine below_alloc ?_ _))))).mono ?_; rintro e w' ⟨s5, neg5, A5, c5, l5, rfl, hf5, hb5⟩; have hbw := below_step (w := W0) (by (repeat (first | with_reducible exact Below.refl _ _ | with_reducible assumption | with_reducible refine Below.drew ?_ | with_reducible refine below_alloc ?_ _))) hb5; have hsw := hbw.size; obtain ⟨hc, hfz⟩ := bcell hbw)
    (go_wp2_with fail; go_meet; refine ⟨_, rfl, ?_⟩; first | with_reducible exact put_one (by assumption) hf5 hbw | with_reducible exact put_n hf5 hbw rfl)
  case rest =>
    revert hcut
    generalize wc = W1
    intro hcut
    obtain ⟨b5, rfl, B5, hbx, ob5⟩ := hcut
    obtain ⟨hc, hfz⟩ := bcell hbx
    replace k0_0 := (hc _ _ q0).trans k0_0
    replace k0_1 := (hc _ _ q0).trans k0_1
    replace k0_2 := (hc _ _ q0).trans k0_2
    replace k0_3 := (hc _ _ q0).trans k0_3
    replace k0_4 := (hc _ _ q0).trans k0_4
    replace k0_5 := (hc _ _ q0).trans k0_5
    replace q0 := Nat.lt_of_lt_of_le q0 hbx.size
    replace k1_0 := (hc _ _ q1).trans k1_0
    replace k1_1 := (hc _ _ q1).trans k1_1
    replace k1_2 := (hc _ _ q1).trans k1_2
    replace k1_3 := (hc _ _ q1).trans k1_3
    replace k1_4 := (hc _ _ q1).trans k1_4
    replace k1_5 := (hc _ _ q1).trans k1_5
    replace q1 := Nat.lt_of_lt_of_le q1 hbx.size
    replace ob5 : w.heap.size + 1 + 1 < b5 := Nat.lt_of_lt_of_le q2 ob5
    replace k2_0 := (hc _ _ q2).trans k2_0
    replace f2_0 := (hfz _ _ q2).trans f2_0
    replace k2_1 := (hc _ _ q2).trans k2_1
    replace f2_1 := (hfz _ _ q2).trans f2_1
    replace k2_2 := (hc _ _ q2).trans k2_2
    replace f2_2 := (hfz _ _ q2).trans f2_2
    replace k2_3 := (hc _ _ q2).trans k2_3
    replace f2_3 := (hfz _ _ q2).trans f2_3
    replace k2_4 := (hc _ _ q2).trans k2_4
    replace f2_4 := (hfz _ _ q2).trans f2_4
    replace k2_5 := (hc _ _ q2).trans k2_5
    replace f2_5 := (hfz _ _ q2).trans f2_5
    replace NR := Lib.hid ((hbx.block _ q2).trans NR.out)
    replace q2 := Nat.lt_of_lt_of_le q2 hbx.size
    replace hw0 := below_step' hw0 hbx
    replace H1 := hide ((unhide H1).below hbx)
    replace H2 := hide ((unhide H2).below hbx)
    replace H3 := hide ((unhide H3).below hbx)
    replace H4 := hide ((unhide H4).below hbx)
    obtain ⟨s5, neg5, A5, c5, l5, n5, H5⟩ := B5
    have kb5_0 : W1.cell? ⟨b5, 0, none⟩ = some (.int .i64 s5) := cells_of n5 0
    have kb5_1 : W1.cell? ⟨b5, 1, none⟩ = some (.bool neg5) := cells_of n5 1
    have kb5_2 : W1.cell? ⟨b5, 2, none⟩ = some (.slice A5 l5.length c5) := cells_of n5 2
    have qb5 := lt_of_block n5
    replace H5 := hide H5
    clear n5
    clear hbx hc hfz
    go_upto_region 2 with fail
    go_cut [6, 7] (fun s6_ s7_ wx => ∃ b6 b7 : Nat, s6_ = .pointer (some ⟨b6, 0, none⟩) ∧ s7_ = .pointer (some ⟨b7, 0, none⟩) ∧ BoxI wx b6 xd ∧ BoxI wx b7 yd ∧ Below W1.heap.size W1 wx ∧ W1.heap.size ≤ b6 ∧ W1.heap.size ≤ b7)
    case first =>
      have KEEP := hide (show ∀ X, Below W1.heap.size W1 X → X.cell? ⟨w.heap.size, 0, none⟩ = some (.int .i64 s1) ∧ X.cell? ⟨w.heap.size, 1, none⟩ = some (.bool neg1) ∧ X.cell? ⟨w.heap.size, 2, none⟩ = some (.slice A1 l1.length c1) ∧ X.cell? ⟨w.heap.size, 3, none⟩ = some (.int .i64 s2) ∧ X.cell? ⟨w.heap.size, 4, none⟩ = some (.bool neg2) ∧ X.cell? ⟨w.heap.size, 5, none⟩ = some (.slice A2 l2.length c2) ∧ X.cell? ⟨w.heap.size + 1, 0, none⟩ = some (.int .i64 s3) ∧ X.cell? ⟨w.heap.size + 1, 1, none⟩ = some (.bool neg3) ∧ X.cell? ⟨w.heap.size + 1, 2, none⟩ = some (.slice A3 l3.length c3) ∧ X.cell? ⟨w.heap.size + 1, 3, none⟩ = some (.int .i64 s4) ∧ X.cell? ⟨w.heap.size + 1, 4, none⟩ = some (.bool neg4) ∧ X.cell? ⟨w.heap.size + 1, 5, none⟩ = some (.slice A4 l4.length c4) ∧ X.cell? ⟨b5, 0, none⟩ = some (.int .i64 s5) ∧ X.cell? ⟨b5, 1, none⟩ = some (.bool neg5) ∧ X.cell? ⟨b5, 2, none⟩ = some (.slice A5 l5.length c5) from fun X hB => ⟨keep_cell hB q0 k0_0, keep_cell hB q0 k0_1, keep_cell hB q0 k0_2, keep_cell hB q0 k0_3, keep_cell hB q0 k0_4, keep_cell hB q0 k0_5, keep_cell hB q1 k1_0, keep_cell hB q1 k1_1, keep_cell hB q1 k1_2, keep_cell hB q1 k1_3, keep_cell hB q1 k1_4, keep_cell hB q1 k1_5, keep_cell hB qb5 kb5_0, keep_cell hB qb5 kb5_1, keep_cell hB qb5 kb5_2⟩)
      go_region_held3 (fun w' => w'.cell? ⟨w.heap.size, 0, none⟩ = some (.int .i64 s1) ∧ w'.cell? ⟨w.heap.size, 1, none⟩ = some (.bool neg1) ∧ w'.cell? ⟨w.heap.size, 2, none⟩ = some (.slice A1 l1.length c1) ∧ w'.cell? ⟨w.heap.size, 3, none⟩ = some (.int .i64 s2) ∧ w'.cell? ⟨w.heap.size, 4, none⟩ = some (.bool neg2) ∧ w'.cell? ⟨w.heap.size, 5, none⟩ = some (.slice A2 l2.length c2) ∧ w'.cell? ⟨w.heap.size + 1, 0, none⟩ = some (.int .i64 s3) ∧ w'.cell? ⟨w.heap.size + 1, 1, none⟩ = some (.bool neg3) ∧ w'.cell? ⟨w.heap.size + 1, 2, none⟩ = some (.slice A3 l3.length c3) ∧ w'.cell? ⟨w.heap.size + 1, 3, none⟩ = some (.int .i64 s4) ∧ w'.cell? ⟨w.heap.size + 1, 4, none⟩ = some (.bool neg4) ∧ w'.cell? ⟨w.heap.size + 1, 5, none⟩ = some (.slice A4 l4.length c4) ∧ w'.cell? ⟨b5, 0, none⟩ = some (.int .i64 s5) ∧ w'.cell? ⟨b5, 1, none⟩ = some (.bool neg5) ∧ w'.cell? ⟨b5, 2, none⟩ = some (.slice A5 l5.length c5)) (exact (unhide KEEP) _ (by (repeat (first | with_reducible exact Below.refl _ _ | with_reducible assumption | with_reducible refine Below.drew ?_ | with_reducible refine below_alloc ?_ _ | (with_reducible refine below_set ?_ ?_ _ _; rotate_left; (first | omega | (simp <;> omega))))))) (first | (go_at_call_of 52 (Value.agg #[.int .i64 s2, .bool neg2, .slice A2 l2.length c2]); refine ((unhide HXD) s2 neg2 A2 c2 l2 s5 neg5 A5 c5 l5 _ (below_step' hw0 (by (repeat (first | with_reducible exact Below.refl _ _ | with_reducible assumption | with_reducible refine Below.drew ?_ | with_reducible refine below_alloc ?_ _)))) (IntF.below (unhide H2) (by (repeat (first | with_reducible exact Below.refl _ _ | with_reducible assumption | with_reducible refine Below.drew ?_ | with_reducible refine below_alloc ?_ _)))) (IntF.below (unhide H5) (by (repeat (first | with_reducible exact Below.refl _ _ | with_reducible assumption | with_reducible refine Below.drew ?_ | with_reducible refine below_alloc ?_ _))))).mono ?_; rintro e w' ⟨s6, neg6, A6, c6, l6, rfl, hf6, hb6⟩; have hbw := below_step (w := W1) (by (repeat (first | with_reducible exact Below.refl _ _ | with_reducible assumption | with_reducible refine Below.drew ?_ | with_reducible refine below_alloc ?_ _))) hb6; have hsw := hbw.size; obtain ⟨hc, hfz⟩ := bcell hbw; (try ((first | have u6a : Fr W1 w' _ := Fr.below (Fr.new (by (repeat (first | with_reducible exact Below.refl _ _ | with_reducible assumption | with_reducible refine Below.drew ?_ | with_reducible refine below_alloc ?_ _))) rfl) hb6 | have u6a : Fr W1 w' _ := Fr.below (Fr.drew (Fr.new (by (repeat (first | with_reducible exact Below.refl _ _ | with_reducible assumption | with_reducible refine Below.drew ?_ | with_reducible refine below_alloc ?_ _))) rfl)) hb6); (try simp only [World.size_alloc] at u6a); (try dsimp only [World.drew] at u6a); (try simp only [World.size_alloc] at u6a); obtain ⟨⟨u6a1, u6a2, u6a3⟩, ⟨u6a4, u6a5, u6a6⟩, ⟨u6a7, u6a8, u6a9⟩, ⟨u6a10, u6a11, u6a12⟩, u6a13, u6a14⟩ := Fr.facts u6a)); (try ((first | have u6b : Fr W1 w' _ := Fr.below (Fr.alloc (Fr.new (by (repeat (first | with_reducible exact Below.refl _ _ | with_reducible assumption | with_reducible refine Below.drew ?_ | with_reducible refine below_alloc ?_ _))) rfl)) hb6 | have u6b : Fr W1 w' _ := Fr.below (Fr.drew (Fr.alloc (Fr.new (by (repeat (first | with_reducible exact Below.refl _ _ | with_reducible assumption | with_reducible refine Below.drew ?_ | with_reducible refine below_alloc ?_ _))) rfl))) hb6); (try simp only [World.size_alloc] at u6b); (try dsimp only [World.drew] at u6b); (try simp only [World.size_alloc] at u6b); obtain ⟨⟨u6b1, u6b2, u6b3⟩, ⟨u6b4, u6b5, u6b6⟩, ⟨u6b7, u6b8, u6b9⟩, ⟨u6b10, u6b11, u6b12⟩, u6b13, u6b14⟩ := Fr.facts u6b))) | (go_at_call_of 52 (Value.agg #[.int .i64 s4, .bool neg4, .slice A4 l4.length c4]); refine ((unhide HYD) s4 neg4 A4 c4 l4 s5 neg5 A5 c5 l5 _ (below_step' hw0 (by (repeat (first | with_reducible exact Below.refl _ _ | with_reducible assumption | with_reducible refine Below.drew ?_ | with_reducible refine below_alloc ?_ _)))) (IntF.below (unhide H4) (by (repeat (first | with_reducible exact Below.refl _ _ | with_reducible assumption | with_reducible refine Below.drew ?_ | with_reducible refine below_alloc ?_ _)))) (IntF.below (unhide H5) (by (repeat (first | with_reducible exact Below.refl _ _ | with_reducible assumption | with_reducible refine Below.drew ?_ | with_reducible refine below_alloc ?_ _))))).mono ?_; rintro e w' ⟨s7, neg7, A7, c7, l7, rfl, hf7, hb7⟩; have hf6 := IntF.below (IntF.below hf6 (by (repeat (first | with_reducible exact Below.refl _ _ | with_reducible assumption | with_reducible refine Below.drew ?_ | with_reducible refine below_alloc ?_ _)))) hb7; have hbw := below_step (w := W1) (by (repeat (first | with_reducible exact Below.refl _ _ | with_reducible assumption | with_reducible refine Below.drew ?_ | with_reducible refine below_alloc ?_ _))) hb7; have hsw := hbw.size; obtain ⟨hc, hfz⟩ := bcell hbw; (try ((first | have u7a : Fr W1 w' _ := Fr.below (Fr.new (by (repeat (first | with_reducible exact Below.refl _ _ | with_reducible assumption | with_reducible refine Below.drew ?_ | with_reducible refine below_alloc ?_ _))) rfl) hb7 | have u7a : Fr W1 w' _ := Fr.below (Fr.drew (Fr.new (by (repeat (first | with_reducible exact Below.refl _ _ | with_reducible assumption | with_reducible refine Below.drew ?_ | with_reducible refine below_alloc ?_ _))) rfl)) hb7); (try simp only [World.size_alloc] at u7a); (try dsimp only [World.drew] at u7a); (try simp only [World.size_alloc] at u7a); obtain ⟨⟨u7a1, u7a2, u7a3⟩, ⟨u7a4, u7a5, u7a6⟩, ⟨u7a7, u7a8, u7a9⟩, ⟨u7a10, u7a11, u7a12⟩, u7a13, u7a14⟩ := Fr.facts u7a)); (try ((first | have u7b : Fr W1 w' _ := Fr.below (Fr.alloc (Fr.new (by (repeat (first | with_reducible exact Below.refl _ _ | with_reducible assumption | with_reducible refine Below.drew ?_ | with_reducible refine below_alloc ?_ _))) rfl)) hb7 | have u7b : Fr W1 w' _ := Fr.below (Fr.drew (Fr.alloc (Fr.new (by (repeat (first | with_reducible exact Below.refl _ _ | with_reducible assumption | with_reducible refine Below.drew ?_ | with_reducible refine below_alloc ?_ _))) rfl))) hb7); (try simp only [World.size_alloc] at u7b); (try dsimp only [World.drew] at u7b); (try simp only [World.size_alloc] at u7b); obtain ⟨⟨u7b1, u7b2, u7b3⟩, ⟨u7b4, u7b5, u7b6⟩, ⟨u7b7, u7b8, u7b9⟩, ⟨u7b10, u7b11, u7b12⟩, u7b13, u7b14⟩ := Fr.facts u7b)); (try ((first | have u7c : Fr W1 w' _ := Fr.below u6a hb7 | have u7c : Fr W1 w' _ := Fr.below (Fr.alloc u6a) hb7 | have u7c : Fr W1 w' _ := Fr.below (Fr.alloc (Fr.alloc u6a)) hb7); (try simp only [World.size_alloc] at u7c); (try dsimp only [World.drew] at u7c); (try simp only [World.size_alloc] at u7c); obtain ⟨⟨u7c1, u7c2, u7c3⟩, ⟨u7c4, u7c5, u7c6⟩, ⟨u7c7, u7c8, u7c9⟩, ⟨u7c10, u7c11, u7c12⟩, u7c13, u7c14⟩ := Fr.facts u7c)); (try ((first | have u7d : Fr W1 w' _ := Fr.below u6b hb7 | have u7d : Fr W1 w' _ := Fr.below (Fr.alloc u6b) hb7 | have u7d : Fr W1 w' _ := Fr.below (Fr.alloc (Fr.alloc u6b)) hb7); (try simp only [World.size_alloc] at u7d); (try dsimp only [World.drew] at u7d); (try simp only [World.size_alloc] at u7d); obtain ⟨⟨u7d1, u7d2, u7d3⟩, ⟨u7d4, u7d5, u7d6⟩, ⟨u7d7, u7d8, u7d9⟩, ⟨u7d10, u7d11, u7d12⟩, u7d13, u7d14⟩ := Fr.facts u7d))))
      all_goals (go_wp2_with fail; go_meet; refine ⟨_, _, rfl, rfl, ?_⟩; first | with_reducible exact put_two ⟨by assumption, by assumption, by first | assumption | omega⟩ hf6 hf7 hbw | with_reducible exact put_two (Fr2.newR (by assumption) rfl) hf6.alloc hf7.alloc (below_alloc hbw _) | with_reducible exact put_two (Fr2.newL (by assumption) rfl) hf6.alloc hf7.alloc (below_alloc hbw _) | with_reducible exact put_nn hf6 hf7 hbw rfl rfl | with_reducible exact put_mm hf6 hf7 hbw rfl rfl | with_reducible exact put_ns (by assumption) hf6 hf7 hbw rfl)
    case rest =>
      revert hcut
      generalize wc = W2
      intro hcut
      obtain ⟨b6, b7, rfl, rfl, B6, B7, hbx, ob6, ob7⟩ := hcut
      obtain ⟨hc, hfz⟩ := bcell hbx
      replace k0_0 := (hc _ _ q0).trans k0_0
      replace k0_1 := (hc _ _ q0).trans k0_1
      replace k0_2 := (hc _ _ q0).trans k0_2
      replace k0_3 := (hc _ _ q0).trans k0_3
      replace k0_4 := (hc _ _ q0).trans k0_4
      replace k0_5 := (hc _ _ q0).trans k0_5
      replace q0 := Nat.lt_of_lt_of_le q0 hbx.size
      replace k1_0 := (hc _ _ q1).trans k1_0
      replace k1_1 := (hc _ _ q1).trans k1_1
      replace k1_2 := (hc _ _ q1).trans k1_2
      replace k1_3 := (hc _ _ q1).trans k1_3
      replace k1_4 := (hc _ _ q1).trans k1_4
      replace k1_5 := (hc _ _ q1).trans k1_5
      replace q1 := Nat.lt_of_lt_of_le q1 hbx.size
      replace kb5_0 := (hc _ _ qb5).trans kb5_0
      replace kb5_1 := (hc _ _ qb5).trans kb5_1
      replace kb5_2 := (hc _ _ qb5).trans kb5_2
      replace qb5 := Nat.lt_of_lt_of_le qb5 hbx.size
      replace ob6 : w.heap.size + 1 + 1 < b6 := Nat.lt_of_lt_of_le q2 ob6
      replace ob7 : w.heap.size + 1 + 1 < b7 := Nat.lt_of_lt_of_le q2 ob7
      replace k2_0 := (hc _ _ q2).trans k2_0
      replace f2_0 := (hfz _ _ q2).trans f2_0
      replace k2_1 := (hc _ _ q2).trans k2_1
      replace f2_1 := (hfz _ _ q2).trans f2_1
      replace k2_2 := (hc _ _ q2).trans k2_2
      replace f2_2 := (hfz _ _ q2).trans f2_2
      replace k2_3 := (hc _ _ q2).trans k2_3
      replace f2_3 := (hfz _ _ q2).trans f2_3
      replace k2_4 := (hc _ _ q2).trans k2_4
      replace f2_4 := (hfz _ _ q2).trans f2_4
      replace k2_5 := (hc _ _ q2).trans k2_5
      replace f2_5 := (hfz _ _ q2).trans f2_5
      replace NR := Lib.hid ((hbx.block _ q2).trans NR.out)
      replace q2 := Nat.lt_of_lt_of_le q2 hbx.size
      replace hw0 := below_step' hw0 hbx
      replace H1 := hide ((unhide H1).below hbx)
      replace H2 := hide ((unhide H2).below hbx)
      replace H3 := hide ((unhide H3).below hbx)
      replace H4 := hide ((unhide H4).below hbx)
      replace H5 := hide ((unhide H5).below hbx)
      obtain ⟨s6, neg6, A6, c6, l6, n6, H6⟩ := B6
      have kb6_0 : W2.cell? ⟨b6, 0, none⟩ = some (.int .i64 s6) := cells_of n6 0
      have kb6_1 : W2.cell? ⟨b6, 1, none⟩ = some (.bool neg6) := cells_of n6 1
      have kb6_2 : W2.cell? ⟨b6, 2, none⟩ = some (.slice A6 l6.length c6) := cells_of n6 2
      have qb6 := lt_of_block n6
      replace H6 := hide H6
      clear n6
      obtain ⟨s7, neg7, A7, c7, l7, n7, H7⟩ := B7
      have kb7_0 : W2.cell? ⟨b7, 0, none⟩ = some (.int .i64 s7) := cells_of n7 0
      have kb7_1 : W2.cell? ⟨b7, 1, none⟩ = some (.bool neg7) := cells_of n7 1
      have kb7_2 : W2.cell? ⟨b7, 2, none⟩ = some (.slice A7 l7.length c7) := cells_of n7 2
      have qb7 := lt_of_block n7
      replace H7 := hide H7
      clear n7
      clear hbx hc hfz
      go_upto_region 3 with fail
      go_cut [8] (fun s8_ wx => ∃ b8 : Nat, s8_ = .pointer (some ⟨b8, 0, none⟩) ∧ BoxI wx b8 n ∧ Below W2.heap.size W2 wx ∧ W2.heap.size ≤ b8)
      case first =>
        have KEEP := hide (show ∀ X, Below W2.heap.size W2 X → X.cell? ⟨w.heap.size, 0, none⟩ = some (.int .i64 s1) ∧ X.cell? ⟨w.heap.size, 1, none⟩ = some (.bool neg1) ∧ X.cell? ⟨w.heap.size, 2, none⟩ = some (.slice A1 l1.length c1) ∧ X.cell? ⟨w.heap.size, 3, none⟩ = some (.int .i64 s2) ∧ X.cell? ⟨w.heap.size, 4, none⟩ = some (.bool neg2) ∧ X.cell? ⟨w.heap.size, 5, none⟩ = some (.slice A2 l2.length c2) ∧ X.cell? ⟨w.heap.size + 1, 0, none⟩ = some (.int .i64 s3) ∧ X.cell? ⟨w.heap.size + 1, 1, none⟩ = some (.bool neg3) ∧ X.cell? ⟨w.heap.size + 1, 2, none⟩ = some (.slice A3 l3.length c3) ∧ X.cell? ⟨w.heap.size + 1, 3, none⟩ = some (.int .i64 s4) ∧ X.cell? ⟨w.heap.size + 1, 4, none⟩ = some (.bool neg4) ∧ X.cell? ⟨w.heap.size + 1, 5, none⟩ = some (.slice A4 l4.length c4) ∧ X.cell? ⟨b6, 0, none⟩ = some (.int .i64 s6) ∧ X.cell? ⟨b6, 1, none⟩ = some (.bool neg6) ∧ X.cell? ⟨b6, 2, none⟩ = some (.slice A6 l6.length c6) ∧ X.cell? ⟨b7, 0, none⟩ = some (.int .i64 s7) ∧ X.cell? ⟨b7, 1, none⟩ = some (.bool neg7) ∧ X.cell? ⟨b7, 2, none⟩ = some (.slice A7 l7.length c7) from fun X hB => ⟨keep_cell hB q0 k0_0, keep_cell hB q0 k0_1, keep_cell hB q0 k0_2, keep_cell hB q0 k0_3, keep_cell hB q0 k0_4, keep_cell hB q0 k0_5, keep_cell hB q1 k1_0, keep_cell hB q1 k1_1, keep_cell hB q1 k1_2, keep_cell hB q1 k1_3, keep_cell hB q1 k1_4, keep_cell hB q1 k1_5, keep_cell hB qb6 kb6_0, keep_cell hB qb6 kb6_1, keep_cell hB qb6 kb6_2, keep_cell hB qb7 kb7_0, keep_cell hB qb7 kb7_1, keep_cell hB qb7 kb7_2⟩)
        go_region_held3 (fun w' => w'.cell? ⟨w.heap.size, 0, none⟩ = some (.int .i64 s1) ∧ w'.cell? ⟨w.heap.size, 1, none⟩ = some (.bool neg1) ∧ w'.cell? ⟨w.heap.size, 2, none⟩ = some (.slice A1 l1.length c1) ∧ w'.cell? ⟨w.heap.size, 3, none⟩ = some (.int .i64 s2) ∧ w'.cell? ⟨w.heap.size, 4, none⟩ = some (.bool neg2) ∧ w'.cell? ⟨w.heap.size, 5, none⟩ = some (.slice A2 l2.length c2) ∧ w'.cell? ⟨w.heap.size + 1, 0, none⟩ = some (.int .i64 s3) ∧ w'.cell? ⟨w.heap.size + 1, 1, none⟩ = some (.bool neg3) ∧ w'.cell? ⟨w.heap.size + 1, 2, none⟩ = some (.slice A3 l3.length c3) ∧ w'.cell? ⟨w.heap.size + 1, 3, none⟩ = some (.int .i64 s4) ∧ w'.cell? ⟨w.heap.size + 1, 4, none⟩ = some (.bool neg4) ∧ w'.cell? ⟨w.heap.size + 1, 5, none⟩ = some (.slice A4 l4.length c4) ∧ w'.cell? ⟨b6, 0, none⟩ = some (.int .i64 s6) ∧ w'.cell? ⟨b6, 1, none⟩ = some (.bool neg6) ∧ w'.cell? ⟨b6, 2, none⟩ = some (.slice A6 l6.length c6) ∧ w'.cell? ⟨b7, 0, none⟩ = some (.int .i64 s7) ∧ w'.cell? ⟨b7, 1, none⟩ = some (.bool neg7) ∧ w'.cell? ⟨b7, 2, none⟩ = some (.slice A7 l7.length c7)) (exact (unhide KEEP) _ (by (repeat (first | with_reducible exact Below.refl _ _ | with_reducible assumption | with_reducible refine Below.drew ?_ | with_reducible refine below_alloc ?_ _ | (with_reducible refine below_set ?_ ?_ _ _; rotate_left; (first | omega | (simp <;> omega))))))) (first | (go_at_call_of 59 (Value.agg #[.int .i64 s1, .bool neg1, .slice A1 l1.length c1]); refine ((unhide HM1) s1 neg1 A1 c1 l1 s7 neg7 A7 c7 l7 _ (below_step' hw0 (by (repeat (first | with_reducible exact Below.refl _ _ | with_reducible assumption | with_reducible refine Below.drew ?_ | with_reducible refine below_alloc ?_ _)))) (IntF.below (unhide H1) (by (repeat (first | with_reducible exact Below.refl _ _ | with_reducible assumption | with_reducible refine Below.drew ?_ | with_reducible refine below_alloc ?_ _)))) (IntF.below (unhide H7) (by (repeat (first | with_reducible exact Below.refl _ _ | with_reducible assumption | with_reducible refine Below.drew ?_ | with_reducible refine below_alloc ?_ _))))).mono ?_; rintro e w' ⟨s8, neg8, A8, c8, l8, rfl, hf8, hb8⟩; have hbw := below_step (w := W2) (by (repeat (first | with_reducible exact Below.refl _ _ | with_reducible assumption | with_reducible refine Below.drew ?_ | with_reducible refine below_alloc ?_ _))) hb8; have hsw := hbw.size; obtain ⟨hc, hfz⟩ := bcell hbw; (try ((first | have u8a : Fr W2 w' _ := Fr.below (Fr.new (by (repeat (first | with_reducible exact Below.refl _ _ | with_reducible assumption | with_reducible refine Below.drew ?_ | with_reducible refine below_alloc ?_ _))) rfl) hb8 | have u8a : Fr W2 w' _ := Fr.below (Fr.drew (Fr.new (by (repeat (first | with_reducible exact Below.refl _ _ | with_reducible assumption | with_reducible refine Below.drew ?_ | with_reducible refine below_alloc ?_ _))) rfl)) hb8); (try simp only [World.size_alloc] at u8a); (try dsimp only [World.drew] at u8a); (try simp only [World.size_alloc] at u8a); obtain ⟨⟨u8a1, u8a2, u8a3⟩, ⟨u8a4, u8a5, u8a6⟩, ⟨u8a7, u8a8, u8a9⟩, ⟨u8a10, u8a11, u8a12⟩, u8a13, u8a14⟩ := Fr.facts u8a))) | (go_at_call_of 59 (Value.agg #[.int .i64 s3, .bool neg3, .slice A3 l3.length c3]); refine ((unhide HM2) s3 neg3 A3 c3 l3 s6 neg6 A6 c6 l6 _ (below_step' hw0 (by (repeat (first | with_reducible exact Below.refl _ _ | with_reducible assumption | with_reducible refine Below.drew ?_ | with_reducible refine below_alloc ?_ _)))) (IntF.below (unhide H3) (by (repeat (first | with_reducible exact Below.refl _ _ | with_reducible assumption | with_reducible refine Below.drew ?_ | with_reducible refine below_alloc ?_ _)))) (IntF.below (unhide H6) (by (repeat (first | with_reducible exact Below.refl _ _ | with_reducible assumption | with_reducible refine Below.drew ?_ | with_reducible refine below_alloc ?_ _))))).mono ?_; rintro e w' ⟨s9, neg9, A9, c9, l9, rfl, hf9, hb9⟩; have hf8 := IntF.below (IntF.below hf8 (by (repeat (first | with_reducible exact Below.refl _ _ | with_reducible assumption | with_reducible refine Below.drew ?_ | with_reducible refine below_alloc ?_ _)))) hb9; have hbw := below_step (w := W2) (by (repeat (first | with_reducible exact Below.refl _ _ | with_reducible assumption | with_reducible refine Below.drew ?_ | with_reducible refine below_alloc ?_ _))) hb9; have hsw := hbw.size; obtain ⟨hc, hfz⟩ := bcell hbw; (try ((first | have u9a : Fr W2 w' _ := Fr.below (Fr.new (by (repeat (first | with_reducible exact Below.refl _ _ | with_reducible assumption | with_reducible refine Below.drew ?_ | with_reducible refine below_alloc ?_ _))) rfl) hb9 | have u9a : Fr W2 w' _ := Fr.below (Fr.drew (Fr.new (by (repeat (first | with_reducible exact Below.refl _ _ | with_reducible assumption | with_reducible refine Below.drew ?_ | with_reducible refine below_alloc ?_ _))) rfl)) hb9); (try simp only [World.size_alloc] at u9a); (try dsimp only [World.drew] at u9a); (try simp only [World.size_alloc] at u9a); obtain ⟨⟨u9a1, u9a2, u9a3⟩, ⟨u9a4, u9a5, u9a6⟩, ⟨u9a7, u9a8, u9a9⟩, ⟨u9a10, u9a11, u9a12⟩, u9a13, u9a14⟩ := Fr.facts u9a)); (try ((first | have u9c : Fr W2 w' _ := Fr.below u8a hb9 | have u9c : Fr W2 w' _ := Fr.below (Fr.alloc u8a) hb9 | have u9c : Fr W2 w' _ := Fr.below (Fr.alloc (Fr.alloc u8a)) hb9); (try simp only [World.size_alloc] at u9c); (try dsimp only [World.drew] at u9c); (try simp only [World.size_alloc] at u9c); obtain ⟨⟨u9c1, u9c2, u9c3⟩, ⟨u9c4, u9c5, u9c6⟩, ⟨u9c7, u9c8, u9c9⟩, ⟨u9c10, u9c11, u9c12⟩, u9c13, u9c14⟩ := Fr.facts u9c))) | (go_at_call_of 68 (Value.agg #[.int .i64 s8, .bool neg8, .slice A8 l8.length c8]); refine ((unhide HN) s8 neg8 A8 c8 l8 s9 neg9 A9 c9 l9 _ (below_step' hw0 (by (repeat (first | with_reducible exact Below.refl _ _ | with_reducible assumption | with_reducible refine Below.drew ?_ | with_reducible refine below_alloc ?_ _)))) (IntF.below hf8 (by (repeat (first | with_reducible exact Below.refl _ _ | with_reducible assumption | with_reducible refine Below.drew ?_ | with_reducible refine below_alloc ?_ _)))) (IntF.below hf9 (by (repeat (first | with_reducible exact Below.refl _ _ | with_reducible assumption | with_reducible refine Below.drew ?_ | with_reducible refine below_alloc ?_ _))))).mono ?_; rintro e w' ⟨s10, neg10, A10, c10, l10, rfl, hf10, hb10⟩; have hf8 := IntF.below (IntF.below hf8 (by (repeat (first | with_reducible exact Below.refl _ _ | with_reducible assumption | with_reducible refine Below.drew ?_ | with_reducible refine below_alloc ?_ _)))) hb10; have hf9 := IntF.below (IntF.below hf9 (by (repeat (first | with_reducible exact Below.refl _ _ | with_reducible assumption | with_reducible refine Below.drew ?_ | with_reducible refine below_alloc ?_ _)))) hb10; have hbw := below_step (w := W2) (by (repeat (first | with_reducible exact Below.refl _ _ | with_reducible assumption | with_reducible refine Below.drew ?_ | with_reducible refine below_alloc ?_ _))) hb10; have hsw := hbw.size; obtain ⟨hc, hfz⟩ := bcell hbw; (try ((first | have u10a : Fr W2 w' _ := Fr.below (Fr.new (by (repeat (first | with_reducible exact Below.refl _ _ | with_reducible assumption | with_reducible refine Below.drew ?_ | with_reducible refine below_alloc ?_ _))) rfl) hb10 | have u10a : Fr W2 w' _ := Fr.below (Fr.drew (Fr.new (by (repeat (first | with_reducible exact Below.refl _ _ | with_reducible assumption | with_reducible refine Below.drew ?_ | with_reducible refine below_alloc ?_ _))) rfl)) hb10); (try simp only [World.size_alloc] at u10a); (try dsimp only [World.drew] at u10a); (try simp only [World.size_alloc] at u10a); obtain ⟨⟨u10a1, u10a2, u10a3⟩, ⟨u10a4, u10a5, u10a6⟩, ⟨u10a7, u10a8, u10a9⟩, ⟨u10a10, u10a11, u10a12⟩, u10a13, u10a14⟩ := Fr.facts u10a)); (try ((first | have u10c : Fr W2 w' _ := Fr.below u9a hb10 | have u10c : Fr W2 w' _ := Fr.below (Fr.alloc u9a) hb10 | have u10c : Fr W2 w' _ := Fr.below (Fr.alloc (Fr.alloc u9a)) hb10); (try simp only [World.size_alloc] at u10c); (try dsimp only [World.drew] at u10c); (try simp only [World.size_alloc] at u10c); obtain ⟨⟨u10c1, u10c2, u10c3⟩, ⟨u10c4, u10c5, u10c6⟩, ⟨u10c7, u10c8, u10c9⟩, ⟨u10c10, u10c11, u10c12⟩, u10c13, u10c14⟩ := Fr.facts u10c)); (try ((first | have u10d : Fr W2 w' _ := Fr.below u9c hb10 | have u10d : Fr W2 w' _ := Fr.below (Fr.alloc u9c) hb10 | have u10d : Fr W2 w' _ := Fr.below (Fr.alloc (Fr.alloc u9c)) hb10); (try simp only [World.size_alloc] at u10d); (try dsimp only [World.drew] at u10d); (try simp only [World.size_alloc] at u10d); obtain ⟨⟨u10d1, u10d2, u10d3⟩, ⟨u10d4, u10d5, u10d6⟩, ⟨u10d7, u10d8, u10d9⟩, ⟨u10d10, u10d11, u10d12⟩, u10d13, u10d14⟩ := Fr.facts u10d))))
        all_goals (go_wp2_with fail; go_meet; refine ⟨_, rfl, ?_⟩; first | with_reducible exact put_one (by assumption) hf10 hbw | with_reducible exact put_n hf10 hbw rfl)
      case rest =>
        revert hcut
        generalize wc = W3
        intro hcut
        obtain ⟨b8, rfl, B8, hbx, ob8⟩ := hcut
        obtain ⟨hc, hfz⟩ := bcell hbx
        replace k0_0 := (hc _ _ q0).trans k0_0
        replace k0_1 := (hc _ _ q0).trans k0_1
        replace k0_2 := (hc _ _ q0).trans k0_2
        replace k0_3 := (hc _ _ q0).trans k0_3
        replace k0_4 := (hc _ _ q0).trans k0_4
        replace k0_5 := (hc _ _ q0).trans k0_5
        replace q0 := Nat.lt_of_lt_of_le q0 hbx.size
        replace k1_0 := (hc _ _ q1).trans k1_0
        replace k1_1 := (hc _ _ q1).trans k1_1
        replace k1_2 := (hc _ _ q1).trans k1_2
        replace k1_3 := (hc _ _ q1).trans k1_3
        replace k1_4 := (hc _ _ q1).trans k1_4
        replace k1_5 := (hc _ _ q1).trans k1_5
        replace q1 := Nat.lt_of_lt_of_le q1 hbx.size
        replace kb5_0 := (hc _ _ qb5).trans kb5_0
        replace kb5_1 := (hc _ _ qb5).trans kb5_1
        replace kb5_2 := (hc _ _ qb5).trans kb5_2
        replace qb5 := Nat.lt_of_lt_of_le qb5 hbx.size
        replace kb6_0 := (hc _ _ qb6).trans kb6_0
        replace kb6_1 := (hc _ _ qb6).trans kb6_1
        replace kb6_2 := (hc _ _ qb6).trans kb6_2
        replace qb6 := Nat.lt_of_lt_of_le qb6 hbx.size
        replace kb7_0 := (hc _ _ qb7).trans kb7_0
        replace kb7_1 := (hc _ _ qb7).trans kb7_1
        replace kb7_2 := (hc _ _ qb7).trans kb7_2
        replace qb7 := Nat.lt_of_lt_of_le qb7 hbx.size
        replace ob8 : w.heap.size + 1 + 1 < b8 := Nat.lt_of_lt_of_le q2 ob8
        replace k2_0 := (hc _ _ q2).trans k2_0
        replace f2_0 := (hfz _ _ q2).trans f2_0
        replace k2_1 := (hc _ _ q2).trans k2_1
        replace f2_1 := (hfz _ _ q2).trans f2_1
        replace k2_2 := (hc _ _ q2).trans k2_2
        replace f2_2 := (hfz _ _ q2).trans f2_2
        replace k2_3 := (hc _ _ q2).trans k2_3
        replace f2_3 := (hfz _ _ q2).trans f2_3
        replace k2_4 := (hc _ _ q2).trans k2_4
        replace f2_4 := (hfz _ _ q2).trans f2_4
        replace k2_5 := (hc _ _ q2).trans k2_5
        replace f2_5 := (hfz _ _ q2).trans f2_5
        replace NR := Lib.hid ((hbx.block _ q2).trans NR.out)
        replace q2 := Nat.lt_of_lt_of_le q2 hbx.size
        replace hw0 := below_step' hw0 hbx
        replace H1 := hide ((unhide H1).below hbx)
        replace H2 := hide ((unhide H2).below hbx)
        replace H3 := hide ((unhide H3).below hbx)
        replace H4 := hide ((unhide H4).below hbx)
        replace H5 := hide ((unhide H5).below hbx)
        replace H6 := hide ((unhide H6).below hbx)
        replace H7 := hide ((unhide H7).below hbx)
        obtain ⟨s10, neg10, A10, c10, l10, n10, H10⟩ := B8
        have kb8_0 : W3.cell? ⟨b8, 0, none⟩ = some (.int .i64 s10) := cells_of n10 0
        have kb8_1 : W3.cell? ⟨b8, 1, none⟩ = some (.bool neg10) := cells_of n10 1
        have kb8_2 : W3.cell? ⟨b8, 2, none⟩ = some (.slice A10 l10.length c10) := cells_of n10 2
        have qb8 := lt_of_block n10
        replace H10 := hide H10
        clear n10
        clear hbx hc hfz
        go_upto_region 4 with fail
        go_cut [9] (fun s9_ wx => ∃ b9 : Nat, s9_ = .pointer (some ⟨b9, 0, none⟩) ∧ BoxI wx b9 h ∧ Below W3.heap.size W3 wx ∧ W3.heap.size ≤ b9)
        case first =>
          go_wp2_with fail
          (go_at_call_of 49 (Value.agg #[.int .i64 s5, .bool neg5, .slice A5 l5.length c5]); refine ((unhide HH) s5 neg5 A5 c5 l5 s10 neg10 A10 c10 l10 _ (below_step' hw0 (by (repeat (first | with_reducible exact Below.refl _ _ | with_reducible assumption | with_reducible refine Below.drew ?_ | with_reducible refine below_alloc ?_ _)))) (IntF.below (unhide H5) (by (repeat (first | with_reducible exact Below.refl _ _ | with_reducible assumption | with_reducible refine Below.drew ?_ | with_reducible refine below_alloc ?_ _)))) (IntF.below (unhide H10) (by (repeat (first | with_reducible exact Below.refl _ _ | with_reducible assumption | with_reducible refine Below.drew ?_ | with_reducible refine below_alloc ?_ _))))).mono ?_; rintro e w' ⟨s11, neg11, A11, c11, l11, rfl, hf11, hb11⟩; have hbw := below_step (w := W3) (by (repeat (first | with_reducible exact Below.refl _ _ | with_reducible assumption | with_reducible refine Below.drew ?_ | with_reducible refine below_alloc ?_ _))) hb11; have hsw := hbw.size; obtain ⟨hc, hfz⟩ := bcell hbw)
          (go_wp2_with fail; go_meet; refine ⟨_, rfl, ?_⟩; first | with_reducible exact put_one (by assumption) hf11 hbw | with_reducible exact put_n hf11 hbw rfl)
        case rest =>
          revert hcut
          generalize wc = W4
          intro hcut
          obtain ⟨b9, rfl, B9, hbx, ob9⟩ := hcut
          obtain ⟨hc, hfz⟩ := bcell hbx
          replace k0_0 := (hc _ _ q0).trans k0_0
          replace k0_1 := (hc _ _ q0).trans k0_1
          replace k0_2 := (hc _ _ q0).trans k0_2
          replace k0_3 := (hc _ _ q0).trans k0_3
          replace k0_4 := (hc _ _ q0).trans k0_4
          replace k0_5 := (hc _ _ q0).trans k0_5
          replace q0 := Nat.lt_of_lt_of_le q0 hbx.size
          replace k1_0 := (hc _ _ q1).trans k1_0
          replace k1_1 := (hc _ _ q1).trans k1_1
          replace k1_2 := (hc _ _ q1).trans k1_2
          replace k1_3 := (hc _ _ q1).trans k1_3
          replace k1_4 := (hc _ _ q1).trans k1_4
          replace k1_5 := (hc _ _ q1).trans k1_5
          replace q1 := Nat.lt_of_lt_of_le q1 hbx.size
          replace kb5_0 := (hc _ _ qb5).trans kb5_0
          replace kb5_1 := (hc _ _ qb5).trans kb5_1
          replace kb5_2 := (hc _ _ qb5).trans kb5_2
          replace qb5 := Nat.lt_of_lt_of_le qb5 hbx.size
          replace kb6_0 := (hc _ _ qb6).trans kb6_0
          replace kb6_1 := (hc _ _ qb6).trans kb6_1
          replace kb6_2 := (hc _ _ qb6).trans kb6_2
          replace qb6 := Nat.lt_of_lt_of_le qb6 hbx.size
          replace kb7_0 := (hc _ _ qb7).trans kb7_0
          replace kb7_1 := (hc _ _ qb7).trans kb7_1
          replace kb7_2 := (hc _ _ qb7).trans kb7_2
          replace qb7 := Nat.lt_of_lt_of_le qb7 hbx.size
          replace kb8_0 := (hc _ _ qb8).trans kb8_0
          replace kb8_1 := (hc _ _ qb8).trans kb8_1
          replace kb8_2 := (hc _ _ qb8).trans kb8_2
          replace qb8 := Nat.lt_of_lt_of_le qb8 hbx.size
          replace ob9 : w.heap.size + 1 + 1 < b9 := Nat.lt_of_lt_of_le q2 ob9
          replace k2_0 := (hc _ _ q2).trans k2_0
          replace f2_0 := (hfz _ _ q2).trans f2_0
          replace k2_1 := (hc _ _ q2).trans k2_1
          replace f2_1 := (hfz _ _ q2).trans f2_1
          replace k2_2 := (hc _ _ q2).trans k2_2
          replace f2_2 := (hfz _ _ q2).trans f2_2
          replace k2_3 := (hc _ _ q2).trans k2_3
          replace f2_3 := (hfz _ _ q2).trans f2_3
          replace k2_4 := (hc _ _ q2).trans k2_4
          replace f2_4 := (hfz _ _ q2).trans f2_4
          replace k2_5 := (hc _ _ q2).trans k2_5
          replace f2_5 := (hfz _ _ q2).trans f2_5
          replace NR := Lib.hid ((hbx.block _ q2).trans NR.out)
          replace q2 := Nat.lt_of_lt_of_le q2 hbx.size
          replace hw0 := below_step' hw0 hbx
          replace H1 := hide ((unhide H1).below hbx)
          replace H2 := hide ((unhide H2).below hbx)
          replace H3 := hide ((unhide H3).below hbx)
          replace H4 := hide ((unhide H4).below hbx)
          replace H5 := hide ((unhide H5).below hbx)
          replace H6 := hide ((unhide H6).below hbx)
          replace H7 := hide ((unhide H7).below hbx)
          replace H10 := hide ((unhide H10).below hbx)
          obtain ⟨s11, neg11, A11, c11, l11, n11, H11⟩ := B9
          have kb9_0 : W4.cell? ⟨b9, 0, none⟩ = some (.int .i64 s11) := cells_of n11 0
          have kb9_1 : W4.cell? ⟨b9, 1, none⟩ = some (.bool neg11) := cells_of n11 1
          have kb9_2 : W4.cell? ⟨b9, 2, none⟩ = some (.slice A11 l11.length c11) := cells_of n11 2
          have qb9 := lt_of_block n11
          replace H11 := hide H11
          clear n11
          clear hbx hc hfz
          go_upto_region 5 with fail
          have KEEP := hide (show ∀ X, Below W4.heap.size W4 X → X.cell? ⟨w.heap.size + 1, 0, none⟩ = some (.int .i64 s3) ∧ X.cell? ⟨w.heap.size + 1, 1, none⟩ = some (.bool neg3) ∧ X.cell? ⟨w.heap.size + 1, 2, none⟩ = some (.slice A3 l3.length c3) ∧ X.cell? ⟨w.heap.size + 1, 3, none⟩ = some (.int .i64 s4) ∧ X.cell? ⟨w.heap.size + 1, 4, none⟩ = some (.bool neg4) ∧ X.cell? ⟨w.heap.size + 1, 5, none⟩ = some (.slice A4 l4.length c4) ∧ X.cell? ⟨b6, 0, none⟩ = some (.int .i64 s6) ∧ X.cell? ⟨b6, 1, none⟩ = some (.bool neg6) ∧ X.cell? ⟨b6, 2, none⟩ = some (.slice A6 l6.length c6) ∧ X.cell? ⟨b8, 0, none⟩ = some (.int .i64 s10) ∧ X.cell? ⟨b8, 1, none⟩ = some (.bool neg10) ∧ X.cell? ⟨b8, 2, none⟩ = some (.slice A10 l10.length c10) ∧ X.cell? ⟨b9, 0, none⟩ = some (.int .i64 s11) ∧ X.cell? ⟨b9, 1, none⟩ = some (.bool neg11) ∧ X.cell? ⟨b9, 2, none⟩ = some (.slice A11 l11.length c11) from fun X hB => ⟨keep_cell hB q1 k1_0, keep_cell hB q1 k1_1, keep_cell hB q1 k1_2, keep_cell hB q1 k1_3, keep_cell hB q1 k1_4, keep_cell hB q1 k1_5, keep_cell hB qb6 kb6_0, keep_cell hB qb6 kb6_1, keep_cell hB qb6 kb6_2, keep_cell hB qb8 kb8_0, keep_cell hB qb8 kb8_1, keep_cell hB qb8 kb8_2, keep_cell hB qb9 kb9_0, keep_cell hB qb9 kb9_1, keep_cell hB qb9 kb9_2⟩)
          go_region_held3 (fun w' => w'.cell? ⟨w.heap.size + 1, 0, none⟩ = some (.int .i64 s3) ∧ w'.cell? ⟨w.heap.size + 1, 1, none⟩ = some (.bool neg3) ∧ w'.cell? ⟨w.heap.size + 1, 2, none⟩ = some (.slice A3 l3.length c3) ∧ w'.cell? ⟨w.heap.size + 1, 3, none⟩ = some (.int .i64 s4) ∧ w'.cell? ⟨w.heap.size + 1, 4, none⟩ = some (.bool neg4) ∧ w'.cell? ⟨w.heap.size + 1, 5, none⟩ = some (.slice A4 l4.length c4) ∧ w'.cell? ⟨b6, 0, none⟩ = some (.int .i64 s6) ∧ w'.cell? ⟨b6, 1, none⟩ = some (.bool neg6) ∧ w'.cell? ⟨b6, 2, none⟩ = some (.slice A6 l6.length c6) ∧ w'.cell? ⟨b8, 0, none⟩ = some (.int .i64 s10) ∧ w'.cell? ⟨b8, 1, none⟩ = some (.bool neg10) ∧ w'.cell? ⟨b8, 2, none⟩ = some (.slice A10 l10.length c10) ∧ w'.cell? ⟨b9, 0, none⟩ = some (.int .i64 s11) ∧ w'.cell? ⟨b9, 1, none⟩ = some (.bool neg11) ∧ w'.cell? ⟨b9, 2, none⟩ = some (.slice A11 l11.length c11)) (first | with_reducible exact ⟨(cell_set6 _ _ _ _ _ _ _ _ (by omega)).trans (keep_cell hbw q1 k1_0), (cell_set6 _ _ _ _ _ _ _ _ (by omega)).trans (keep_cell hbw q1 k1_1), (cell_set6 _ _ _ _ _ _ _ _ (by omega)).trans (keep_cell hbw q1 k1_2), (cell_set6 _ _ _ _ _ _ _ _ (by omega)).trans (keep_cell hbw q1 k1_3), (cell_set6 _ _ _ _ _ _ _ _ (by omega)).trans (keep_cell hbw q1 k1_4), (cell_set6 _ _ _ _ _ _ _ _ (by omega)).trans (keep_cell hbw q1 k1_5), (cell_set6 _ _ _ _ _ _ _ _ (by omega)).trans (keep_cell hbw qb6 kb6_0), (cell_set6 _ _ _ _ _ _ _ _ (by omega)).trans (keep_cell hbw qb6 kb6_1), (cell_set6 _ _ _ _ _ _ _ _ (by omega)).trans (keep_cell hbw qb6 kb6_2), (cell_set6 _ _ _ _ _ _ _ _ (by omega)).trans (keep_cell hbw qb8 kb8_0), (cell_set6 _ _ _ _ _ _ _ _ (by omega)).trans (keep_cell hbw qb8 kb8_1), (cell_set6 _ _ _ _ _ _ _ _ (by omega)).trans (keep_cell hbw qb8 kb8_2), (cell_set6 _ _ _ _ _ _ _ _ (by omega)).trans (keep_cell hbw qb9 kb9_0), (cell_set6 _ _ _ _ _ _ _ _ (by omega)).trans (keep_cell hbw qb9 kb9_1), (cell_set6 _ _ _ _ _ _ _ _ (by omega)).trans (keep_cell hbw qb9 kb9_2)⟩ | with_reducible exact (unhide KEEP) _ (by (repeat (first | with_reducible exact Below.refl _ _ | with_reducible assumption | with_reducible refine Below.drew ?_ | with_reducible refine below_alloc ?_ _)))) (first | (go_at_call_of 52 (Value.agg #[.int .i64 s10, .bool neg10, .slice A10 l10.length c10]); refine ((unhide HR1) s10 neg10 A10 c10 l10 s11 neg11 A11 c11 l11 _ (below_step' hw0 (by (repeat (first | with_reducible exact Below.refl _ _ | with_reducible assumption | with_reducible refine Below.drew ?_ | with_reducible refine below_alloc ?_ _)))) (IntF.below (unhide H10) (by (repeat (first | with_reducible exact Below.refl _ _ | with_reducible assumption | with_reducible refine Below.drew ?_ | with_reducible refine below_alloc ?_ _)))) (IntF.below (unhide H11) (by (repeat (first | with_reducible exact Below.refl _ _ | with_reducible assumption | with_reducible refine Below.drew ?_ | with_reducible refine below_alloc ?_ _))))).mono ?_; rintro e w' ⟨s12, neg12, A12, c12, l12, rfl, hf12, hb12⟩; have hbw := below_step (w := W4) (by (repeat (first | with_reducible exact Below.refl _ _ | with_reducible assumption | with_reducible refine Below.drew ?_ | with_reducible refine below_alloc ?_ _))) hb12; have hsw := hbw.size; obtain ⟨hc, hfz⟩ := bcell hbw) | (go_at_call_of 52 (Value.agg #[.int .i64 s4, .bool neg4, .slice A4 l4.length c4]); refine ((unhide HE) s4 neg4 A4 c4 l4 s11 neg11 A11 c11 l11 _ (below_step' hw0 (by (repeat (first | with_reducible exact Below.refl _ _ | with_reducible assumption | with_reducible refine Below.drew ?_ | with_reducible refine below_alloc ?_ _)))) (IntF.below (unhide H4) (by (repeat (first | with_reducible exact Below.refl _ _ | with_reducible assumption | with_reducible refine Below.drew ?_ | with_reducible refine below_alloc ?_ _)))) (IntF.below (unhide H11) (by (repeat (first | with_reducible exact Below.refl _ _ | with_reducible assumption | with_reducible refine Below.drew ?_ | with_reducible refine below_alloc ?_ _))))).mono ?_; rintro e w' ⟨s13, neg13, A13, c13, l13, rfl, hf13, hb13⟩; have hf12 := IntF.below (IntF.below hf12 (by (repeat (first | with_reducible exact Below.refl _ _ | with_reducible assumption | with_reducible refine Below.drew ?_ | with_reducible refine below_alloc ?_ _)))) hb13; have hbw := below_step (w := W4) (by (repeat (first | with_reducible exact Below.refl _ _ | with_reducible assumption | with_reducible refine Below.drew ?_ | with_reducible refine below_alloc ?_ _))) hb13; have hsw := hbw.size; obtain ⟨hc, hfz⟩ := bcell hbw) | (go_at_call_of 59 (Value.agg #[.int .i64 s6, .bool neg6, .slice A6 l6.length c6]); refine ((unhide HR2) s6 neg6 A6 c6 l6 s13 neg13 A13 c13 l13 _ (below_step' hw0 (by (repeat (first | with_reducible exact Below.refl _ _ | with_reducible assumption | with_reducible refine Below.drew ?_ | with_reducible refine below_alloc ?_ _)))) (IntF.below (unhide H6) (by (repeat (first | with_reducible exact Below.refl _ _ | with_reducible assumption | with_reducible refine Below.drew ?_ | with_reducible refine below_alloc ?_ _)))) (IntF.below hf13 (by (repeat (first | with_reducible exact Below.refl _ _ | with_reducible assumption | with_reducible refine Below.drew ?_ | with_reducible refine below_alloc ?_ _))))).mono ?_; rintro e w' ⟨s14, neg14, A14, c14, l14, rfl, hf14, hb14⟩; have hf12 := IntF.below (IntF.below hf12 (by (repeat (first | with_reducible exact Below.refl _ _ | with_reducible assumption | with_reducible refine Below.drew ?_ | with_reducible refine below_alloc ?_ _)))) hb14; have hf13 := IntF.below (IntF.below hf13 (by (repeat (first | with_reducible exact Below.refl _ _ | with_reducible assumption | with_reducible refine Below.drew ?_ | with_reducible refine below_alloc ?_ _)))) hb14; have hbw := below_step (w := W4) (by (repeat (first | with_reducible exact Below.refl _ _ | with_reducible assumption | with_reducible refine Below.drew ?_ | with_reducible refine below_alloc ?_ _))) hb14; have hsw := hbw.size; obtain ⟨hc, hfz⟩ := bcell hbw))
          have hblk : w'.heap[w.heap.size + 1 + 1]? = some (.cells #[.int .i64 0, .bool false, .slice none 0 0, .int .i64 0, .bool false, .slice none 0 0] 48 (0, 0)) := (hbw.block _ q2).trans NR.out
          have HBLK := Lib.hid hblk
          have hb9 : Below w.heap.size w w' := below_step' hw0 hbw
          clear hblk
          go_wp2_with fail
          exact bodyPost_ret (v := (Value.agg #[.int .i64 s12, .bool neg12, .slice A12 l12.length c12, .int .i64 s14, .bool neg14, .slice A14 l14.length c14])) (by simp [results, Tryd.results37, go_sem, hc, k2_0, k2_1, k2_2, k2_3, k2_4, k2_5, q2]) rfl
            ⟨s12, neg12, A12, c12, l12, s14, neg14, A14, c14, l14, rfl, (hf12).upto HBLK.out (noWord6 _ _ _ _ _ _ _ _ _ _) (set6_grown _ _ _ _ _ _ _ _), (hf14).upto HBLK.out (noWord6 _ _ _ _ _ _ _ _ _ _) (set6_grown _ _ _ _ _ _ _ _), hb9.grown (set6_grown _ _ _ _ _ _ _ _) hb9.size (fun k hk => by injection hk with hk; omega)⟩

end Go.Proofs.YtfbcdfoohpkfeaaDoor
/- The walk through the product of two quotients. -/
namespace Go.Proofs.YtfbcdfoohpkfeaaDoor
open Go.RowKit

set_option maxRecDepth 100000 in
set_option maxHeartbeats 16000000 in
theorem rmul_walk (s1 : Int) (neg1 : Bool) (A1 : Option Addr) (c1 : Nat) (l1 : List Nat) (s2 : Int) (neg2 : Bool) (A2 : Option Addr) (c2 : Nat) (l2 : List Nat) (s3 : Int) (neg3 : Bool) (A3 : Option Addr) (c3 : Nat) (l3 : List Nat) (s4 : Int) (neg4 : Bool) (A4 : Option Addr) (c4 : Nat) (l4 : List Nat) (z1 z2 z3 z4 g h a1 b1 r1 a2 b2 r2 : Int) (w : World) (f1 : IntF w s1 neg1 A1 c1 l1 z1) (f2 : IntF w s2 neg2 A2 c2 l2 z2) (f3 : IntF w s3 neg3 A3 c3 l3 z3) (f4 : IntF w s4 neg4 A4 c4 l4 z4)
    (hg : Op2 w 49 z1 z4 g) (hh : Op2 w 49 z3 z2 h) (ha : Op2 w 52 z1 g a1) (hb : Op2 w 52 z3 h b1) (hr1 : Op2 w 59 a1 b1 r1) (hc : Op2 w 52 z2 h a2) (hd : Op2 w 52 z4 g b2) (hr2 : Op2 w 59 a2 b2 r2) :
    Calls Tryd.prog 39 #[(Value.agg #[.int .i64 s1, .bool neg1, .slice A1 l1.length c1, .int .i64 s2, .bool neg2, .slice A2 l2.length c2]), (Value.agg #[.int .i64 s3, .bool neg3, .slice A3 l3.length c3, .int .i64 s4, .bool neg4, .slice A4 l4.length c4])] w fun e w' => PairR w r1 r2 e w' := by
  have H1 := hide f1
  have H2 := hide f2
  have H3 := hide f3
  have H4 := hide f4
  clear f1 f2 f3 f4
  have HG := hide hg
  have HH := hide hh
  have HA := hide ha
  have HB := hide hb
  have HR1 := hide hr1
  have HC := hide hc
  have HD := hide hd
  have HR2 := hide hr2
  clear hg hh ha hb hr1 hc hd hr2
  go_enter Tryd.func39, Tryd.ntmps39
  go_upto_region 1 with fail
  obtain ⟨n0, n1, n2, hsz, hw0⟩ := three_new w (.cells #[.int .i64 s1, .bool neg1, .slice A1 l1.length c1, .int .i64 s2, .bool neg2, .slice A2 l2.length c2] 48) (.cells #[.int .i64 s3, .bool neg3, .slice A3 l3.length c3, .int .i64 s4, .bool neg4, .slice A4 l4.length c4] 48) (.cells #[.int .i64 0, .bool false, .slice none 0 0, .int .i64 0, .bool false, .slice none 0 0] 48)
  generalize (((w.alloc (.cells #[.int .i64 s1, .bool neg1, .slice A1 l1.length c1, .int .i64 s2, .bool neg2, .slice A2 l2.length c2] 48)).alloc (.cells #[.int .i64 s3, .bool neg3, .slice A3 l3.length c3, .int .i64 s4, .bool neg4, .slice A4 l4.length c4] 48)).alloc (.cells #[.int .i64 0, .bool false, .slice none 0 0, .int .i64 0, .bool false, .slice none 0 0] 48)) = W0 at *
  have k0_0 : W0.cell? ⟨w.heap.size, 0, none⟩ = some (.int .i64 s1) := cells_of n0 0
  have k0_1 : W0.cell? ⟨w.heap.size, 1, none⟩ = some (.bool neg1) := cells_of n0 1
  have k0_2 : W0.cell? ⟨w.heap.size, 2, none⟩ = some (.slice A1 l1.length c1) := cells_of n0 2
  have k0_3 : W0.cell? ⟨w.heap.size, 3, none⟩ = some (.int .i64 s2) := cells_of n0 3
  have k0_4 : W0.cell? ⟨w.heap.size, 4, none⟩ = some (.bool neg2) := cells_of n0 4
  have k0_5 : W0.cell? ⟨w.heap.size, 5, none⟩ = some (.slice A2 l2.length c2) := cells_of n0 5
  have q0 : w.heap.size < W0.heap.size := by omega
  have k1_0 : W0.cell? ⟨w.heap.size + 1, 0, none⟩ = some (.int .i64 s3) := cells_of n1 0
  have k1_1 : W0.cell? ⟨w.heap.size + 1, 1, none⟩ = some (.bool neg3) := cells_of n1 1
  have k1_2 : W0.cell? ⟨w.heap.size + 1, 2, none⟩ = some (.slice A3 l3.length c3) := cells_of n1 2
  have k1_3 : W0.cell? ⟨w.heap.size + 1, 3, none⟩ = some (.int .i64 s4) := cells_of n1 3
  have k1_4 : W0.cell? ⟨w.heap.size + 1, 4, none⟩ = some (.bool neg4) := cells_of n1 4
  have k1_5 : W0.cell? ⟨w.heap.size + 1, 5, none⟩ = some (.slice A4 l4.length c4) := cells_of n1 5
  have q1 : w.heap.size + 1 < W0.heap.size := by omega
  have k2_0 : W0.cell? ⟨w.heap.size + 1 + 1, 0, none⟩ = some (.int .i64 0) := cells_of n2 0
  have k2_1 : W0.cell? ⟨w.heap.size + 1 + 1, 1, none⟩ = some (.bool false) := cells_of n2 1
  have k2_2 : W0.cell? ⟨w.heap.size + 1 + 1, 2, none⟩ = some (.slice none 0 0) := cells_of n2 2
  have k2_3 : W0.cell? ⟨w.heap.size + 1 + 1, 3, none⟩ = some (.int .i64 0) := cells_of n2 3
  have k2_4 : W0.cell? ⟨w.heap.size + 1 + 1, 4, none⟩ = some (.bool false) := cells_of n2 4
  have k2_5 : W0.cell? ⟨w.heap.size + 1 + 1, 5, none⟩ = some (.slice none 0 0) := cells_of n2 5
  have q2 : w.heap.size + 1 + 1 < W0.heap.size := by omega
  have f2_0 := unfrozen_of n2 0
  have f2_1 := unfrozen_of n2 1
  have f2_2 := unfrozen_of n2 2
  have f2_3 := unfrozen_of n2 3
  have f2_4 := unfrozen_of n2 4
  have f2_5 := unfrozen_of n2 5
  have NR := Lib.hid n2
  clear hsz n0 n1 n2
  replace H1 := hide ((unhide H1).below hw0)
  replace H2 := hide ((unhide H2).below hw0)
  replace H3 := hide ((unhide H3).below hw0)
  replace H4 := hide ((unhide H4).below hw0)
  go_upto_region 1 with fail
  go_cut [5, 6] (fun s5_ s6_ wx => ∃ b5 b6 : Nat, s5_ = .pointer (some ⟨b5, 0, none⟩) ∧ s6_ = .pointer (some ⟨b6, 0, none⟩) ∧ BoxI wx b5 g ∧ BoxI wx b6 h ∧ Below W0.heap.size W0 wx ∧ W0.heap.size ≤ b5 ∧ W0.heap.size ≤ b6)
  case first =>
    have KEEP := hide (show ∀ X, Below W0.heap.size W0 X → X.cell? ⟨w.heap.size, 0, none⟩ = some (.int .i64 s1) ∧ X.cell? ⟨w.heap.size, 1, none⟩ = some (.bool neg1) ∧ X.cell? ⟨w.heap.size, 2, none⟩ = some (.slice A1 l1.length c1) ∧ X.cell? ⟨w.heap.size, 3, none⟩ = some (.int .i64 s2) ∧ X.cell? ⟨w.heap.size, 4, none⟩ = some (.bool neg2) ∧ X.cell? ⟨w.heap.size, 5, none⟩ = some (.slice A2 l2.length c2) ∧ X.cell? ⟨w.heap.size + 1, 0, none⟩ = some (.int .i64 s3) ∧ X.cell? ⟨w.heap.size + 1, 1, none⟩ = some (.bool neg3) ∧ X.cell? ⟨w.heap.size + 1, 2, none⟩ = some (.slice A3 l3.length c3) ∧ X.cell? ⟨w.heap.size + 1, 3, none⟩ = some (.int .i64 s4) ∧ X.cell? ⟨w.heap.size + 1, 4, none⟩ = some (.bool neg4) ∧ X.cell? ⟨w.heap.size + 1, 5, none⟩ = some (.slice A4 l4.length c4) from fun X hB => ⟨keep_cell hB q0 k0_0, keep_cell hB q0 k0_1, keep_cell hB q0 k0_2, keep_cell hB q0 k0_3, keep_cell hB q0 k0_4, keep_cell hB q0 k0_5, keep_cell hB q1 k1_0, keep_cell hB q1 k1_1, keep_cell hB q1 k1_2, keep_cell hB q1 k1_3, keep_cell hB q1 k1_4, keep_cell hB q1 k1_5⟩)
    go_region_held3 (fun w' => w'.cell? ⟨w.heap.size, 0, none⟩ = some (.int .i64 s1) ∧ w'.cell? ⟨w.heap.size, 1, none⟩ = some (.bool neg1) ∧ w'.cell? ⟨w.heap.size, 2, none⟩ = some (.slice A1 l1.length c1) ∧ w'.cell? ⟨w.heap.size, 3, none⟩ = some (.int .i64 s2) ∧ w'.cell? ⟨w.heap.size, 4, none⟩ = some (.bool neg2) ∧ w'.cell? ⟨w.heap.size, 5, none⟩ = some (.slice A2 l2.length c2) ∧ w'.cell? ⟨w.heap.size + 1, 0, none⟩ = some (.int .i64 s3) ∧ w'.cell? ⟨w.heap.size + 1, 1, none⟩ = some (.bool neg3) ∧ w'.cell? ⟨w.heap.size + 1, 2, none⟩ = some (.slice A3 l3.length c3) ∧ w'.cell? ⟨w.heap.size + 1, 3, none⟩ = some (.int .i64 s4) ∧ w'.cell? ⟨w.heap.size + 1, 4, none⟩ = some (.bool neg4) ∧ w'.cell? ⟨w.heap.size + 1, 5, none⟩ = some (.slice A4 l4.length c4)) (exact (unhide KEEP) _ (by (repeat (first | with_reducible exact Below.refl _ _ | with_reducible assumption | with_reducible refine Below.drew ?_ | with_reducible refine below_alloc ?_ _ | (with_reducible refine below_set ?_ ?_ _ _; rotate_left; (first | omega | (simp <;> omega))))))) (first | (go_at_call_of 49 (Value.agg #[.int .i64 s1, .bool neg1, .slice A1 l1.length c1]); refine ((unhide HG) s1 neg1 A1 c1 l1 s4 neg4 A4 c4 l4 _ (below_step' hw0 (by (repeat (first | with_reducible exact Below.refl _ _ | with_reducible assumption | with_reducible refine Below.drew ?_ | with_reducible refine below_alloc ?_ _)))) (IntF.below (unhide H1) (by (repeat (first | with_reducible exact Below.refl _ _ | with_reducible assumption | with_reducible refine Below.drew ?_ | with_reducible refine below_alloc ?_ _)))) (IntF.below (unhide H4) (by (repeat (first | with_reducible exact Below.refl _ _ | with_reducible assumption | with_reducible refine Below.drew ?_ | with_reducible refine below_alloc ?_ _))))).mono ?_; rintro e w' ⟨s5, neg5, A5, c5, l5, rfl, hf5, hb5⟩; have hbw := below_step (w := W0) (by (repeat (first | with_reducible exact Below.refl _ _ | with_reducible assumption | with_reducible refine Below.drew ?_ | with_reducible refine below_alloc ?_ _))) hb5; have hsw := hbw.size; obtain ⟨hc, hfz⟩ := bcell hbw; (try ((first | have u5a : Fr W0 w' _ := Fr.below (Fr.new (by (repeat (first | with_reducible exact Below.refl _ _ | with_reducible assumption | with_reducible refine Below.drew ?_ | with_reducible refine below_alloc ?_ _))) rfl) hb5 | have u5a : Fr W0 w' _ := Fr.below (Fr.drew (Fr.new (by (repeat (first | with_reducible exact Below.refl _ _ | with_reducible assumption | with_reducible refine Below.drew ?_ | with_reducible refine below_alloc ?_ _))) rfl)) hb5); (try simp only [World.size_alloc] at u5a); (try dsimp only [World.drew] at u5a); (try simp only [World.size_alloc] at u5a); obtain ⟨⟨u5a1, u5a2, u5a3⟩, ⟨u5a4, u5a5, u5a6⟩, ⟨u5a7, u5a8, u5a9⟩, ⟨u5a10, u5a11, u5a12⟩, u5a13, u5a14⟩ := Fr.facts u5a)); (try ((first | have u5b : Fr W0 w' _ := Fr.below (Fr.alloc (Fr.new (by (repeat (first | with_reducible exact Below.refl _ _ | with_reducible assumption | with_reducible refine Below.drew ?_ | with_reducible refine below_alloc ?_ _))) rfl)) hb5 | have u5b : Fr W0 w' _ := Fr.below (Fr.drew (Fr.alloc (Fr.new (by (repeat (first | with_reducible exact Below.refl _ _ | with_reducible assumption | with_reducible refine Below.drew ?_ | with_reducible refine below_alloc ?_ _))) rfl))) hb5); (try simp only [World.size_alloc] at u5b); (try dsimp only [World.drew] at u5b); (try simp only [World.size_alloc] at u5b); obtain ⟨⟨u5b1, u5b2, u5b3⟩, ⟨u5b4, u5b5, u5b6⟩, ⟨u5b7, u5b8, u5b9⟩, ⟨u5b10, u5b11, u5b12⟩, u5b13, u5b14⟩ := Fr.facts u5b))) | (go_at_call_of 49 (Value.agg #[.int .i64 s3, .bool neg3, .slice A3 l3.length c3]); refine ((unhide HH) s3 neg3 A3 c3 l3 s2 neg2 A2 c2 l2 _ (below_step' hw0 (by (repeat (first | with_reducible exact Below.refl _ _ | with_reducible assumption | with_reducible refine Below.drew ?_ | with_reducible refine below_alloc ?_ _)))) (IntF.below (unhide H3) (by (repeat (first | with_reducible exact Below.refl _ _ | with_reducible assumption | with_reducible refine Below.drew ?_ | with_reducible refine below_alloc ?_ _)))) (IntF.below (unhide H2) (by (repeat (first | with_reducible exact Below.refl _ _ | with_reducible assumption | with_reducible refine Below.drew ?_ | with_reducible refine below_alloc ?_ _))))).mono ?_; rintro e w' ⟨s6, neg6, A6, c6, l6, rfl, hf6, hb6⟩; have hf5 := IntF.below (IntF.below hf5 (by (repeat (first | with_reducible exact Below.refl _ _ | with_reducible assumption | with_reducible refine Below.drew ?_ | with_reducible refine below_alloc ?_ _)))) hb6; have hbw := below_step (w := W0) (by (repeat (first | with_reducible exact Below.refl _ _ | with_reducible assumption | with_reducible refine Below.drew ?_ | with_reducible refine below_alloc ?_ _))) hb6; have hsw := hbw.size; obtain ⟨hc, hfz⟩ := bcell hbw; (try ((first | have u6a : Fr W0 w' _ := Fr.below (Fr.new (by (repeat (first | with_reducible exact Below.refl _ _ | with_reducible assumption | with_reducible refine Below.drew ?_ | with_reducible refine below_alloc ?_ _))) rfl) hb6 | have u6a : Fr W0 w' _ := Fr.below (Fr.drew (Fr.new (by (repeat (first | with_reducible exact Below.refl _ _ | with_reducible assumption | with_reducible refine Below.drew ?_ | with_reducible refine below_alloc ?_ _))) rfl)) hb6); (try simp only [World.size_alloc] at u6a); (try dsimp only [World.drew] at u6a); (try simp only [World.size_alloc] at u6a); obtain ⟨⟨u6a1, u6a2, u6a3⟩, ⟨u6a4, u6a5, u6a6⟩, ⟨u6a7, u6a8, u6a9⟩, ⟨u6a10, u6a11, u6a12⟩, u6a13, u6a14⟩ := Fr.facts u6a)); (try ((first | have u6b : Fr W0 w' _ := Fr.below (Fr.alloc (Fr.new (by (repeat (first | with_reducible exact Below.refl _ _ | with_reducible assumption | with_reducible refine Below.drew ?_ | with_reducible refine below_alloc ?_ _))) rfl)) hb6 | have u6b : Fr W0 w' _ := Fr.below (Fr.drew (Fr.alloc (Fr.new (by (repeat (first | with_reducible exact Below.refl _ _ | with_reducible assumption | with_reducible refine Below.drew ?_ | with_reducible refine below_alloc ?_ _))) rfl))) hb6); (try simp only [World.size_alloc] at u6b); (try dsimp only [World.drew] at u6b); (try simp only [World.size_alloc] at u6b); obtain ⟨⟨u6b1, u6b2, u6b3⟩, ⟨u6b4, u6b5, u6b6⟩, ⟨u6b7, u6b8, u6b9⟩, ⟨u6b10, u6b11, u6b12⟩, u6b13, u6b14⟩ := Fr.facts u6b)); (try ((first | have u6c : Fr W0 w' _ := Fr.below u5a hb6 | have u6c : Fr W0 w' _ := Fr.below (Fr.alloc u5a) hb6 | have u6c : Fr W0 w' _ := Fr.below (Fr.alloc (Fr.alloc u5a)) hb6); (try simp only [World.size_alloc] at u6c); (try dsimp only [World.drew] at u6c); (try simp only [World.size_alloc] at u6c); obtain ⟨⟨u6c1, u6c2, u6c3⟩, ⟨u6c4, u6c5, u6c6⟩, ⟨u6c7, u6c8, u6c9⟩, ⟨u6c10, u6c11, u6c12⟩, u6c13, u6c14⟩ := Fr.facts u6c)); (try ((first | have u6d : Fr W0 w' _ := Fr.below u5b hb6 | have u6d : Fr W0 w' _ := Fr.below (Fr.alloc u5b) hb6 | have u6d : Fr W0 w' _ := Fr.below (Fr.alloc (Fr.alloc u5b)) hb6); (try simp only [World.size_alloc] at u6d); (try dsimp only [World.drew] at u6d); (try simp only [World.size_alloc] at u6d); obtain ⟨⟨u6d1, u6d2, u6d3⟩, ⟨u6d4, u6d5, u6d6⟩, ⟨u6d7, u6d8, u6d9⟩, ⟨u6d10, u6d11, u6d12⟩, u6d13, u6d14⟩ := Fr.facts u6d))))
    all_goals (go_wp2_with fail; go_meet; refine ⟨_, _, rfl, rfl, ?_⟩; first | with_reducible exact put_two ⟨by assumption, by assumption, by first | assumption | omega⟩ hf5 hf6 hbw | with_reducible exact put_two (Fr2.newR (by assumption) rfl) hf5.alloc hf6.alloc (below_alloc hbw _) | with_reducible exact put_two (Fr2.newL (by assumption) rfl) hf5.alloc hf6.alloc (below_alloc hbw _) | with_reducible exact put_nn hf5 hf6 hbw rfl rfl | with_reducible exact put_mm hf5 hf6 hbw rfl rfl | with_reducible exact put_ns (by assumption) hf5 hf6 hbw rfl)
  case rest =>
    revert hcut
    generalize wc = W1
    intro hcut
    obtain ⟨b5, b6, rfl, rfl, B5, B6, hbx, ob5, ob6⟩ := hcut
    obtain ⟨hc, hfz⟩ := bcell hbx
    replace k0_0 := (hc _ _ q0).trans k0_0
    replace k0_1 := (hc _ _ q0).trans k0_1
    replace k0_2 := (hc _ _ q0).trans k0_2
    replace k0_3 := (hc _ _ q0).trans k0_3
    replace k0_4 := (hc _ _ q0).trans k0_4
    replace k0_5 := (hc _ _ q0).trans k0_5
    replace q0 := Nat.lt_of_lt_of_le q0 hbx.size
    replace k1_0 := (hc _ _ q1).trans k1_0
    replace k1_1 := (hc _ _ q1).trans k1_1
    replace k1_2 := (hc _ _ q1).trans k1_2
    replace k1_3 := (hc _ _ q1).trans k1_3
    replace k1_4 := (hc _ _ q1).trans k1_4
    replace k1_5 := (hc _ _ q1).trans k1_5
    replace q1 := Nat.lt_of_lt_of_le q1 hbx.size
    replace ob5 : w.heap.size + 1 + 1 < b5 := Nat.lt_of_lt_of_le q2 ob5
    replace ob6 : w.heap.size + 1 + 1 < b6 := Nat.lt_of_lt_of_le q2 ob6
    replace k2_0 := (hc _ _ q2).trans k2_0
    replace f2_0 := (hfz _ _ q2).trans f2_0
    replace k2_1 := (hc _ _ q2).trans k2_1
    replace f2_1 := (hfz _ _ q2).trans f2_1
    replace k2_2 := (hc _ _ q2).trans k2_2
    replace f2_2 := (hfz _ _ q2).trans f2_2
    replace k2_3 := (hc _ _ q2).trans k2_3
    replace f2_3 := (hfz _ _ q2).trans f2_3
    replace k2_4 := (hc _ _ q2).trans k2_4
    replace f2_4 := (hfz _ _ q2).trans f2_4
    replace k2_5 := (hc _ _ q2).trans k2_5
    replace f2_5 := (hfz _ _ q2).trans f2_5
    replace NR := Lib.hid ((hbx.block _ q2).trans NR.out)
    replace q2 := Nat.lt_of_lt_of_le q2 hbx.size
    replace hw0 := below_step' hw0 hbx
    replace H1 := hide ((unhide H1).below hbx)
    replace H2 := hide ((unhide H2).below hbx)
    replace H3 := hide ((unhide H3).below hbx)
    replace H4 := hide ((unhide H4).below hbx)
    obtain ⟨s5, neg5, A5, c5, l5, n5, H5⟩ := B5
    have kb5_0 : W1.cell? ⟨b5, 0, none⟩ = some (.int .i64 s5) := cells_of n5 0
    have kb5_1 : W1.cell? ⟨b5, 1, none⟩ = some (.bool neg5) := cells_of n5 1
    have kb5_2 : W1.cell? ⟨b5, 2, none⟩ = some (.slice A5 l5.length c5) := cells_of n5 2
    have qb5 := lt_of_block n5
    replace H5 := hide H5
    clear n5
    obtain ⟨s6, neg6, A6, c6, l6, n6, H6⟩ := B6
    have kb6_0 : W1.cell? ⟨b6, 0, none⟩ = some (.int .i64 s6) := cells_of n6 0
    have kb6_1 : W1.cell? ⟨b6, 1, none⟩ = some (.bool neg6) := cells_of n6 1
    have kb6_2 : W1.cell? ⟨b6, 2, none⟩ = some (.slice A6 l6.length c6) := cells_of n6 2
    have qb6 := lt_of_block n6
    replace H6 := hide H6
    clear n6
    clear hbx hc hfz
    go_upto_region 2 with fail
    have KEEP := hide (show ∀ X, Below W1.heap.size W1 X → X.cell? ⟨w.heap.size, 0, none⟩ = some (.int .i64 s1) ∧ X.cell? ⟨w.heap.size, 1, none⟩ = some (.bool neg1) ∧ X.cell? ⟨w.heap.size, 2, none⟩ = some (.slice A1 l1.length c1) ∧ X.cell? ⟨w.heap.size, 3, none⟩ = some (.int .i64 s2) ∧ X.cell? ⟨w.heap.size, 4, none⟩ = some (.bool neg2) ∧ X.cell? ⟨w.heap.size, 5, none⟩ = some (.slice A2 l2.length c2) ∧ X.cell? ⟨w.heap.size + 1, 0, none⟩ = some (.int .i64 s3) ∧ X.cell? ⟨w.heap.size + 1, 1, none⟩ = some (.bool neg3) ∧ X.cell? ⟨w.heap.size + 1, 2, none⟩ = some (.slice A3 l3.length c3) ∧ X.cell? ⟨w.heap.size + 1, 3, none⟩ = some (.int .i64 s4) ∧ X.cell? ⟨w.heap.size + 1, 4, none⟩ = some (.bool neg4) ∧ X.cell? ⟨w.heap.size + 1, 5, none⟩ = some (.slice A4 l4.length c4) ∧ X.cell? ⟨b5, 0, none⟩ = some (.int .i64 s5) ∧ X.cell? ⟨b5, 1, none⟩ = some (.bool neg5) ∧ X.cell? ⟨b5, 2, none⟩ = some (.slice A5 l5.length c5) ∧ X.cell? ⟨b6, 0, none⟩ = some (.int .i64 s6) ∧ X.cell? ⟨b6, 1, none⟩ = some (.bool neg6) ∧ X.cell? ⟨b6, 2, none⟩ = some (.slice A6 l6.length c6) from fun X hB => ⟨keep_cell hB q0 k0_0, keep_cell hB q0 k0_1, keep_cell hB q0 k0_2, keep_cell hB q0 k0_3, keep_cell hB q0 k0_4, keep_cell hB q0 k0_5, keep_cell hB q1 k1_0, keep_cell hB q1 k1_1, keep_cell hB q1 k1_2, keep_cell hB q1 k1_3, keep_cell hB q1 k1_4, keep_cell hB q1 k1_5, keep_cell hB qb5 kb5_0, keep_cell hB qb5 kb5_1, keep_cell hB qb5 kb5_2, keep_cell hB qb6 kb6_0, keep_cell hB qb6 kb6_1, keep_cell hB qb6 kb6_2⟩)
    go_region_held3 (fun w' => w'.cell? ⟨w.heap.size, 0, none⟩ = some (.int .i64 s1) ∧ w'.cell? ⟨w.heap.size, 1, none⟩ = some (.bool neg1) ∧ w'.cell? ⟨w.heap.size, 2, none⟩ = some (.slice A1 l1.length c1) ∧ w'.cell? ⟨w.heap.size, 3, none⟩ = some (.int .i64 s2) ∧ w'.cell? ⟨w.heap.size, 4, none⟩ = some (.bool neg2) ∧ w'.cell? ⟨w.heap.size, 5, none⟩ = some (.slice A2 l2.length c2) ∧ w'.cell? ⟨w.heap.size + 1, 0, none⟩ = some (.int .i64 s3) ∧ w'.cell? ⟨w.heap.size + 1, 1, none⟩ = some (.bool neg3) ∧ w'.cell? ⟨w.heap.size + 1, 2, none⟩ = some (.slice A3 l3.length c3) ∧ w'.cell? ⟨w.heap.size + 1, 3, none⟩ = some (.int .i64 s4) ∧ w'.cell? ⟨w.heap.size + 1, 4, none⟩ = some (.bool neg4) ∧ w'.cell? ⟨w.heap.size + 1, 5, none⟩ = some (.slice A4 l4.length c4) ∧ w'.cell? ⟨b5, 0, none⟩ = some (.int .i64 s5) ∧ w'.cell? ⟨b5, 1, none⟩ = some (.bool neg5) ∧ w'.cell? ⟨b5, 2, none⟩ = some (.slice A5 l5.length c5) ∧ w'.cell? ⟨b6, 0, none⟩ = some (.int .i64 s6) ∧ w'.cell? ⟨b6, 1, none⟩ = some (.bool neg6) ∧ w'.cell? ⟨b6, 2, none⟩ = some (.slice A6 l6.length c6)) (first | with_reducible exact ⟨(cell_set6 _ _ _ _ _ _ _ _ (by omega)).trans (keep_cell hbw q0 k0_0), (cell_set6 _ _ _ _ _ _ _ _ (by omega)).trans (keep_cell hbw q0 k0_1), (cell_set6 _ _ _ _ _ _ _ _ (by omega)).trans (keep_cell hbw q0 k0_2), (cell_set6 _ _ _ _ _ _ _ _ (by omega)).trans (keep_cell hbw q0 k0_3), (cell_set6 _ _ _ _ _ _ _ _ (by omega)).trans (keep_cell hbw q0 k0_4), (cell_set6 _ _ _ _ _ _ _ _ (by omega)).trans (keep_cell hbw q0 k0_5), (cell_set6 _ _ _ _ _ _ _ _ (by omega)).trans (keep_cell hbw q1 k1_0), (cell_set6 _ _ _ _ _ _ _ _ (by omega)).trans (keep_cell hbw q1 k1_1), (cell_set6 _ _ _ _ _ _ _ _ (by omega)).trans (keep_cell hbw q1 k1_2), (cell_set6 _ _ _ _ _ _ _ _ (by omega)).trans (keep_cell hbw q1 k1_3), (cell_set6 _ _ _ _ _ _ _ _ (by omega)).trans (keep_cell hbw q1 k1_4), (cell_set6 _ _ _ _ _ _ _ _ (by omega)).trans (keep_cell hbw q1 k1_5), (cell_set6 _ _ _ _ _ _ _ _ (by omega)).trans (keep_cell hbw qb5 kb5_0), (cell_set6 _ _ _ _ _ _ _ _ (by omega)).trans (keep_cell hbw qb5 kb5_1), (cell_set6 _ _ _ _ _ _ _ _ (by omega)).trans (keep_cell hbw qb5 kb5_2), (cell_set6 _ _ _ _ _ _ _ _ (by omega)).trans (keep_cell hbw qb6 kb6_0), (cell_set6 _ _ _ _ _ _ _ _ (by omega)).trans (keep_cell hbw qb6 kb6_1), (cell_set6 _ _ _ _ _ _ _ _ (by omega)).trans (keep_cell hbw qb6 kb6_2)⟩ | with_reducible exact (unhide KEEP) _ (by (repeat (first | with_reducible exact Below.refl _ _ | with_reducible assumption | with_reducible refine Below.drew ?_ | with_reducible refine below_alloc ?_ _)))) (first | (go_at_call_of 52 (Value.agg #[.int .i64 s1, .bool neg1, .slice A1 l1.length c1]); refine ((unhide HA) s1 neg1 A1 c1 l1 s5 neg5 A5 c5 l5 _ (below_step' hw0 (by (repeat (first | with_reducible exact Below.refl _ _ | with_reducible assumption | with_reducible refine Below.drew ?_ | with_reducible refine below_alloc ?_ _)))) (IntF.below (unhide H1) (by (repeat (first | with_reducible exact Below.refl _ _ | with_reducible assumption | with_reducible refine Below.drew ?_ | with_reducible refine below_alloc ?_ _)))) (IntF.below (unhide H5) (by (repeat (first | with_reducible exact Below.refl _ _ | with_reducible assumption | with_reducible refine Below.drew ?_ | with_reducible refine below_alloc ?_ _))))).mono ?_; rintro e w' ⟨s7, neg7, A7, c7, l7, rfl, hf7, hb7⟩; have hbw := below_step (w := W1) (by (repeat (first | with_reducible exact Below.refl _ _ | with_reducible assumption | with_reducible refine Below.drew ?_ | with_reducible refine below_alloc ?_ _))) hb7; have hsw := hbw.size; obtain ⟨hc, hfz⟩ := bcell hbw) | (go_at_call_of 52 (Value.agg #[.int .i64 s3, .bool neg3, .slice A3 l3.length c3]); refine ((unhide HB) s3 neg3 A3 c3 l3 s6 neg6 A6 c6 l6 _ (below_step' hw0 (by (repeat (first | with_reducible exact Below.refl _ _ | with_reducible assumption | with_reducible refine Below.drew ?_ | with_reducible refine below_alloc ?_ _)))) (IntF.below (unhide H3) (by (repeat (first | with_reducible exact Below.refl _ _ | with_reducible assumption | with_reducible refine Below.drew ?_ | with_reducible refine below_alloc ?_ _)))) (IntF.below (unhide H6) (by (repeat (first | with_reducible exact Below.refl _ _ | with_reducible assumption | with_reducible refine Below.drew ?_ | with_reducible refine below_alloc ?_ _))))).mono ?_; rintro e w' ⟨s8, neg8, A8, c8, l8, rfl, hf8, hb8⟩; have hf7 := IntF.below (IntF.below hf7 (by (repeat (first | with_reducible exact Below.refl _ _ | with_reducible assumption | with_reducible refine Below.drew ?_ | with_reducible refine below_alloc ?_ _)))) hb8; have hbw := below_step (w := W1) (by (repeat (first | with_reducible exact Below.refl _ _ | with_reducible assumption | with_reducible refine Below.drew ?_ | with_reducible refine below_alloc ?_ _))) hb8; have hsw := hbw.size; obtain ⟨hc, hfz⟩ := bcell hbw) | (go_at_call_of 59 (Value.agg #[.int .i64 s7, .bool neg7, .slice A7 l7.length c7]); refine ((unhide HR1) s7 neg7 A7 c7 l7 s8 neg8 A8 c8 l8 _ (below_step' hw0 (by (repeat (first | with_reducible exact Below.refl _ _ | with_reducible assumption | with_reducible refine Below.drew ?_ | with_reducible refine below_alloc ?_ _)))) (IntF.below hf7 (by (repeat (first | with_reducible exact Below.refl _ _ | with_reducible assumption | with_reducible refine Below.drew ?_ | with_reducible refine below_alloc ?_ _)))) (IntF.below hf8 (by (repeat (first | with_reducible exact Below.refl _ _ | with_reducible assumption | with_reducible refine Below.drew ?_ | with_reducible refine below_alloc ?_ _))))).mono ?_; rintro e w' ⟨s9, neg9, A9, c9, l9, rfl, hf9, hb9⟩; have hf7 := IntF.below (IntF.below hf7 (by (repeat (first | with_reducible exact Below.refl _ _ | with_reducible assumption | with_reducible refine Below.drew ?_ | with_reducible refine below_alloc ?_ _)))) hb9; have hf8 := IntF.below (IntF.below hf8 (by (repeat (first | with_reducible exact Below.refl _ _ | with_reducible assumption | with_reducible refine Below.drew ?_ | with_reducible refine below_alloc ?_ _)))) hb9; have hbw := below_step (w := W1) (by (repeat (first | with_reducible exact Below.refl _ _ | with_reducible assumption | with_reducible refine Below.drew ?_ | with_reducible refine below_alloc ?_ _))) hb9; have hsw := hbw.size; obtain ⟨hc, hfz⟩ := bcell hbw) | (go_at_call_of 52 (Value.agg #[.int .i64 s2, .bool neg2, .slice A2 l2.length c2]); refine ((unhide HC) s2 neg2 A2 c2 l2 s6 neg6 A6 c6 l6 _ (below_step' hw0 (by (repeat (first | with_reducible exact Below.refl _ _ | with_reducible assumption | with_reducible refine Below.drew ?_ | with_reducible refine below_alloc ?_ _)))) (IntF.below (unhide H2) (by (repeat (first | with_reducible exact Below.refl _ _ | with_reducible assumption | with_reducible refine Below.drew ?_ | with_reducible refine below_alloc ?_ _)))) (IntF.below (unhide H6) (by (repeat (first | with_reducible exact Below.refl _ _ | with_reducible assumption | with_reducible refine Below.drew ?_ | with_reducible refine below_alloc ?_ _))))).mono ?_; rintro e w' ⟨s10, neg10, A10, c10, l10, rfl, hf10, hb10⟩; have hf7 := IntF.below (IntF.below hf7 (by (repeat (first | with_reducible exact Below.refl _ _ | with_reducible assumption | with_reducible refine Below.drew ?_ | with_reducible refine below_alloc ?_ _)))) hb10; have hf8 := IntF.below (IntF.below hf8 (by (repeat (first | with_reducible exact Below.refl _ _ | with_reducible assumption | with_reducible refine Below.drew ?_ | with_reducible refine below_alloc ?_ _)))) hb10; have hf9 := IntF.below (IntF.below hf9 (by (repeat (first | with_reducible exact Below.refl _ _ | with_reducible assumption | with_reducible refine Below.drew ?_ | with_reducible refine below_alloc ?_ _)))) hb10; have hbw := below_step (w := W1) (by (repeat (first | with_reducible exact Below.refl _ _ | with_reducible assumption | with_reducible refine Below.drew ?_ | with_reducible refine below_alloc ?_ _))) hb10; have hsw := hbw.size; obtain ⟨hc, hfz⟩ := bcell hbw) | (go_at_call_of 52 (Value.agg #[.int .i64 s4, .bool neg4, .slice A4 l4.length c4]); refine ((unhide HD) s4 neg4 A4 c4 l4 s5 neg5 A5 c5 l5 _ (below_step' hw0 (by (repeat (first | with_reducible exact Below.refl _ _ | with_reducible assumption | with_reducible refine Below.drew ?_ | with_reducible refine below_alloc ?_ _)))) (IntF.below (unhide H4) (by (repeat (first | with_reducible exact Below.refl _ _ | with_reducible assumption | with_reducible refine Below.drew ?_ | with_reducible refine below_alloc ?_ _)))) (IntF.below (unhide H5) (by (repeat (first | with_reducible exact Below.refl _ _ | with_reducible assumption | with_reducible refine Below.drew ?_ | with_reducible refine below_alloc ?_ _))))).mono ?_; rintro e w' ⟨s11, neg11, A11, c11, l11, rfl, hf11, hb11⟩; have hf7 := IntF.below (IntF.below hf7 (by (repeat (first | with_reducible exact Below.refl _ _ | with_reducible assumption | with_reducible refine Below.drew ?_ | with_reducible refine below_alloc ?_ _)))) hb11; have hf8 := IntF.below (IntF.below hf8 (by (repeat (first | with_reducible exact Below.refl _ _ | with_reducible assumption | with_reducible refine Below.drew ?_ | with_reducible refine below_alloc ?_ _)))) hb11; have hf9 := IntF.below (IntF.below hf9 (by (repeat (first | with_reducible exact Below.refl _ _ | with_reducible assumption | with_reducible refine Below.drew ?_ | with_reducible refine below_alloc ?_ _)))) hb11; have hf10 := IntF.below (IntF.below hf10 (by (repeat (first | with_reducible exact Below.refl _ _ | with_reducible assumption | with_reducible refine Below.drew ?_ | with_reducible refine below_alloc ?_ _)))) hb11; have hbw := below_step (w := W1) (by (repeat (first | with_reducible exact Below.refl _ _ | with_reducible assumption | with_reducible refine Below.drew ?_ | with_reducible refine below_alloc ?_ _))) hb11; have hsw := hbw.size; obtain ⟨hc, hfz⟩ := bcell hbw) | (go_at_call_of 59 (Value.agg #[.int .i64 s10, .bool neg10, .slice A10 l10.length c10]); refine ((unhide HR2) s10 neg10 A10 c10 l10 s11 neg11 A11 c11 l11 _ (below_step' hw0 (by (repeat (first | with_reducible exact Below.refl _ _ | with_reducible assumption | with_reducible refine Below.drew ?_ | with_reducible refine below_alloc ?_ _)))) (IntF.below hf10 (by (repeat (first | with_reducible exact Below.refl _ _ | with_reducible assumption | with_reducible refine Below.drew ?_ | with_reducible refine below_alloc ?_ _)))) (IntF.below hf11 (by (repeat (first | with_reducible exact Below.refl _ _ | with_reducible assumption | with_reducible refine Below.drew ?_ | with_reducible refine below_alloc ?_ _))))).mono ?_; rintro e w' ⟨s12, neg12, A12, c12, l12, rfl, hf12, hb12⟩; have hf7 := IntF.below (IntF.below hf7 (by (repeat (first | with_reducible exact Below.refl _ _ | with_reducible assumption | with_reducible refine Below.drew ?_ | with_reducible refine below_alloc ?_ _)))) hb12; have hf8 := IntF.below (IntF.below hf8 (by (repeat (first | with_reducible exact Below.refl _ _ | with_reducible assumption | with_reducible refine Below.drew ?_ | with_reducible refine below_alloc ?_ _)))) hb12; have hf9 := IntF.below (IntF.below hf9 (by (repeat (first | with_reducible exact Below.refl _ _ | with_reducible assumption | with_reducible refine Below.drew ?_ | with_reducible refine below_alloc ?_ _)))) hb12; have hf10 := IntF.below (IntF.below hf10 (by (repeat (first | with_reducible exact Below.refl _ _ | with_reducible assumption | with_reducible refine Below.drew ?_ | with_reducible refine below_alloc ?_ _)))) hb12; have hf11 := IntF.below (IntF.below hf11 (by (repeat (first | with_reducible exact Below.refl _ _ | with_reducible assumption | with_reducible refine Below.drew ?_ | with_reducible refine below_alloc ?_ _)))) hb12; have hbw := below_step (w := W1) (by (repeat (first | with_reducible exact Below.refl _ _ | with_reducible assumption | with_reducible refine Below.drew ?_ | with_reducible refine below_alloc ?_ _))) hb12; have hsw := hbw.size; obtain ⟨hc, hfz⟩ := bcell hbw))
    have hblk : w'.heap[w.heap.size + 1 + 1]? = some (.cells #[.int .i64 0, .bool false, .slice none 0 0, .int .i64 0, .bool false, .slice none 0 0] 48 (0, 0)) := (hbw.block _ q2).trans NR.out
    have HBLK := Lib.hid hblk
    have hb9 : Below w.heap.size w w' := below_step' hw0 hbw
    clear hblk
    go_wp2_with fail
    exact bodyPost_ret (v := (Value.agg #[.int .i64 s9, .bool neg9, .slice A9 l9.length c9, .int .i64 s12, .bool neg12, .slice A12 l12.length c12])) (by simp [results, Tryd.results39, go_sem, hc, k2_0, k2_1, k2_2, k2_3, k2_4, k2_5, q2]) rfl
      ⟨s9, neg9, A9, c9, l9, s12, neg12, A12, c12, l12, rfl, (hf9).upto HBLK.out (noWord6 _ _ _ _ _ _ _ _ _ _) (set6_grown _ _ _ _ _ _ _ _), (hf12).upto HBLK.out (noWord6 _ _ _ _ _ _ _ _ _ _) (set6_grown _ _ _ _ _ _ _ _), hb9.grown (set6_grown _ _ _ _ _ _ _ _) hb9.size (fun k hk => by injection hk with hk; omega)⟩

end Go.Proofs.YtfbcdfoohpkfeaaDoor
/- The opposite of a quotient. -/
namespace Go.Proofs.YtfbcdfoohpkfeaaDoor
open Go.RowKit

set_option maxRecDepth 100000 in
set_option maxHeartbeats 8000000 in
theorem rneg_any (s1 : Int) (neg1 : Bool) (A1 : Option Addr) (c1 : Nat) (l1 : List Nat) (z1 : Int) (s2 : Int) (neg2 : Bool) (A2 : Option Addr) (c2 : Nat) (l2 : List Nat) (z2 : Int) (w : World) (h1 : IntF w s1 neg1 A1 c1 l1 z1) (h2 : IntF w s2 neg2 A2 c2 l2 z2) :
    Calls Tryd.prog 69 #[(Value.agg #[.int .i64 s1, .bool neg1, .slice A1 l1.length c1, .int .i64 s2, .bool neg2, .slice A2 l2.length c2])] w fun e w' => PairR w (-z1) z2 e w' := by
  have H1 := hide h1
  have H2 := hide h2
  clear h1 h2
  go_enter Tryd.func69, Tryd.ntmps69
  go_wp2_with fail
  obtain ⟨n0, n1, hsz, hw0⟩ := two_new w (.cells #[.int .i64 s1, .bool neg1, .slice A1 l1.length c1, .int .i64 s2, .bool neg2, .slice A2 l2.length c2] 48) (.cells #[.int .i64 0, .bool false, .slice none 0 0, .int .i64 0, .bool false, .slice none 0 0] 48)
  generalize ((w.alloc (.cells #[.int .i64 s1, .bool neg1, .slice A1 l1.length c1, .int .i64 s2, .bool neg2, .slice A2 l2.length c2] 48)).alloc (.cells #[.int .i64 0, .bool false, .slice none 0 0, .int .i64 0, .bool false, .slice none 0 0] 48)) = W0 at *
  have k0_0 : W0.cell? ⟨w.heap.size, 0, none⟩ = some (.int .i64 s1) := cells_of n0 0
  have k0_1 : W0.cell? ⟨w.heap.size, 1, none⟩ = some (.bool neg1) := cells_of n0 1
  have k0_2 : W0.cell? ⟨w.heap.size, 2, none⟩ = some (.slice A1 l1.length c1) := cells_of n0 2
  have k0_3 : W0.cell? ⟨w.heap.size, 3, none⟩ = some (.int .i64 s2) := cells_of n0 3
  have k0_4 : W0.cell? ⟨w.heap.size, 4, none⟩ = some (.bool neg2) := cells_of n0 4
  have k0_5 : W0.cell? ⟨w.heap.size, 5, none⟩ = some (.slice A2 l2.length c2) := cells_of n0 5
  have q0 : w.heap.size < W0.heap.size := by omega
  have k1_0 : W0.cell? ⟨w.heap.size + 1, 0, none⟩ = some (.int .i64 0) := cells_of n1 0
  have k1_1 : W0.cell? ⟨w.heap.size + 1, 1, none⟩ = some (.bool false) := cells_of n1 1
  have k1_2 : W0.cell? ⟨w.heap.size + 1, 2, none⟩ = some (.slice none 0 0) := cells_of n1 2
  have k1_3 : W0.cell? ⟨w.heap.size + 1, 3, none⟩ = some (.int .i64 0) := cells_of n1 3
  have k1_4 : W0.cell? ⟨w.heap.size + 1, 4, none⟩ = some (.bool false) := cells_of n1 4
  have k1_5 : W0.cell? ⟨w.heap.size + 1, 5, none⟩ = some (.slice none 0 0) := cells_of n1 5
  have q1 : w.heap.size + 1 < W0.heap.size := by omega
  have f1_0 := unfrozen_of n1 0
  have f1_1 := unfrozen_of n1 1
  have f1_2 := unfrozen_of n1 2
  have f1_3 := unfrozen_of n1 3
  have f1_4 := unfrozen_of n1 4
  have f1_5 := unfrozen_of n1 5
  have NR := Lib.hid n1
  clear n0 n1
  go_region_held3 (fun w' => w'.cell? ⟨w.heap.size, 0, none⟩ = some (.int .i64 s1) ∧ w'.cell? ⟨w.heap.size, 1, none⟩ = some (.bool neg1) ∧ w'.cell? ⟨w.heap.size, 2, none⟩ = some (.slice A1 l1.length c1) ∧ w'.cell? ⟨w.heap.size, 3, none⟩ = some (.int .i64 s2) ∧ w'.cell? ⟨w.heap.size, 4, none⟩ = some (.bool neg2) ∧ w'.cell? ⟨w.heap.size, 5, none⟩ = some (.slice A2 l2.length c2)) ((first | with_reducible exact ⟨(hc _ _ q0).trans k0_0, (hc _ _ q0).trans k0_1, (hc _ _ q0).trans k0_2, (hc _ _ q0).trans k0_3, (hc _ _ q0).trans k0_4, (hc _ _ q0).trans k0_5⟩ | with_reducible exact ⟨k0_0, k0_1, k0_2, k0_3, k0_4, k0_5⟩ | with_reducible exact ⟨(cell_set6 _ _ _ _ _ _ _ _ (by omega)).trans ((hc _ _ q0).trans k0_0), (cell_set6 _ _ _ _ _ _ _ _ (by omega)).trans ((hc _ _ q0).trans k0_1), (cell_set6 _ _ _ _ _ _ _ _ (by omega)).trans ((hc _ _ q0).trans k0_2), (cell_set6 _ _ _ _ _ _ _ _ (by omega)).trans ((hc _ _ q0).trans k0_3), (cell_set6 _ _ _ _ _ _ _ _ (by omega)).trans ((hc _ _ q0).trans k0_4), (cell_set6 _ _ _ _ _ _ _ _ (by omega)).trans ((hc _ _ q0).trans k0_5)⟩ | exact ⟨(hc _ _ q0).trans k0_0, (hc _ _ q0).trans k0_1, (hc _ _ q0).trans k0_2, (hc _ _ q0).trans k0_3, (hc _ _ q0).trans k0_4, (hc _ _ q0).trans k0_5⟩ | exact ⟨k0_0, k0_1, k0_2, k0_3, k0_4, k0_5⟩ | exact ⟨(cell_set6 _ _ _ _ _ _ _ _ (by omega)).trans ((hc _ _ q0).trans k0_0), (cell_set6 _ _ _ _ _ _ _ _ (by omega)).trans ((hc _ _ q0).trans k0_1), (cell_set6 _ _ _ _ _ _ _ _ (by omega)).trans ((hc _ _ q0).trans k0_2), (cell_set6 _ _ _ _ _ _ _ _ (by omega)).trans ((hc _ _ q0).trans k0_3), (cell_set6 _ _ _ _ _ _ _ _ (by omega)).trans ((hc _ _ q0).trans k0_4), (cell_set6 _ _ _ _ _ _ _ _ (by omega)).trans ((hc _ _ q0).trans k0_5)⟩)) (first | (go_at_call_of 51 (Value.agg #[.int .i64 s1, .bool neg1, .slice A1 l1.length c1]); refine (neg_any s1 neg1 A1 c1 l1 z1 _ (by exact (unhide H1).below (below_step' hw0 (by (first | assumption | (repeat (first | exact Below.refl _ _ | assumption | refine Below.drew ?_ | (refine Below.alloc ?_ (by simp <;> omega) _)))))))).mono ?_; rintro e w' ⟨s5, neg5, A5, c5, l5, rfl, hf5, hb⟩; have hbw := below_step (w := W0) (by (first | assumption | (repeat (first | exact Below.refl _ _ | assumption | refine Below.drew ?_ | (refine Below.alloc ?_ (by simp <;> omega) _))))) hb; obtain ⟨hc, hfz⟩ := bcell hbw))
  have hblk : w'.heap[w.heap.size + 1]? = some (.cells #[.int .i64 0, .bool false, .slice none 0 0, .int .i64 0, .bool false, .slice none 0 0] 48 (0, 0)) := (hbw.block _ q1).trans NR.out
  have HBLK := Lib.hid hblk
  have hb9 : Below w.heap.size w w' := below_step' hw0 hbw
  clear hblk
  go_wp2_with fail
  exact bodyPost_ret (v := (Value.agg #[.int .i64 s5, .bool neg5, .slice A5 l5.length c5, .int .i64 s2, .bool neg2, .slice A2 l2.length c2])) (by simp [results, Tryd.results69, go_sem, hc, k1_0, k1_1, k1_2, k1_3, k1_4, k1_5, q1]) rfl
    ⟨s5, neg5, A5, c5, l5, s2, neg2, A2, c2, l2, rfl, (hf5).upto HBLK.out (noWord6 _ _ _ _ _ _ _ _ _ _) (set6_grown _ _ _ _ _ _ _ _), ((unhide H2).below (below_step' hw0 hbw)).upto HBLK.out (noWord6 _ _ _ _ _ _ _ _ _ _) (set6_grown _ _ _ _ _ _ _ _), hb9.grown (set6_grown _ _ _ _ _ _ _ _) hb9.size (fun k hk => by injection hk with hk; omega)⟩

end Go.Proofs.YtfbcdfoohpkfeaaDoor
/- The inverse of a quotient. -/
namespace Go.Proofs.YtfbcdfoohpkfeaaDoor
open Go.RowKit

set_option maxRecDepth 100000 in
set_option maxHeartbeats 8000000 in
theorem rinv_neg (s1 : Int) (neg1 : Bool) (A1 : Option Addr) (c1 : Nat) (l1 : List Nat) (z1 : Int) (s2 : Int) (neg2 : Bool) (A2 : Option Addr) (c2 : Nat) (l2 : List Nat) (z2 : Int) (w : World) (h1 : IntF w s1 neg1 A1 c1 l1 z1) (h2 : IntF w s2 neg2 A2 c2 l2 z2) (hz : z1 < 0) :
    Calls Tryd.prog 70 #[(Value.agg #[.int .i64 s1, .bool neg1, .slice A1 l1.length c1, .int .i64 s2, .bool neg2, .slice A2 l2.length c2])] w fun e w' => PairR w (-z2) (-z1) e w' := by
  have hs : decide (sgn z1 < 0) = true := decide_eq_true (by rw [sgn_neg]; exact hz)
  obtain ⟨o1, ho1⟩ : ∃ o, o = sgn z1 := ⟨_, rfl⟩
  have HS : Hid (∀ W, Below w.heap.size w W → Calls Tryd.prog 50 #[(Value.agg #[.int .i64 s1, .bool neg1, .slice A1 l1.length c1])] W fun e w' => e = .returned (.int .i64 o1) ∧ Below W.heap.size W w') := by rw [ho1]; exact fun W hW => sign_any s1 neg1 A1 c1 l1 z1 W (h1.below hW)
  rw [← ho1] at hs
  clear ho1 hz
  have H1 := hide h1
  have H2 := hide h2
  clear h1 h2
  go_enter Tryd.func70, Tryd.ntmps70
  go_wp2_with fail
  obtain ⟨n0, n1, hsz, hw0⟩ := two_new w (.cells #[.int .i64 s1, .bool neg1, .slice A1 l1.length c1, .int .i64 s2, .bool neg2, .slice A2 l2.length c2] 48) (.cells #[.int .i64 0, .bool false, .slice none 0 0, .int .i64 0, .bool false, .slice none 0 0] 48)
  generalize ((w.alloc (.cells #[.int .i64 s1, .bool neg1, .slice A1 l1.length c1, .int .i64 s2, .bool neg2, .slice A2 l2.length c2] 48)).alloc (.cells #[.int .i64 0, .bool false, .slice none 0 0, .int .i64 0, .bool false, .slice none 0 0] 48)) = W0 at *
  have k0_0 : W0.cell? ⟨w.heap.size, 0, none⟩ = some (.int .i64 s1) := cells_of n0 0
  have k0_1 : W0.cell? ⟨w.heap.size, 1, none⟩ = some (.bool neg1) := cells_of n0 1
  have k0_2 : W0.cell? ⟨w.heap.size, 2, none⟩ = some (.slice A1 l1.length c1) := cells_of n0 2
  have k0_3 : W0.cell? ⟨w.heap.size, 3, none⟩ = some (.int .i64 s2) := cells_of n0 3
  have k0_4 : W0.cell? ⟨w.heap.size, 4, none⟩ = some (.bool neg2) := cells_of n0 4
  have k0_5 : W0.cell? ⟨w.heap.size, 5, none⟩ = some (.slice A2 l2.length c2) := cells_of n0 5
  have q0 : w.heap.size < W0.heap.size := by omega
  have k1_0 : W0.cell? ⟨w.heap.size + 1, 0, none⟩ = some (.int .i64 0) := cells_of n1 0
  have k1_1 : W0.cell? ⟨w.heap.size + 1, 1, none⟩ = some (.bool false) := cells_of n1 1
  have k1_2 : W0.cell? ⟨w.heap.size + 1, 2, none⟩ = some (.slice none 0 0) := cells_of n1 2
  have k1_3 : W0.cell? ⟨w.heap.size + 1, 3, none⟩ = some (.int .i64 0) := cells_of n1 3
  have k1_4 : W0.cell? ⟨w.heap.size + 1, 4, none⟩ = some (.bool false) := cells_of n1 4
  have k1_5 : W0.cell? ⟨w.heap.size + 1, 5, none⟩ = some (.slice none 0 0) := cells_of n1 5
  have q1 : w.heap.size + 1 < W0.heap.size := by omega
  have f1_0 := unfrozen_of n1 0
  have f1_1 := unfrozen_of n1 1
  have f1_2 := unfrozen_of n1 2
  have f1_3 := unfrozen_of n1 3
  have f1_4 := unfrozen_of n1 4
  have f1_5 := unfrozen_of n1 5
  have NR := Lib.hid n1
  clear n0 n1
  refine ((unhide HS) _ (below_step' hw0 (by (first | assumption | (repeat (first | exact Below.refl _ _ | assumption | refine Below.drew ?_ | (refine Below.alloc ?_ (by simp <;> omega) _))))))).mono ?_
  rintro e w' ⟨rfl, hb⟩
  have hbw := below_step (w := W0) (by (first | assumption | (repeat (first | exact Below.refl _ _ | assumption | refine Below.drew ?_ | (refine Below.alloc ?_ (by simp <;> omega) _))))) hb; obtain ⟨hc, hfz⟩ := bcell hbw
  go_wp2_with fail
  go_region_held3 (fun w' => w'.cell? ⟨w.heap.size, 0, none⟩ = some (.int .i64 s1) ∧ w'.cell? ⟨w.heap.size, 1, none⟩ = some (.bool neg1) ∧ w'.cell? ⟨w.heap.size, 2, none⟩ = some (.slice A1 l1.length c1) ∧ w'.cell? ⟨w.heap.size, 3, none⟩ = some (.int .i64 s2) ∧ w'.cell? ⟨w.heap.size, 4, none⟩ = some (.bool neg2) ∧ w'.cell? ⟨w.heap.size, 5, none⟩ = some (.slice A2 l2.length c2)) ((first | with_reducible exact ⟨(hc _ _ q0).trans k0_0, (hc _ _ q0).trans k0_1, (hc _ _ q0).trans k0_2, (hc _ _ q0).trans k0_3, (hc _ _ q0).trans k0_4, (hc _ _ q0).trans k0_5⟩ | with_reducible exact ⟨k0_0, k0_1, k0_2, k0_3, k0_4, k0_5⟩ | with_reducible exact ⟨(cell_set6 _ _ _ _ _ _ _ _ (by omega)).trans ((hc _ _ q0).trans k0_0), (cell_set6 _ _ _ _ _ _ _ _ (by omega)).trans ((hc _ _ q0).trans k0_1), (cell_set6 _ _ _ _ _ _ _ _ (by omega)).trans ((hc _ _ q0).trans k0_2), (cell_set6 _ _ _ _ _ _ _ _ (by omega)).trans ((hc _ _ q0).trans k0_3), (cell_set6 _ _ _ _ _ _ _ _ (by omega)).trans ((hc _ _ q0).trans k0_4), (cell_set6 _ _ _ _ _ _ _ _ (by omega)).trans ((hc _ _ q0).trans k0_5)⟩ | exact ⟨(hc _ _ q0).trans k0_0, (hc _ _ q0).trans k0_1, (hc _ _ q0).trans k0_2, (hc _ _ q0).trans k0_3, (hc _ _ q0).trans k0_4, (hc _ _ q0).trans k0_5⟩ | exact ⟨k0_0, k0_1, k0_2, k0_3, k0_4, k0_5⟩ | exact ⟨(cell_set6 _ _ _ _ _ _ _ _ (by omega)).trans ((hc _ _ q0).trans k0_0), (cell_set6 _ _ _ _ _ _ _ _ (by omega)).trans ((hc _ _ q0).trans k0_1), (cell_set6 _ _ _ _ _ _ _ _ (by omega)).trans ((hc _ _ q0).trans k0_2), (cell_set6 _ _ _ _ _ _ _ _ (by omega)).trans ((hc _ _ q0).trans k0_3), (cell_set6 _ _ _ _ _ _ _ _ (by omega)).trans ((hc _ _ q0).trans k0_4), (cell_set6 _ _ _ _ _ _ _ _ (by omega)).trans ((hc _ _ q0).trans k0_5)⟩)) (first | (go_at_call_of 51 (Value.agg #[.int .i64 s2, .bool neg2, .slice A2 l2.length c2]); refine (neg_any s2 neg2 A2 c2 l2 z2 _ (by exact (unhide H2).below (below_step' hw0 (by (first | assumption | (repeat (first | exact Below.refl _ _ | assumption | refine Below.drew ?_ | (refine Below.alloc ?_ (by simp <;> omega) _)))))))).mono ?_; rintro e w' ⟨s5, neg5, A5, c5, l5, rfl, hf5, hb⟩; have hbw := below_step (w := W0) (by (first | assumption | (repeat (first | exact Below.refl _ _ | assumption | refine Below.drew ?_ | (refine Below.alloc ?_ (by simp <;> omega) _))))) hb; obtain ⟨hc, hfz⟩ := bcell hbw) | (go_at_call_of 51 (Value.agg #[.int .i64 s1, .bool neg1, .slice A1 l1.length c1]); refine (neg_any s1 neg1 A1 c1 l1 z1 _ (by exact (unhide H1).below (below_step' hw0 (by (first | assumption | (repeat (first | exact Below.refl _ _ | assumption | refine Below.drew ?_ | (refine Below.alloc ?_ (by simp <;> omega) _)))))))).mono ?_; rintro e w' ⟨s6, neg6, A6, c6, l6, rfl, hf6, hb⟩; have hf5 := hf5.below hb; have hbw := below_step (w := W0) (by (first | assumption | (repeat (first | exact Below.refl _ _ | assumption | refine Below.drew ?_ | (refine Below.alloc ?_ (by simp <;> omega) _))))) hb; obtain ⟨hc, hfz⟩ := bcell hbw))
  have hblk : w'.heap[w.heap.size + 1]? = some (.cells #[.int .i64 0, .bool false, .slice none 0 0, .int .i64 0, .bool false, .slice none 0 0] 48 (0, 0)) := (hbw.block _ q1).trans NR.out
  have HBLK := Lib.hid hblk
  have hb9 : Below w.heap.size w w' := below_step' hw0 hbw
  clear hblk
  go_wp2_with fail
  exact bodyPost_ret (v := (Value.agg #[.int .i64 s5, .bool neg5, .slice A5 l5.length c5, .int .i64 s6, .bool neg6, .slice A6 l6.length c6])) (by simp [results, Tryd.results70, go_sem, hc, k1_0, k1_1, k1_2, k1_3, k1_4, k1_5, q1]) rfl
    ⟨s5, neg5, A5, c5, l5, s6, neg6, A6, c6, l6, rfl, (hf5).upto HBLK.out (noWord6 _ _ _ _ _ _ _ _ _ _) (set6_grown _ _ _ _ _ _ _ _), (hf6).upto HBLK.out (noWord6 _ _ _ _ _ _ _ _ _ _) (set6_grown _ _ _ _ _ _ _ _), hb9.grown (set6_grown _ _ _ _ _ _ _ _) hb9.size (fun k hk => by injection hk with hk; omega)⟩
set_option maxRecDepth 100000 in
set_option maxHeartbeats 8000000 in
theorem rinv_pos (s1 : Int) (neg1 : Bool) (A1 : Option Addr) (c1 : Nat) (l1 : List Nat) (z1 : Int) (s2 : Int) (neg2 : Bool) (A2 : Option Addr) (c2 : Nat) (l2 : List Nat) (z2 : Int) (w : World) (h1 : IntF w s1 neg1 A1 c1 l1 z1) (h2 : IntF w s2 neg2 A2 c2 l2 z2) (hz : ¬ z1 < 0) :
    Calls Tryd.prog 70 #[(Value.agg #[.int .i64 s1, .bool neg1, .slice A1 l1.length c1, .int .i64 s2, .bool neg2, .slice A2 l2.length c2])] w fun e w' => PairR w z2 z1 e w' := by
  have hs : decide (sgn z1 < 0) = false := decide_eq_false (by rw [sgn_neg]; exact hz)
  obtain ⟨o1, ho1⟩ : ∃ o, o = sgn z1 := ⟨_, rfl⟩
  have HS : Hid (∀ W, Below w.heap.size w W → Calls Tryd.prog 50 #[(Value.agg #[.int .i64 s1, .bool neg1, .slice A1 l1.length c1])] W fun e w' => e = .returned (.int .i64 o1) ∧ Below W.heap.size W w') := by rw [ho1]; exact fun W hW => sign_any s1 neg1 A1 c1 l1 z1 W (h1.below hW)
  rw [← ho1] at hs
  clear ho1 hz
  have H1 := hide h1
  have H2 := hide h2
  clear h1 h2
  go_enter Tryd.func70, Tryd.ntmps70
  go_wp2_with fail
  obtain ⟨n0, n1, hsz, hw0⟩ := two_new w (.cells #[.int .i64 s1, .bool neg1, .slice A1 l1.length c1, .int .i64 s2, .bool neg2, .slice A2 l2.length c2] 48) (.cells #[.int .i64 0, .bool false, .slice none 0 0, .int .i64 0, .bool false, .slice none 0 0] 48)
  generalize ((w.alloc (.cells #[.int .i64 s1, .bool neg1, .slice A1 l1.length c1, .int .i64 s2, .bool neg2, .slice A2 l2.length c2] 48)).alloc (.cells #[.int .i64 0, .bool false, .slice none 0 0, .int .i64 0, .bool false, .slice none 0 0] 48)) = W0 at *
  have k0_0 : W0.cell? ⟨w.heap.size, 0, none⟩ = some (.int .i64 s1) := cells_of n0 0
  have k0_1 : W0.cell? ⟨w.heap.size, 1, none⟩ = some (.bool neg1) := cells_of n0 1
  have k0_2 : W0.cell? ⟨w.heap.size, 2, none⟩ = some (.slice A1 l1.length c1) := cells_of n0 2
  have k0_3 : W0.cell? ⟨w.heap.size, 3, none⟩ = some (.int .i64 s2) := cells_of n0 3
  have k0_4 : W0.cell? ⟨w.heap.size, 4, none⟩ = some (.bool neg2) := cells_of n0 4
  have k0_5 : W0.cell? ⟨w.heap.size, 5, none⟩ = some (.slice A2 l2.length c2) := cells_of n0 5
  have q0 : w.heap.size < W0.heap.size := by omega
  have k1_0 : W0.cell? ⟨w.heap.size + 1, 0, none⟩ = some (.int .i64 0) := cells_of n1 0
  have k1_1 : W0.cell? ⟨w.heap.size + 1, 1, none⟩ = some (.bool false) := cells_of n1 1
  have k1_2 : W0.cell? ⟨w.heap.size + 1, 2, none⟩ = some (.slice none 0 0) := cells_of n1 2
  have k1_3 : W0.cell? ⟨w.heap.size + 1, 3, none⟩ = some (.int .i64 0) := cells_of n1 3
  have k1_4 : W0.cell? ⟨w.heap.size + 1, 4, none⟩ = some (.bool false) := cells_of n1 4
  have k1_5 : W0.cell? ⟨w.heap.size + 1, 5, none⟩ = some (.slice none 0 0) := cells_of n1 5
  have q1 : w.heap.size + 1 < W0.heap.size := by omega
  have f1_0 := unfrozen_of n1 0
  have f1_1 := unfrozen_of n1 1
  have f1_2 := unfrozen_of n1 2
  have f1_3 := unfrozen_of n1 3
  have f1_4 := unfrozen_of n1 4
  have f1_5 := unfrozen_of n1 5
  have NR := Lib.hid n1
  clear n0 n1
  refine ((unhide HS) _ (below_step' hw0 (by (first | assumption | (repeat (first | exact Below.refl _ _ | assumption | refine Below.drew ?_ | (refine Below.alloc ?_ (by simp <;> omega) _))))))).mono ?_
  rintro e w' ⟨rfl, hb⟩
  have hbw := below_step (w := W0) (by (first | assumption | (repeat (first | exact Below.refl _ _ | assumption | refine Below.drew ?_ | (refine Below.alloc ?_ (by simp <;> omega) _))))) hb; obtain ⟨hc, hfz⟩ := bcell hbw
  have hblk : w'.heap[w.heap.size + 1]? = some (.cells #[.int .i64 0, .bool false, .slice none 0 0, .int .i64 0, .bool false, .slice none 0 0] 48 (0, 0)) := (hbw.block _ q1).trans NR.out
  have HBLK := Lib.hid hblk
  have hb9 : Below w.heap.size w w' := below_step' hw0 hbw
  clear hblk
  go_wp2_with fail
  exact bodyPost_ret (v := (Value.agg #[.int .i64 s2, .bool neg2, .slice A2 l2.length c2, .int .i64 s1, .bool neg1, .slice A1 l1.length c1])) (by simp [results, Tryd.results70, go_sem, hc, k1_0, k1_1, k1_2, k1_3, k1_4, k1_5, q1]) rfl
    ⟨s2, neg2, A2, c2, l2, s1, neg1, A1, c1, l1, rfl, ((unhide H2).below (below_step' hw0 hbw)).upto HBLK.out (noWord6 _ _ _ _ _ _ _ _ _ _) (set6_grown _ _ _ _ _ _ _ _), ((unhide H1).below (below_step' hw0 hbw)).upto HBLK.out (noWord6 _ _ _ _ _ _ _ _ _ _) (set6_grown _ _ _ _ _ _ _ _), hb9.grown (set6_grown _ _ _ _ _ _ _ _) hb9.size (fun k hk => by injection hk with hk; omega)⟩

end Go.Proofs.YtfbcdfoohpkfeaaDoor
/- Quotients as rational numbers. -/
namespace Go.Proofs.YtfbcdfoohpkfeaaDoor
open Go.RowKit

/-- Function F makes of the quotient x the quotient q, in every world that holds what w holds. -/
def OpQ1 (w : World) (F : Nat) (x q : Rat) : Prop := ∀ (s1 : Int) (neg1 : Bool) (A1 : Option Addr) (c1 : Nat) (l1 : List Nat) (s2 : Int) (neg2 : Bool) (A2 : Option Addr) (c2 : Nat) (l2 : List Nat) (W : World), Below w.heap.size w W → IntF W s1 neg1 A1 c1 l1 x.num → IntF W s2 neg2 A2 c2 l2 (x.den : Int) → Calls Tryd.prog F #[(Value.agg #[.int .i64 s1, .bool neg1, .slice A1 l1.length c1, .int .i64 s2, .bool neg2, .slice A2 l2.length c2])] W fun e w' => PairR W q.num (q.den : Int) e w'
/-- Function F makes of the quotients x and y the quotient q. -/
def OpQ2 (w : World) (F : Nat) (x y q : Rat) : Prop := ∀ (s1 : Int) (neg1 : Bool) (A1 : Option Addr) (c1 : Nat) (l1 : List Nat) (s2 : Int) (neg2 : Bool) (A2 : Option Addr) (c2 : Nat) (l2 : List Nat) (s3 : Int) (neg3 : Bool) (A3 : Option Addr) (c3 : Nat) (l3 : List Nat) (s4 : Int) (neg4 : Bool) (A4 : Option Addr) (c4 : Nat) (l4 : List Nat) (W : World), Below w.heap.size w W → IntF W s1 neg1 A1 c1 l1 x.num → IntF W s2 neg2 A2 c2 l2 (x.den : Int) → IntF W s3 neg3 A3 c3 l3 y.num → IntF W s4 neg4 A4 c4 l4 (y.den : Int) → Calls Tryd.prog F #[(Value.agg #[.int .i64 s1, .bool neg1, .slice A1 l1.length c1, .int .i64 s2, .bool neg2, .slice A2 l2.length c2]), (Value.agg #[.int .i64 s3, .bool neg3, .slice A3 l3.length c3, .int .i64 s4, .bool neg4, .slice A4 l4.length c4])] W fun e w' => PairR W q.num (q.den : Int) e w'
theorem OpQ1.mono {w w' : World} {F : Nat} {x q : Rat} (h : OpQ1 w F x q) (hb : Below w.heap.size w w') : OpQ1 w' F x q := fun _ _ _ _ _ _ _ _ _ _ W hW => h _ _ _ _ _ _ _ _ _ _ W (below_step' hb hW)
theorem OpQ2.mono {w w' : World} {F : Nat} {x y q : Rat} (h : OpQ2 w F x y q) (hb : Below w.heap.size w w') : OpQ2 w' F x y q := fun _ _ _ _ _ _ _ _ _ _ _ _ _ _ _ _ _ _ _ _ W hW => h _ _ _ _ _ _ _ _ _ _ _ _ _ _ _ _ _ _ _ _ W (below_step' hb hW)

/-- Numerator and denominator have at most K words. -/
def SzQ (K : Nat) (q : Rat) : Prop := Wd.Sz B64 K q.num ∧ Wd.Sz B64 K (q.den : Int)
theorem SzQ.mono {K L : Nat} {q : Rat} (h : SzQ K q) (hk : K ≤ L) : SzQ L q := ⟨h.1.mono B64_pos hk, h.2.mono B64_pos hk⟩
theorem SzQ.neg {K : Nat} {q : Rat} (h : SzQ K q) : SzQ K (-q) := ⟨by rw [Rat.neg_num]; exact h.1.neg, by rw [Rat.neg_den]; exact h.2⟩

theorem opq_neg (w : World) (x : Rat) : OpQ1 w 69 x (-x) := fun s1 neg1 A1 c1 l1 s2 neg2 A2 c2 l2 W _ f1 f2 => by
  rw [Rat.neg_num, Rat.neg_den]
  exact rneg_any s1 neg1 A1 c1 l1 _ s2 neg2 A2 c2 l2 _ W f1 f2
theorem opq_inv (w : World) (x : Rat) (h : x.num ≠ 0) : OpQ1 w 70 x (x⁻¹) := fun s1 neg1 A1 c1 l1 s2 neg2 A2 c2 l2 W _ f1 f2 => by
  have hp := Wd.inv_parts x h
  by_cases hn : x.num < 0
  · rw [(hp.1 hn).1, (hp.1 hn).2]
    exact rinv_neg s1 neg1 A1 c1 l1 _ s2 neg2 A2 c2 l2 _ W f1 f2 hn
  · rw [(hp.2 hn).1, (hp.2 hn).2]
    exact rinv_pos s1 neg1 A1 c1 l1 _ s2 neg2 A2 c2 l2 _ W f1 f2 hn
theorem SzQ.inv {K : Nat} {q : Rat} (h : SzQ K q) (h0 : q.num ≠ 0) : SzQ K (q⁻¹) := by
  have hp := Wd.inv_parts q h0
  by_cases hn : q.num < 0
  · exact ⟨by rw [(hp.1 hn).1]; exact h.2.neg, by rw [(hp.1 hn).2]; exact h.1.neg⟩
  · exact ⟨by rw [(hp.2 hn).1]; exact h.2, by rw [(hp.2 hn).2]; exact h.1⟩

theorem opq_add {w : World} {K : Nat} (hT : Tab w) (x y : Rat) (hx : SzQ K x) (hy : SzQ K y) (hK : K + K + 1 ≤ lim) : OpQ2 w 37 x y (x + y) ∧ SzQ (K + K + 1) (x + y) := by
  have dx : (x.den : Int) ≠ 0 := by have := x.den_pos; omega
  have dy : (y.den : Int) ≠ 0 := by have := y.den_pos; omega
  obtain ⟨g, hg⟩ : ∃ g, g = x.den.gcd y.den := ⟨_, rfl⟩
  obtain ⟨xd, hxd⟩ : ∃ z, z = (x.den : Int).tdiv g := ⟨_, rfl⟩
  obtain ⟨yd, hyd⟩ : ∃ z, z = (y.den : Int).tdiv g := ⟨_, rfl⟩
  obtain ⟨m1, hm1⟩ : ∃ z, z = x.num * yd := ⟨_, rfl⟩
  obtain ⟨m2, hm2⟩ : ∃ z, z = y.num * xd := ⟨_, rfl⟩
  obtain ⟨n, hn⟩ : ∃ z, z = m1 + m2 := ⟨_, rfl⟩
  obtain ⟨h, hh⟩ : ∃ h, h = g.gcd n.natAbs := ⟨_, rfl⟩
  obtain ⟨e1, he1⟩ : ∃ z, z = (y.den : Int).tdiv h := ⟨_, rfl⟩
  have hp := Wd.add_parts_int x y g h n hg (by rw [hn, hm1, hm2, hxd, hyd]) hh
  have g0 : 0 < g := by rw [hg]; exact Nat.gcd_pos_of_pos_left _ x.den_pos
  have h0 : 0 < h := by rw [hh]; exact Nat.gcd_pos_of_pos_left _ g0
  have sg : Wd.Sz B64 K (g : Int) := by
    have := hx.2.gcd_left (b := (y.den : Int)) dx
    simpa [hg] using this
  have sh : Wd.Sz B64 K (h : Int) := by
    have := sg.gcd_left (b := n) (by omega)
    simpa [hh] using this
  have sxd : Wd.Sz B64 K xd := by rw [hxd]; exact hx.2.tdiv _
  have syd : Wd.Sz B64 K yd := by rw [hyd]; exact hy.2.tdiv _
  have sm1 : Wd.Sz B64 (K + K) m1 := by rw [hm1]; exact hx.1.mul syd
  have sm2 : Wd.Sz B64 (K + K) m2 := by rw [hm2]; exact hy.1.mul sxd
  have sn : Wd.Sz B64 (K + K + 1) n := by rw [hn]; exact sm1.add B64_pos sm2
  have se1 : Wd.Sz B64 K e1 := by rw [he1]; exact hy.2.tdiv _
  have B := B64_pos
  have up : ∀ z, Wd.Sz B64 K z → Wd.Sz B64 (K + K + 1) z := fun z hz => hz.mono B (by omega)
  refine ⟨?_, ⟨by rw [hp.1]; exact sn.tdiv _, by rw [hp.2]; exact ((hx.2.tdiv _).mul (hy.2.tdiv _)).mono B (by omega)⟩⟩
  rw [OpQ2, hp.1, hp.2]
  exact fun s1 neg1 A1 c1 l1 s2 neg2 A2 c2 l2 s3 neg3 A3 c3 l3 s4 neg4 A4 c4 l4 W hW f1 f2 f3 f4 => radd_walk s1 neg1 A1 c1 l1 s2 neg2 A2 c2 l2 s3 neg3 A3 c3 l3 s4 neg4 A4 c4 l4 x.num (x.den : Int) y.num (y.den : Int) (g : Int) xd yd m1 m2 n (h : Int) _ e1 _ W f1 f2 f3 f4
    (op_gcd (hT.below hW) (up _ hx.2) (up _ hy.2) hK (by simp [hg])) (op_quo (up _ hx.2) (up _ sg) hK (by omega) hxd) (op_quo (up _ hy.2) (up _ sg) hK (by omega) hyd)
    (op_mul (up _ hx.1) (up _ syd) hK hm1) (op_mul (up _ hy.1) (up _ sxd) hK hm2) (op_add (sm1.mono B (by omega)) (sm2.mono B (by omega)) hK hn)
    (op_gcd (hT.below hW) (up _ sg) sn hK (by simp [hh])) (op_quo sn (up _ sh) hK (by omega) rfl) (op_quo (up _ hy.2) (up _ sh) hK (by omega) he1) (op_mul (up _ sxd) (up _ se1) hK (by rw [hxd, he1]))

theorem opq_mul {w : World} {K : Nat} (hT : Tab w) (x y : Rat) (hx : SzQ K x) (hy : SzQ K y) (hK : K + K + 1 ≤ lim) : OpQ2 w 39 x y (x * y) ∧ SzQ (K + K) (x * y) := by
  have dx : (x.den : Int) ≠ 0 := by have := x.den_pos; omega
  have dy : (y.den : Int) ≠ 0 := by have := y.den_pos; omega
  obtain ⟨g, hg⟩ : ∃ g, g = x.num.natAbs.gcd y.den := ⟨_, rfl⟩
  obtain ⟨h, hh⟩ : ∃ h, h = y.num.natAbs.gcd x.den := ⟨_, rfl⟩
  obtain ⟨a1, ha1⟩ : ∃ z, z = x.num.tdiv g := ⟨_, rfl⟩
  obtain ⟨b1, hb1⟩ : ∃ z, z = y.num.tdiv h := ⟨_, rfl⟩
  obtain ⟨a2, ha2⟩ : ∃ z, z = (x.den : Int).tdiv h := ⟨_, rfl⟩
  obtain ⟨b2, hb2⟩ : ∃ z, z = (y.den : Int).tdiv g := ⟨_, rfl⟩
  have hp := Wd.mul_parts_int x y g h hg hh
  have g0 : 0 < g := by rw [hg]; exact Nat.gcd_pos_of_pos_right _ y.den_pos
  have h0 : 0 < h := by rw [hh]; exact Nat.gcd_pos_of_pos_right _ x.den_pos
  have sg : Wd.Sz B64 K (g : Int) := by
    have := hy.2.gcd_right (a := x.num) dy
    simpa [hg] using this
  have sh : Wd.Sz B64 K (h : Int) := by
    have := hx.2.gcd_right (a := y.num) dx
    simpa [hh] using this
  have sa1 : Wd.Sz B64 K a1 := by rw [ha1]; exact hx.1.tdiv _
  have sb1 : Wd.Sz B64 K b1 := by rw [hb1]; exact hy.1.tdiv _
  have sa2 : Wd.Sz B64 K a2 := by rw [ha2]; exact hx.2.tdiv _
  have sb2 : Wd.Sz B64 K b2 := by rw [hb2]; exact hy.2.tdiv _
  have hK1 : K ≤ lim := by omega
  refine ⟨?_, ⟨by rw [hp.1, ← ha1, ← hb1]; exact sa1.mul sb1, by rw [hp.2, ← ha2, ← hb2]; exact sa2.mul sb2⟩⟩
  rw [OpQ2, hp.1, hp.2]
  exact fun s1 neg1 A1 c1 l1 s2 neg2 A2 c2 l2 s3 neg3 A3 c3 l3 s4 neg4 A4 c4 l4 W hW f1 f2 f3 f4 => rmul_walk s1 neg1 A1 c1 l1 s2 neg2 A2 c2 l2 s3 neg3 A3 c3 l3 s4 neg4 A4 c4 l4 x.num (x.den : Int) y.num (y.den : Int) (g : Int) (h : Int) a1 b1 _ a2 b2 _ W f1 f2 f3 f4
    (op_gcd (hT.below hW) hx.1 hy.2 hK1 (by simp [hg])) (op_gcd (hT.below hW) hy.1 hx.2 hK1 (by simp [hh])) (op_quo hx.1 sg hK1 (by omega) ha1) (op_quo hy.1 sh hK1 (by omega) hb1)
    (op_mul sa1 sb1 hK1 (by rw [ha1, hb1])) (op_quo hx.2 sh hK1 (by omega) ha2) (op_quo hy.2 sg hK1 (by omega) hb2) (op_mul sa2 sb2 hK1 (by rw [ha2, hb2]))

end Go.Proofs.YtfbcdfoohpkfeaaDoor
