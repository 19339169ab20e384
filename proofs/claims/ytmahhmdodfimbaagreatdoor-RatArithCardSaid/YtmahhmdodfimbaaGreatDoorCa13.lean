/- Part 13 of the texts beneath a law of layer 1: RfDo1, RfDo2, RfDo3, RfQa1, RfQa2. -/
import Derived.Test.YtmahhmdodfimbaaGreatDoorCa12
/- The walk through the reference: two numbers put together (Sub) and told. -/
namespace Go.Proofs.YtmahhmdodfimbaaGreatDoor
open Go.RowKit

set_option maxRecDepth 100000 in
set_option maxHeartbeats 16000000 in
theorem do_walk1 (n1 d1 n2 d2 rn rd re : Int) (x y q : Rat) (w : World)
    (ha : ∀ g W, g < W.heap.size → W.cell? ⟨g, 0, none⟩ = some (.int .i64 n1) → W.cell? ⟨g, 1, none⟩ = some (.int .i64 d1) → W.cell? ⟨g, 2, none⟩ = some (.int .i64 n2) → W.cell? ⟨g, 3, none⟩ = some (.int .i64 d2) → Calls Tryz.prog 40 #[.slice (some ⟨g, 0, none⟩) 2 2] W fun e w' => e = .returned (.int .i64 0) ∧ Below W.heap.size W w')
    (ho1 : ∀ W, Calls Tryz.prog 41 #[(Value.agg #[.int .i64 n1, .int .i64 d1])] W fun e w' => QR W x e w')
    (ho2 : ∀ W, Calls Tryz.prog 41 #[(Value.agg #[.int .i64 n2, .int .i64 d2])] W fun e w' => QR W y e w')
    (hop : ∀ (A1a : Option Addr) (c1a : Nat) (l1a : List Nat) (m1a : Bool) (A1b : Option Addr) (c1b : Nat) (l1b : List Nat) (m1b : Bool) (A2a : Option Addr) (c2a : Nat) (l2a : List Nat) (m2a : Bool) (A2b : Option Addr) (c2b : Nat) (l2b : List Nat) (m2b : Bool) W, QV W A1a c1a l1a m1a A1b c1b l1b m1b x → QV W A2a c2a l2a m2a A2b c2b l2b m2b y → Calls Tryz.prog 44 #[(Value.agg #[.slice A1a l1a.length c1a, .bool m1a, .slice A1b l1b.length c1b, .bool m1b]), (Value.agg #[.slice A2a l2a.length c2a, .bool m2a, .slice A2b l2b.length c2b, .bool m2b])] W fun e w' => QR W q e w')
    (hto : ∀ (A5 : Option Addr) (c5 : Nat) (l5 : List Nat) (m5 : Bool) (A6 : Option Addr) (c6 : Nat) (l6 : List Nat) (m6 : Bool) W, WholeF W A5 c5 l5 m5 q.num → WholeF W A6 c6 l6 m6 (q.den : Int) → Calls Tryz.prog 42 #[(Value.agg #[.slice A5 l5.length c5, .bool m5, .slice A6 l6.length c6, .bool m6])] W fun e w' => e = .returned (.tuple #[.agg #[.int .i64 rn, .int .i64 rd], .int .i64 re]) ∧ Below W.heap.size W w') :
    Calls Tryz.prog 10 #[.int .i64 1, .agg #[.int .i64 n1, .int .i64 d1], .agg #[.int .i64 n2, .int .i64 d2]] w fun e w' => e = .returned (.tuple #[.agg #[.int .i64 rn, .int .i64 rd], .int .i64 re]) ∧ Below w.heap.size w w' := by
  have HA := hide ha; have HO1 := hide ho1; have HO2 := hide ho2; have HOP := hide hop; have HTO := hide hto
  clear ha ho1 ho2 hop hto
  go_enter Tryz.func10, Tryz.ntmps10
  go_wp2_with fail
  obtain ⟨n0, n1_, n2_, hsz, hw0⟩ := three_new w (.cells #[.int .i64 n1, .int .i64 d1] 23) (.cells #[.int .i64 n2, .int .i64 d2] 23) (.cells #[.int .i64 0, .int .i64 0] 23)
  generalize (((w.alloc (.cells #[.int .i64 n1, .int .i64 d1] 23)).alloc (.cells #[.int .i64 n2, .int .i64 d2] 23)).alloc (.cells #[.int .i64 0, .int .i64 0] 23)) = Wz at *
  have n3_ := heap_alloc_new Wz (.cells #[.int .i64 n1, .int .i64 d1, .int .i64 n2, .int .i64 d2] 23)
  have hwb := (Below.refl Wz.heap.size Wz).alloc (Nat.le_refl _) (.cells #[.int .i64 n1, .int .i64 d1, .int .i64 n2, .int .i64 d2] 23)
  have hgz : Wz.heap.size = w.heap.size + 1 + 1 + 1 := by omega
  rw [hgz] at n3_
  refine ((unhide HA) (w.heap.size + 1 + 1 + 1) (Wz.alloc (.cells #[.int .i64 n1, .int .i64 d1, .int .i64 n2, .int .i64 d2] 23)) (lt_of_block n3_) (cells_of n3_ 0) (cells_of n3_ 1) (cells_of n3_ 2) (cells_of n3_ 3)).mono ?_
  rintro e W0 ⟨rfl, hb0⟩
  replace hb0 := below_step' hwb hb0
  replace n0 := (hb0.block _ (lt_of_block n0)).trans n0
  replace n1_ := (hb0.block _ (lt_of_block n1_)).trans n1_
  replace n2_ := (hb0.block _ (lt_of_block n2_)).trans n2_
  replace hw0 := below_step' hw0 hb0
  clear hb0 hwb n3_ hsz hgz HA
  have q0 := lt_of_block n0
  have k0_0 : W0.cell? ⟨w.heap.size, 0, none⟩ = some (.int .i64 n1) := cells_of n0 0
  have k0_1 : W0.cell? ⟨w.heap.size, 1, none⟩ = some (.int .i64 d1) := cells_of n0 1
  have q1 := lt_of_block n1_
  have k1_0 : W0.cell? ⟨w.heap.size + 1, 0, none⟩ = some (.int .i64 n2) := cells_of n1_ 0
  have k1_1 : W0.cell? ⟨w.heap.size + 1, 1, none⟩ = some (.int .i64 d2) := cells_of n1_ 1
  have q2 := lt_of_block n2_
  have k2_0 : W0.cell? ⟨w.heap.size + 1 + 1, 0, none⟩ = some (.int .i64 0) := cells_of n2_ 0
  have k2_1 : W0.cell? ⟨w.heap.size + 1 + 1, 1, none⟩ = some (.int .i64 0) := cells_of n2_ 1
  have f2_0 := unfrozen_of n2_ 0; have f2_1 := unfrozen_of n2_ 1
  clear n0 n1_ n2_
  go_upto_region 4 with fail
  go_cut [9, 10] (fun s9_ s10_ wx => ∃ b9 b10 : Nat, s9_ = .pointer (some ⟨b9, 0, none⟩) ∧ s10_ = .pointer (some ⟨b10, 0, none⟩) ∧ BoxQ wx b9 x ∧ BoxQ wx b10 y ∧ Below W0.heap.size W0 wx ∧ W0.heap.size ≤ b9 ∧ W0.heap.size ≤ b10)
  case first =>
    have KEEP := hide (show ∀ X, Below W0.heap.size W0 X → X.cell? ⟨w.heap.size, 0, none⟩ = some (.int .i64 n1) ∧ X.cell? ⟨w.heap.size, 1, none⟩ = some (.int .i64 d1) ∧ X.cell? ⟨w.heap.size + 1, 0, none⟩ = some (.int .i64 n2) ∧ X.cell? ⟨w.heap.size + 1, 1, none⟩ = some (.int .i64 d2) from fun X hB => ⟨keep_cell hB q0 k0_0, keep_cell hB q0 k0_1, keep_cell hB q1 k1_0, keep_cell hB q1 k1_1⟩)
    go_region_held3 (fun w' => w'.cell? ⟨w.heap.size, 0, none⟩ = some (.int .i64 n1) ∧ w'.cell? ⟨w.heap.size, 1, none⟩ = some (.int .i64 d1) ∧ w'.cell? ⟨w.heap.size + 1, 0, none⟩ = some (.int .i64 n2) ∧ w'.cell? ⟨w.heap.size + 1, 1, none⟩ = some (.int .i64 d2)) (exact (unhide KEEP) _ (by (repeat (first | with_reducible exact Below.refl _ _ | with_reducible assumption | with_reducible refine Below.drew ?_ | with_reducible refine below_alloc ?_ _ | (with_reducible refine below_set ?_ ?_ _ _; rotate_left; (first | omega | (simp <;> omega))))))) (first | (go_at_call_of 41 (Value.agg #[.int .i64 n1, .int .i64 d1]); refine ((unhide HO1) _).mono ?_; rintro e w' ⟨A1a, c1a, l1a, m1a, A1b, c1b, l1b, m1b, rfl, ha1, hd1, hb1⟩; have hf1 := QV.of ha1 hd1; clear ha1 hd1; have hbw := below_step (w := W0) (by (repeat (first | with_reducible exact Below.refl _ _ | with_reducible assumption | with_reducible refine Below.drew ?_ | with_reducible refine below_alloc ?_ _))) hb1; have hsw := hbw.size; obtain ⟨hc, hfz⟩ := bcell hbw; (try ((first | have u1a : FrQ W0 w' _ := FrQ.below (FrQ.new (by (repeat (first | with_reducible exact Below.refl _ _ | with_reducible assumption | with_reducible refine Below.drew ?_ | with_reducible refine below_alloc ?_ _))) rfl) hb1 | have u1a : FrQ W0 w' _ := FrQ.below (FrQ.drew (FrQ.new (by (repeat (first | with_reducible exact Below.refl _ _ | with_reducible assumption | with_reducible refine Below.drew ?_ | with_reducible refine below_alloc ?_ _))) rfl)) hb1); (try simp only [World.size_alloc] at u1a); (try dsimp only [World.drew] at u1a); (try simp only [World.size_alloc] at u1a); obtain ⟨⟨u1a0, u1a1, u1a2, u1a3⟩, ⟨u1a4, u1a5, u1a6, u1a7⟩, ⟨u1a8, u1a9, u1a10, u1a11⟩, ⟨u1a12, u1a13, u1a14, u1a15⟩, u1a16, u1a17⟩ := FrQ.facts u1a)); (try ((first | have u1b : FrQ W0 w' _ := FrQ.below (FrQ.alloc (FrQ.new (by (repeat (first | with_reducible exact Below.refl _ _ | with_reducible assumption | with_reducible refine Below.drew ?_ | with_reducible refine below_alloc ?_ _))) rfl)) hb1 | have u1b : FrQ W0 w' _ := FrQ.below (FrQ.drew (FrQ.alloc (FrQ.new (by (repeat (first | with_reducible exact Below.refl _ _ | with_reducible assumption | with_reducible refine Below.drew ?_ | with_reducible refine below_alloc ?_ _))) rfl))) hb1); (try simp only [World.size_alloc] at u1b); (try dsimp only [World.drew] at u1b); (try simp only [World.size_alloc] at u1b); obtain ⟨⟨u1b0, u1b1, u1b2, u1b3⟩, ⟨u1b4, u1b5, u1b6, u1b7⟩, ⟨u1b8, u1b9, u1b10, u1b11⟩, ⟨u1b12, u1b13, u1b14, u1b15⟩, u1b16, u1b17⟩ := FrQ.facts u1b))) | (go_at_call_of 41 (Value.agg #[.int .i64 n2, .int .i64 d2]); refine ((unhide HO2) _).mono ?_; rintro e w' ⟨A2a, c2a, l2a, m2a, A2b, c2b, l2b, m2b, rfl, ha2, hd2, hb2⟩; have hf2 := QV.of ha2 hd2; clear ha2 hd2; have hf1 := QV.below (QV.below hf1 (by (repeat (first | with_reducible exact Below.refl _ _ | with_reducible assumption | with_reducible refine Below.drew ?_ | with_reducible refine below_alloc ?_ _)))) hb2; have hbw := below_step (w := W0) (by (repeat (first | with_reducible exact Below.refl _ _ | with_reducible assumption | with_reducible refine Below.drew ?_ | with_reducible refine below_alloc ?_ _))) hb2; have hsw := hbw.size; obtain ⟨hc, hfz⟩ := bcell hbw; (try ((first | have u2a : FrQ W0 w' _ := FrQ.below (FrQ.new (by (repeat (first | with_reducible exact Below.refl _ _ | with_reducible assumption | with_reducible refine Below.drew ?_ | with_reducible refine below_alloc ?_ _))) rfl) hb2 | have u2a : FrQ W0 w' _ := FrQ.below (FrQ.drew (FrQ.new (by (repeat (first | with_reducible exact Below.refl _ _ | with_reducible assumption | with_reducible refine Below.drew ?_ | with_reducible refine below_alloc ?_ _))) rfl)) hb2); (try simp only [World.size_alloc] at u2a); (try dsimp only [World.drew] at u2a); (try simp only [World.size_alloc] at u2a); obtain ⟨⟨u2a0, u2a1, u2a2, u2a3⟩, ⟨u2a4, u2a5, u2a6, u2a7⟩, ⟨u2a8, u2a9, u2a10, u2a11⟩, ⟨u2a12, u2a13, u2a14, u2a15⟩, u2a16, u2a17⟩ := FrQ.facts u2a)); (try ((first | have u2b : FrQ W0 w' _ := FrQ.below (FrQ.alloc (FrQ.new (by (repeat (first | with_reducible exact Below.refl _ _ | with_reducible assumption | with_reducible refine Below.drew ?_ | with_reducible refine below_alloc ?_ _))) rfl)) hb2 | have u2b : FrQ W0 w' _ := FrQ.below (FrQ.drew (FrQ.alloc (FrQ.new (by (repeat (first | with_reducible exact Below.refl _ _ | with_reducible assumption | with_reducible refine Below.drew ?_ | with_reducible refine below_alloc ?_ _))) rfl))) hb2); (try simp only [World.size_alloc] at u2b); (try dsimp only [World.drew] at u2b); (try simp only [World.size_alloc] at u2b); obtain ⟨⟨u2b0, u2b1, u2b2, u2b3⟩, ⟨u2b4, u2b5, u2b6, u2b7⟩, ⟨u2b8, u2b9, u2b10, u2b11⟩, ⟨u2b12, u2b13, u2b14, u2b15⟩, u2b16, u2b17⟩ := FrQ.facts u2b)); (try ((first | have u2c : FrQ W0 w' _ := FrQ.below u1a hb2 | have u2c : FrQ W0 w' _ := FrQ.below (FrQ.alloc u1a) hb2 | have u2c : FrQ W0 w' _ := FrQ.below (FrQ.alloc (FrQ.alloc u1a)) hb2); (try simp only [World.size_alloc] at u2c); (try dsimp only [World.drew] at u2c); (try simp only [World.size_alloc] at u2c); obtain ⟨⟨u2c0, u2c1, u2c2, u2c3⟩, ⟨u2c4, u2c5, u2c6, u2c7⟩, ⟨u2c8, u2c9, u2c10, u2c11⟩, ⟨u2c12, u2c13, u2c14, u2c15⟩, u2c16, u2c17⟩ := FrQ.facts u2c)); (try ((first | have u2d : FrQ W0 w' _ := FrQ.below u1b hb2 | have u2d : FrQ W0 w' _ := FrQ.below (FrQ.alloc u1b) hb2 | have u2d : FrQ W0 w' _ := FrQ.below (FrQ.alloc (FrQ.alloc u1b)) hb2); (try simp only [World.size_alloc] at u2d); (try dsimp only [World.drew] at u2d); (try simp only [World.size_alloc] at u2d); obtain ⟨⟨u2d0, u2d1, u2d2, u2d3⟩, ⟨u2d4, u2d5, u2d6, u2d7⟩, ⟨u2d8, u2d9, u2d10, u2d11⟩, ⟨u2d12, u2d13, u2d14, u2d15⟩, u2d16, u2d17⟩ := FrQ.facts u2d))))
    all_goals (go_wp2_with fail; go_meet; refine ⟨_, _, rfl, rfl, ?_⟩; first | with_reducible exact qput_two ⟨by assumption, by assumption, by first | assumption | omega⟩ hf1 hf2 hbw | with_reducible exact qput_two (FrQ2.newR (by assumption) rfl) hf1.alloc hf2.alloc (below_alloc hbw _) | with_reducible exact qput_two (FrQ2.newL (by assumption) rfl) hf1.alloc hf2.alloc (below_alloc hbw _) | with_reducible exact qput_nn hf1 hf2 hbw rfl rfl | with_reducible exact qput_mm hf1 hf2 hbw rfl rfl | with_reducible exact qput_ns (by assumption) hf1 hf2 hbw rfl)
  case rest =>
    revert hcut
    generalize wc = W1
    intro hcut
    obtain ⟨b9, b10, rfl, rfl, B9, B10, hbx, ob9, ob10⟩ := hcut
    obtain ⟨hc, hfz⟩ := bcell hbx
    replace ob9 : w.heap.size + 1 + 1 < b9 := Nat.lt_of_lt_of_le q2 ob9
    replace ob10 : w.heap.size + 1 + 1 < b10 := Nat.lt_of_lt_of_le q2 ob10
    replace k2_0 := (hc _ _ q2).trans k2_0
    replace f2_0 := (hfz _ _ q2).trans f2_0
    replace k2_1 := (hc _ _ q2).trans k2_1
    replace f2_1 := (hfz _ _ q2).trans f2_1
    replace q2 := Nat.lt_of_lt_of_le q2 hbx.size
    replace hw0 := below_step' hw0 hbx
    clear k0_0 k0_1 k1_0 k1_1 q0 q1
    obtain ⟨A1a, c1a, l1a, m1a, A1b, c1b, l1b, m1b, j1, f1⟩ := B9
    have kb1_0 : W1.cell? ⟨b9, 0, none⟩ = some (.slice A1a l1a.length c1a) := cells_of j1 0
    have kb1_1 : W1.cell? ⟨b9, 1, none⟩ = some (.bool m1a) := cells_of j1 1
    have kb1_2 : W1.cell? ⟨b9, 2, none⟩ = some (.slice A1b l1b.length c1b) := cells_of j1 2
    have kb1_3 : W1.cell? ⟨b9, 3, none⟩ = some (.bool m1b) := cells_of j1 3
    have qb1 := lt_of_block j1
    clear j1
    obtain ⟨A2a, c2a, l2a, m2a, A2b, c2b, l2b, m2b, j2, f2⟩ := B10
    have kb2_0 : W1.cell? ⟨b10, 0, none⟩ = some (.slice A2a l2a.length c2a) := cells_of j2 0
    have kb2_1 : W1.cell? ⟨b10, 1, none⟩ = some (.bool m2a) := cells_of j2 1
    have kb2_2 : W1.cell? ⟨b10, 2, none⟩ = some (.slice A2b l2b.length c2b) := cells_of j2 2
    have kb2_3 : W1.cell? ⟨b10, 3, none⟩ = some (.bool m2b) := cells_of j2 3
    have qb2 := lt_of_block j2
    clear j2
    have F1 := hide f1; have F2 := hide f2
    clear f1 f2 hbx hc hfz
    go_wp2_with fail
    refine ((unhide HOP) A1a c1a l1a m1a A1b c1b l1b m1b A2a c2a l2a m2a A2b c2b l2b m2b W1 (unhide F1) (unhide F2)).mono ?_
    rintro e W3 ⟨A5, c5, l5, m5, A6, c6, l6, m6, rfl, g5, g6, hb⟩
    clear kb1_0 kb1_1 kb1_2 kb1_3 kb2_0 kb2_1 kb2_2 kb2_3 qb1 qb2 F1 F2
    have G5 := hide g5; have G6 := hide g6
    clear g5 g6
    obtain ⟨hc, hfz⟩ := bcell hb
    replace k2_0 := (hc _ _ q2).trans k2_0
    replace f2_0 := (hfz _ _ q2).trans f2_0
    replace k2_1 := (hc _ _ q2).trans k2_1
    replace f2_1 := (hfz _ _ q2).trans f2_1
    replace q2 := Nat.lt_of_lt_of_le q2 hb.size
    replace hw0 := below_step' hw0 hb
    clear hb hc hfz
    go_wp2_with fail
    refine ((unhide HTO) A5 c5 l5 m5 A6 c6 l6 m6 W3 (unhide G5) (unhide G6)).mono ?_
    rintro e W4 ⟨rfl, hb⟩
    obtain ⟨hc, hfz⟩ := bcell hb
    replace k2_0 := (hc _ _ q2).trans k2_0
    replace f2_0 := (hfz _ _ q2).trans f2_0
    replace k2_1 := (hc _ _ q2).trans k2_1
    replace f2_1 := (hfz _ _ q2).trans f2_1
    replace q2 := Nat.lt_of_lt_of_le q2 hb.size
    replace hw0 := below_step' hw0 hb
    clear hb hc hfz
    go_wp2_with fail
    exact bodyPost_ret (v := .tuple #[.agg #[.int .i64 rn, .int .i64 rd], .int .i64 re]) (by simp [results, Tryz.results10, go_sem, k2_0, k2_1, q2]) rfl
      ⟨rfl, hw0.grown (set2_grown _ _ _ _) hw0.size (fun k hk => by injection hk with hk; omega)⟩

end Go.Proofs.YtmahhmdodfimbaaGreatDoor
/- The walk through the reference: two numbers put together (Mul) and told. -/
namespace Go.Proofs.YtmahhmdodfimbaaGreatDoor
open Go.RowKit

set_option maxRecDepth 100000 in
set_option maxHeartbeats 16000000 in
theorem do_walk2 (n1 d1 n2 d2 rn rd re : Int) (x y q : Rat) (w : World)
    (ha : ∀ g W, g < W.heap.size → W.cell? ⟨g, 0, none⟩ = some (.int .i64 n1) → W.cell? ⟨g, 1, none⟩ = some (.int .i64 d1) → W.cell? ⟨g, 2, none⟩ = some (.int .i64 n2) → W.cell? ⟨g, 3, none⟩ = some (.int .i64 d2) → Calls Tryz.prog 40 #[.slice (some ⟨g, 0, none⟩) 2 2] W fun e w' => e = .returned (.int .i64 0) ∧ Below W.heap.size W w')
    (ho1 : ∀ W, Calls Tryz.prog 41 #[(Value.agg #[.int .i64 n1, .int .i64 d1])] W fun e w' => QR W x e w')
    (ho2 : ∀ W, Calls Tryz.prog 41 #[(Value.agg #[.int .i64 n2, .int .i64 d2])] W fun e w' => QR W y e w')
    (hop : ∀ (A1a : Option Addr) (c1a : Nat) (l1a : List Nat) (m1a : Bool) (A1b : Option Addr) (c1b : Nat) (l1b : List Nat) (m1b : Bool) (A2a : Option Addr) (c2a : Nat) (l2a : List Nat) (m2a : Bool) (A2b : Option Addr) (c2b : Nat) (l2b : List Nat) (m2b : Bool) W, QV W A1a c1a l1a m1a A1b c1b l1b m1b x → QV W A2a c2a l2a m2a A2b c2b l2b m2b y → Calls Tryz.prog 45 #[(Value.agg #[.slice A1a l1a.length c1a, .bool m1a, .slice A1b l1b.length c1b, .bool m1b]), (Value.agg #[.slice A2a l2a.length c2a, .bool m2a, .slice A2b l2b.length c2b, .bool m2b])] W fun e w' => QR W q e w')
    (hto : ∀ (A5 : Option Addr) (c5 : Nat) (l5 : List Nat) (m5 : Bool) (A6 : Option Addr) (c6 : Nat) (l6 : List Nat) (m6 : Bool) W, WholeF W A5 c5 l5 m5 q.num → WholeF W A6 c6 l6 m6 (q.den : Int) → Calls Tryz.prog 42 #[(Value.agg #[.slice A5 l5.length c5, .bool m5, .slice A6 l6.length c6, .bool m6])] W fun e w' => e = .returned (.tuple #[.agg #[.int .i64 rn, .int .i64 rd], .int .i64 re]) ∧ Below W.heap.size W w') :
    Calls Tryz.prog 10 #[.int .i64 2, .agg #[.int .i64 n1, .int .i64 d1], .agg #[.int .i64 n2, .int .i64 d2]] w fun e w' => e = .returned (.tuple #[.agg #[.int .i64 rn, .int .i64 rd], .int .i64 re]) ∧ Below w.heap.size w w' := by
  have HA := hide ha; have HO1 := hide ho1; have HO2 := hide ho2; have HOP := hide hop; have HTO := hide hto
  clear ha ho1 ho2 hop hto
  go_enter Tryz.func10, Tryz.ntmps10
  go_wp2_with fail
  obtain ⟨n0, n1_, n2_, hsz, hw0⟩ := three_new w (.cells #[.int .i64 n1, .int .i64 d1] 23) (.cells #[.int .i64 n2, .int .i64 d2] 23) (.cells #[.int .i64 0, .int .i64 0] 23)
  generalize (((w.alloc (.cells #[.int .i64 n1, .int .i64 d1] 23)).alloc (.cells #[.int .i64 n2, .int .i64 d2] 23)).alloc (.cells #[.int .i64 0, .int .i64 0] 23)) = Wz at *
  have n3_ := heap_alloc_new Wz (.cells #[.int .i64 n1, .int .i64 d1, .int .i64 n2, .int .i64 d2] 23)
  have hwb := (Below.refl Wz.heap.size Wz).alloc (Nat.le_refl _) (.cells #[.int .i64 n1, .int .i64 d1, .int .i64 n2, .int .i64 d2] 23)
  have hgz : Wz.heap.size = w.heap.size + 1 + 1 + 1 := by omega
  rw [hgz] at n3_
  refine ((unhide HA) (w.heap.size + 1 + 1 + 1) (Wz.alloc (.cells #[.int .i64 n1, .int .i64 d1, .int .i64 n2, .int .i64 d2] 23)) (lt_of_block n3_) (cells_of n3_ 0) (cells_of n3_ 1) (cells_of n3_ 2) (cells_of n3_ 3)).mono ?_
  rintro e W0 ⟨rfl, hb0⟩
  replace hb0 := below_step' hwb hb0
  replace n0 := (hb0.block _ (lt_of_block n0)).trans n0
  replace n1_ := (hb0.block _ (lt_of_block n1_)).trans n1_
  replace n2_ := (hb0.block _ (lt_of_block n2_)).trans n2_
  replace hw0 := below_step' hw0 hb0
  clear hb0 hwb n3_ hsz hgz HA
  have q0 := lt_of_block n0
  have k0_0 : W0.cell? ⟨w.heap.size, 0, none⟩ = some (.int .i64 n1) := cells_of n0 0
  have k0_1 : W0.cell? ⟨w.heap.size, 1, none⟩ = some (.int .i64 d1) := cells_of n0 1
  have q1 := lt_of_block n1_
  have k1_0 : W0.cell? ⟨w.heap.size + 1, 0, none⟩ = some (.int .i64 n2) := cells_of n1_ 0
  have k1_1 : W0.cell? ⟨w.heap.size + 1, 1, none⟩ = some (.int .i64 d2) := cells_of n1_ 1
  have q2 := lt_of_block n2_
  have k2_0 : W0.cell? ⟨w.heap.size + 1 + 1, 0, none⟩ = some (.int .i64 0) := cells_of n2_ 0
  have k2_1 : W0.cell? ⟨w.heap.size + 1 + 1, 1, none⟩ = some (.int .i64 0) := cells_of n2_ 1
  have f2_0 := unfrozen_of n2_ 0; have f2_1 := unfrozen_of n2_ 1
  clear n0 n1_ n2_
  go_upto_region 4 with fail
  go_cut [9, 10] (fun s9_ s10_ wx => ∃ b9 b10 : Nat, s9_ = .pointer (some ⟨b9, 0, none⟩) ∧ s10_ = .pointer (some ⟨b10, 0, none⟩) ∧ BoxQ wx b9 x ∧ BoxQ wx b10 y ∧ Below W0.heap.size W0 wx ∧ W0.heap.size ≤ b9 ∧ W0.heap.size ≤ b10)
  case first =>
    have KEEP := hide (show ∀ X, Below W0.heap.size W0 X → X.cell? ⟨w.heap.size, 0, none⟩ = some (.int .i64 n1) ∧ X.cell? ⟨w.heap.size, 1, none⟩ = some (.int .i64 d1) ∧ X.cell? ⟨w.heap.size + 1, 0, none⟩ = some (.int .i64 n2) ∧ X.cell? ⟨w.heap.size + 1, 1, none⟩ = some (.int .i64 d2) from fun X hB => ⟨keep_cell hB q0 k0_0, keep_cell hB q0 k0_1, keep_cell hB q1 k1_0, keep_cell hB q1 k1_1⟩)
    go_region_held3 (fun w' => w'.cell? ⟨w.heap.size, 0, none⟩ = some (.int .i64 n1) ∧ w'.cell? ⟨w.heap.size, 1, none⟩ = some (.int .i64 d1) ∧ w'.cell? ⟨w.heap.size + 1, 0, none⟩ = some (.int .i64 n2) ∧ w'.cell? ⟨w.heap.size + 1, 1, none⟩ = some (.int .i64 d2)) (exact (unhide KEEP) _ (by (repeat (first | with_reducible exact Below.refl _ _ | with_reducible assumption | with_reducible refine Below.drew ?_ | with_reducible refine below_alloc ?_ _ | (with_reducible refine below_set ?_ ?_ _ _; rotate_left; (first | omega | (simp <;> omega))))))) (first | (go_at_call_of 41 (Value.agg #[.int .i64 n1, .int .i64 d1]); refine ((unhide HO1) _).mono ?_; rintro e w' ⟨A1a, c1a, l1a, m1a, A1b, c1b, l1b, m1b, rfl, ha1, hd1, hb1⟩; have hf1 := QV.of ha1 hd1; clear ha1 hd1; have hbw := below_step (w := W0) (by (repeat (first | with_reducible exact Below.refl _ _ | with_reducible assumption | with_reducible refine Below.drew ?_ | with_reducible refine below_alloc ?_ _))) hb1; have hsw := hbw.size; obtain ⟨hc, hfz⟩ := bcell hbw; (try ((first | have u1a : FrQ W0 w' _ := FrQ.below (FrQ.new (by (repeat (first | with_reducible exact Below.refl _ _ | with_reducible assumption | with_reducible refine Below.drew ?_ | with_reducible refine below_alloc ?_ _))) rfl) hb1 | have u1a : FrQ W0 w' _ := FrQ.below (FrQ.drew (FrQ.new (by (repeat (first | with_reducible exact Below.refl _ _ | with_reducible assumption | with_reducible refine Below.drew ?_ | with_reducible refine below_alloc ?_ _))) rfl)) hb1); (try simp only [World.size_alloc] at u1a); (try dsimp only [World.drew] at u1a); (try simp only [World.size_alloc] at u1a); obtain ⟨⟨u1a0, u1a1, u1a2, u1a3⟩, ⟨u1a4, u1a5, u1a6, u1a7⟩, ⟨u1a8, u1a9, u1a10, u1a11⟩, ⟨u1a12, u1a13, u1a14, u1a15⟩, u1a16, u1a17⟩ := FrQ.facts u1a)); (try ((first | have u1b : FrQ W0 w' _ := FrQ.below (FrQ.alloc (FrQ.new (by (repeat (first | with_reducible exact Below.refl _ _ | with_reducible assumption | with_reducible refine Below.drew ?_ | with_reducible refine below_alloc ?_ _))) rfl)) hb1 | have u1b : FrQ W0 w' _ := FrQ.below (FrQ.drew (FrQ.alloc (FrQ.new (by (repeat (first | with_reducible exact Below.refl _ _ | with_reducible assumption | with_reducible refine Below.drew ?_ | with_reducible refine below_alloc ?_ _))) rfl))) hb1); (try simp only [World.size_alloc] at u1b); (try dsimp only [World.drew] at u1b); (try simp only [World.size_alloc] at u1b); obtain ⟨⟨u1b0, u1b1, u1b2, u1b3⟩, ⟨u1b4, u1b5, u1b6, u1b7⟩, ⟨u1b8, u1b9, u1b10, u1b11⟩, ⟨u1b12, u1b13, u1b14, u1b15⟩, u1b16, u1b17⟩ := FrQ.facts u1b))) | (go_at_call_of 41 (Value.agg #[.int .i64 n2, .int .i64 d2]); refine ((unhide HO2) _).mono ?_; rintro e w' ⟨A2a, c2a, l2a, m2a, A2b, c2b, l2b, m2b, rfl, ha2, hd2, hb2⟩; have hf2 := QV.of ha2 hd2; clear ha2 hd2; have hf1 := QV.below (QV.below hf1 (by (repeat (first | with_reducible exact Below.refl _ _ | with_reducible assumption | with_reducible refine Below.drew ?_ | with_reducible refine below_alloc ?_ _)))) hb2; have hbw := below_step (w := W0) (by (repeat (first | with_reducible exact Below.refl _ _ | with_reducible assumption | with_reducible refine Below.drew ?_ | with_reducible refine below_alloc ?_ _))) hb2; have hsw := hbw.size; obtain ⟨hc, hfz⟩ := bcell hbw; (try ((first | have u2a : FrQ W0 w' _ := FrQ.below (FrQ.new (by (repeat (first | with_reducible exact Below.refl _ _ | with_reducible assumption | with_reducible refine Below.drew ?_ | with_reducible refine below_alloc ?_ _))) rfl) hb2 | have u2a : FrQ W0 w' _ := FrQ.below (FrQ.drew (FrQ.new (by (repeat (first | with_reducible exact Below.refl _ _ | with_reducible assumption | with_reducible refine Below.drew ?_ | with_reducible refine below_alloc ?_ _))) rfl)) hb2); (try simp only [World.size_alloc] at u2a); (try dsimp only [World.drew] at u2a); (try simp only [World.size_alloc] at u2a); obtain ⟨⟨u2a0, u2a1, u2a2, u2a3⟩, ⟨u2a4, u2a5, u2a6, u2a7⟩, ⟨u2a8, u2a9, u2a10, u2a11⟩, ⟨u2a12, u2a13, u2a14, u2a15⟩, u2a16, u2a17⟩ := FrQ.facts u2a)); (try ((first | have u2b : FrQ W0 w' _ := FrQ.below (FrQ.alloc (FrQ.new (by (repeat (first | with_reducible exact Below.refl _ _ | with_reducible assumption | with_reducible refine Below.drew ?_ | with_reducible refine below_alloc ?_ _))) rfl)) hb2 | have u2b : FrQ W0 w' _ := FrQ.below (FrQ.drew (FrQ.alloc (FrQ.new (by (repeat (first | with_reducible exact Below.refl _ _ | with_reducible assumption | with_reducible refine Below.drew ?_ | with_reducible refine below_alloc ?_ _))) rfl))) hb2); (try simp only [World.size_alloc] at u2b); (try dsimp only [World.drew] at u2b); (try simp only [World.size_alloc] at u2b); obtain ⟨⟨u2b0, u2b1, u2b2, u2b3⟩, ⟨u2b4, u2b5, u2b6, u2b7⟩, ⟨u2b8, u2b9, u2b10, u2b11⟩, ⟨u2b12, u2b13, u2b14, u2b15⟩, u2b16, u2b17⟩ := FrQ.facts u2b)); (try ((first | have u2c : FrQ W0 w' _ := FrQ.below u1a hb2 | have u2c : FrQ W0 w' _ := FrQ.below (FrQ.alloc u1a) hb2 | have u2c : FrQ W0 w' _ := FrQ.below (FrQ.alloc (FrQ.alloc u1a)) hb2); (try simp only [World.size_alloc] at u2c); (try dsimp only [World.drew] at u2c); (try simp only [World.size_alloc] at u2c); obtain ⟨⟨u2c0, u2c1, u2c2, u2c3⟩, ⟨u2c4, u2c5, u2c6, u2c7⟩, ⟨u2c8, u2c9, u2c10, u2c11⟩, ⟨u2c12, u2c13, u2c14, u2c15⟩, u2c16, u2c17⟩ := FrQ.facts u2c)); (try ((first | have u2d : FrQ W0 w' _ := FrQ.below u1b hb2 | have u2d : FrQ W0 w' _ := FrQ.below (FrQ.alloc u1b) hb2 | have u2d : FrQ W0 w' _ := FrQ.below (FrQ.alloc (FrQ.alloc u1b)) hb2); (try simp only [World.size_alloc] at u2d); (try dsimp only [World.drew] at u2d); (try simp only [World.size_alloc] at u2d); obtain ⟨⟨u2d0, u2d1, u2d2, u2d3⟩, ⟨u2d4, u2d5, u2d6, u2d7⟩, ⟨u2d8, u2d9, u2d10, u2d11⟩, ⟨u2d12, u2d13, u2d14, u2d15⟩, u2d16, u2d17⟩ := FrQ.facts u2d))))
    all_goals (go_wp2_with fail; go_meet; refine ⟨_, _, rfl, rfl, ?_⟩; first | with_reducible exact qput_two ⟨by assumption, by assumption, by first | assumption | omega⟩ hf1 hf2 hbw | with_reducible exact qput_two (FrQ2.newR (by assumption) rfl) hf1.alloc hf2.alloc (below_alloc hbw _) | with_reducible exact qput_two (FrQ2.newL (by assumption) rfl) hf1.alloc hf2.alloc (below_alloc hbw _) | with_reducible exact qput_nn hf1 hf2 hbw rfl rfl | with_reducible exact qput_mm hf1 hf2 hbw rfl rfl | with_reducible exact qput_ns (by assumption) hf1 hf2 hbw rfl)
  case rest =>
    revert hcut
    generalize wc = W1
    intro hcut
    obtain ⟨b9, b10, rfl, rfl, B9, B10, hbx, ob9, ob10⟩ := hcut
    obtain ⟨hc, hfz⟩ := bcell hbx
    replace ob9 : w.heap.size + 1 + 1 < b9 := Nat.lt_of_lt_of_le q2 ob9
    replace ob10 : w.heap.size + 1 + 1 < b10 := Nat.lt_of_lt_of_le q2 ob10
    replace k2_0 := (hc _ _ q2).trans k2_0
    replace f2_0 := (hfz _ _ q2).trans f2_0
    replace k2_1 := (hc _ _ q2).trans k2_1
    replace f2_1 := (hfz _ _ q2).trans f2_1
    replace q2 := Nat.lt_of_lt_of_le q2 hbx.size
    replace hw0 := below_step' hw0 hbx
    clear k0_0 k0_1 k1_0 k1_1 q0 q1
    obtain ⟨A1a, c1a, l1a, m1a, A1b, c1b, l1b, m1b, j1, f1⟩ := B9
    have kb1_0 : W1.cell? ⟨b9, 0, none⟩ = some (.slice A1a l1a.length c1a) := cells_of j1 0
    have kb1_1 : W1.cell? ⟨b9, 1, none⟩ = some (.bool m1a) := cells_of j1 1
    have kb1_2 : W1.cell? ⟨b9, 2, none⟩ = some (.slice A1b l1b.length c1b) := cells_of j1 2
    have kb1_3 : W1.cell? ⟨b9, 3, none⟩ = some (.bool m1b) := cells_of j1 3
    have qb1 := lt_of_block j1
    clear j1
    obtain ⟨A2a, c2a, l2a, m2a, A2b, c2b, l2b, m2b, j2, f2⟩ := B10
    have kb2_0 : W1.cell? ⟨b10, 0, none⟩ = some (.slice A2a l2a.length c2a) := cells_of j2 0
    have kb2_1 : W1.cell? ⟨b10, 1, none⟩ = some (.bool m2a) := cells_of j2 1
    have kb2_2 : W1.cell? ⟨b10, 2, none⟩ = some (.slice A2b l2b.length c2b) := cells_of j2 2
    have kb2_3 : W1.cell? ⟨b10, 3, none⟩ = some (.bool m2b) := cells_of j2 3
    have qb2 := lt_of_block j2
    clear j2
    have F1 := hide f1; have F2 := hide f2
    clear f1 f2 hbx hc hfz
    go_wp2_with fail
    refine ((unhide HOP) A1a c1a l1a m1a A1b c1b l1b m1b A2a c2a l2a m2a A2b c2b l2b m2b W1 (unhide F1) (unhide F2)).mono ?_
    rintro e W3 ⟨A5, c5, l5, m5, A6, c6, l6, m6, rfl, g5, g6, hb⟩
    clear kb1_0 kb1_1 kb1_2 kb1_3 kb2_0 kb2_1 kb2_2 kb2_3 qb1 qb2 F1 F2
    have G5 := hide g5; have G6 := hide g6
    clear g5 g6
    obtain ⟨hc, hfz⟩ := bcell hb
    replace k2_0 := (hc _ _ q2).trans k2_0
    replace f2_0 := (hfz _ _ q2).trans f2_0
    replace k2_1 := (hc _ _ q2).trans k2_1
    replace f2_1 := (hfz _ _ q2).trans f2_1
    replace q2 := Nat.lt_of_lt_of_le q2 hb.size
    replace hw0 := below_step' hw0 hb
    clear hb hc hfz
    go_wp2_with fail
    refine ((unhide HTO) A5 c5 l5 m5 A6 c6 l6 m6 W3 (unhide G5) (unhide G6)).mono ?_
    rintro e W4 ⟨rfl, hb⟩
    obtain ⟨hc, hfz⟩ := bcell hb
    replace k2_0 := (hc _ _ q2).trans k2_0
    replace f2_0 := (hfz _ _ q2).trans f2_0
    replace k2_1 := (hc _ _ q2).trans k2_1
    replace f2_1 := (hfz _ _ q2).trans f2_1
    replace q2 := Nat.lt_of_lt_of_le q2 hb.size
    replace hw0 := below_step' hw0 hb
    clear hb hc hfz
    go_wp2_with fail
    exact bodyPost_ret (v := .tuple #[.agg #[.int .i64 rn, .int .i64 rd], .int .i64 re]) (by simp [results, Tryz.results10, go_sem, k2_0, k2_1, q2]) rfl
      ⟨rfl, hw0.grown (set2_grown _ _ _ _) hw0.size (fun k hk => by injection hk with hk; omega)⟩

end Go.Proofs.YtmahhmdodfimbaaGreatDoor
/- The walk through the reference: two numbers put together (Div) and told. -/
namespace Go.Proofs.YtmahhmdodfimbaaGreatDoor
open Go.RowKit

set_option maxRecDepth 100000 in
set_option maxHeartbeats 16000000 in
theorem do_walk3 (n1 d1 n2 d2 rn rd re : Int) (x y q : Rat) (w : World)
    (ha : ∀ g W, g < W.heap.size → W.cell? ⟨g, 0, none⟩ = some (.int .i64 n1) → W.cell? ⟨g, 1, none⟩ = some (.int .i64 d1) → W.cell? ⟨g, 2, none⟩ = some (.int .i64 n2) → W.cell? ⟨g, 3, none⟩ = some (.int .i64 d2) → Calls Tryz.prog 40 #[.slice (some ⟨g, 0, none⟩) 2 2] W fun e w' => e = .returned (.int .i64 0) ∧ Below W.heap.size W w')
    (ho1 : ∀ W, Calls Tryz.prog 41 #[(Value.agg #[.int .i64 n1, .int .i64 d1])] W fun e w' => QR W x e w')
    (ho2 : ∀ W, Calls Tryz.prog 41 #[(Value.agg #[.int .i64 n2, .int .i64 d2])] W fun e w' => QR W y e w')
    (hop : ∀ (A1a : Option Addr) (c1a : Nat) (l1a : List Nat) (m1a : Bool) (A1b : Option Addr) (c1b : Nat) (l1b : List Nat) (m1b : Bool) (A2a : Option Addr) (c2a : Nat) (l2a : List Nat) (m2a : Bool) (A2b : Option Addr) (c2b : Nat) (l2b : List Nat) (m2b : Bool) W, QV W A1a c1a l1a m1a A1b c1b l1b m1b x → QV W A2a c2a l2a m2a A2b c2b l2b m2b y → Calls Tryz.prog 47 #[(Value.agg #[.slice A1a l1a.length c1a, .bool m1a, .slice A1b l1b.length c1b, .bool m1b]), (Value.agg #[.slice A2a l2a.length c2a, .bool m2a, .slice A2b l2b.length c2b, .bool m2b])] W fun e w' => QR W q e w')
    (hto : ∀ (A5 : Option Addr) (c5 : Nat) (l5 : List Nat) (m5 : Bool) (A6 : Option Addr) (c6 : Nat) (l6 : List Nat) (m6 : Bool) W, WholeF W A5 c5 l5 m5 q.num → WholeF W A6 c6 l6 m6 (q.den : Int) → Calls Tryz.prog 42 #[(Value.agg #[.slice A5 l5.length c5, .bool m5, .slice A6 l6.length c6, .bool m6])] W fun e w' => e = .returned (.tuple #[.agg #[.int .i64 rn, .int .i64 rd], .int .i64 re]) ∧ Below W.heap.size W w')
    (hz : ∀ (A1a : Option Addr) (c1a : Nat) (l1a : List Nat) (m1a : Bool) (A1b : Option Addr) (c1b : Nat) (l1b : List Nat) (m1b : Bool) W, QV W A1a c1a l1a m1a A1b c1b l1b m1b y → Calls Tryz.prog 46 #[(Value.agg #[.slice A1a l1a.length c1a, .bool m1a, .slice A1b l1b.length c1b, .bool m1b])] W fun e w' => e = .returned (.bool false) ∧ Below W.heap.size W w') :
    Calls Tryz.prog 10 #[.int .i64 3, .agg #[.int .i64 n1, .int .i64 d1], .agg #[.int .i64 n2, .int .i64 d2]] w fun e w' => e = .returned (.tuple #[.agg #[.int .i64 rn, .int .i64 rd], .int .i64 re]) ∧ Below w.heap.size w w' := by
  have HA := hide ha; have HO1 := hide ho1; have HO2 := hide ho2; have HOP := hide hop; have HTO := hide hto; have HZ := hide hz
  clear ha ho1 ho2 hop hto hz
  go_enter Tryz.func10, Tryz.ntmps10
  go_wp2_with fail
  obtain ⟨n0, n1_, n2_, hsz, hw0⟩ := three_new w (.cells #[.int .i64 n1, .int .i64 d1] 23) (.cells #[.int .i64 n2, .int .i64 d2] 23) (.cells #[.int .i64 0, .int .i64 0] 23)
  generalize (((w.alloc (.cells #[.int .i64 n1, .int .i64 d1] 23)).alloc (.cells #[.int .i64 n2, .int .i64 d2] 23)).alloc (.cells #[.int .i64 0, .int .i64 0] 23)) = Wz at *
  have n3_ := heap_alloc_new Wz (.cells #[.int .i64 n1, .int .i64 d1, .int .i64 n2, .int .i64 d2] 23)
  have hwb := (Below.refl Wz.heap.size Wz).alloc (Nat.le_refl _) (.cells #[.int .i64 n1, .int .i64 d1, .int .i64 n2, .int .i64 d2] 23)
  have hgz : Wz.heap.size = w.heap.size + 1 + 1 + 1 := by omega
  rw [hgz] at n3_
  refine ((unhide HA) (w.heap.size + 1 + 1 + 1) (Wz.alloc (.cells #[.int .i64 n1, .int .i64 d1, .int .i64 n2, .int .i64 d2] 23)) (lt_of_block n3_) (cells_of n3_ 0) (cells_of n3_ 1) (cells_of n3_ 2) (cells_of n3_ 3)).mono ?_
  rintro e W0 ⟨rfl, hb0⟩
  replace hb0 := below_step' hwb hb0
  replace n0 := (hb0.block _ (lt_of_block n0)).trans n0
  replace n1_ := (hb0.block _ (lt_of_block n1_)).trans n1_
  replace n2_ := (hb0.block _ (lt_of_block n2_)).trans n2_
  replace hw0 := below_step' hw0 hb0
  clear hb0 hwb n3_ hsz hgz HA
  have q0 := lt_of_block n0
  have k0_0 : W0.cell? ⟨w.heap.size, 0, none⟩ = some (.int .i64 n1) := cells_of n0 0
  have k0_1 : W0.cell? ⟨w.heap.size, 1, none⟩ = some (.int .i64 d1) := cells_of n0 1
  have q1 := lt_of_block n1_
  have k1_0 : W0.cell? ⟨w.heap.size + 1, 0, none⟩ = some (.int .i64 n2) := cells_of n1_ 0
  have k1_1 : W0.cell? ⟨w.heap.size + 1, 1, none⟩ = some (.int .i64 d2) := cells_of n1_ 1
  have q2 := lt_of_block n2_
  have k2_0 : W0.cell? ⟨w.heap.size + 1 + 1, 0, none⟩ = some (.int .i64 0) := cells_of n2_ 0
  have k2_1 : W0.cell? ⟨w.heap.size + 1 + 1, 1, none⟩ = some (.int .i64 0) := cells_of n2_ 1
  have f2_0 := unfrozen_of n2_ 0; have f2_1 := unfrozen_of n2_ 1
  clear n0 n1_ n2_
  go_upto_region 4 with fail
  go_cut [9, 10] (fun s9_ s10_ wx => ∃ b9 b10 : Nat, s9_ = .pointer (some ⟨b9, 0, none⟩) ∧ s10_ = .pointer (some ⟨b10, 0, none⟩) ∧ BoxQ wx b9 x ∧ BoxQ wx b10 y ∧ Below W0.heap.size W0 wx ∧ W0.heap.size ≤ b9 ∧ W0.heap.size ≤ b10)
  case first =>
    have KEEP := hide (show ∀ X, Below W0.heap.size W0 X → X.cell? ⟨w.heap.size, 0, none⟩ = some (.int .i64 n1) ∧ X.cell? ⟨w.heap.size, 1, none⟩ = some (.int .i64 d1) ∧ X.cell? ⟨w.heap.size + 1, 0, none⟩ = some (.int .i64 n2) ∧ X.cell? ⟨w.heap.size + 1, 1, none⟩ = some (.int .i64 d2) from fun X hB => ⟨keep_cell hB q0 k0_0, keep_cell hB q0 k0_1, keep_cell hB q1 k1_0, keep_cell hB q1 k1_1⟩)
    go_region_held3 (fun w' => w'.cell? ⟨w.heap.size, 0, none⟩ = some (.int .i64 n1) ∧ w'.cell? ⟨w.heap.size, 1, none⟩ = some (.int .i64 d1) ∧ w'.cell? ⟨w.heap.size + 1, 0, none⟩ = some (.int .i64 n2) ∧ w'.cell? ⟨w.heap.size + 1, 1, none⟩ = some (.int .i64 d2)) (exact (unhide KEEP) _ (by (repeat (first | with_reducible exact Below.refl _ _ | with_reducible assumption | with_reducible refine Below.drew ?_ | with_reducible refine below_alloc ?_ _ | (with_reducible refine below_set ?_ ?_ _ _; rotate_left; (first | omega | (simp <;> omega))))))) (first | (go_at_call_of 41 (Value.agg #[.int .i64 n1, .int .i64 d1]); refine ((unhide HO1) _).mono ?_; rintro e w' ⟨A1a, c1a, l1a, m1a, A1b, c1b, l1b, m1b, rfl, ha1, hd1, hb1⟩; have hf1 := QV.of ha1 hd1; clear ha1 hd1; have hbw := below_step (w := W0) (by (repeat (first | with_reducible exact Below.refl _ _ | with_reducible assumption | with_reducible refine Below.drew ?_ | with_reducible refine below_alloc ?_ _))) hb1; have hsw := hbw.size; obtain ⟨hc, hfz⟩ := bcell hbw; (try ((first | have u1a : FrQ W0 w' _ := FrQ.below (FrQ.new (by (repeat (first | with_reducible exact Below.refl _ _ | with_reducible assumption | with_reducible refine Below.drew ?_ | with_reducible refine below_alloc ?_ _))) rfl) hb1 | have u1a : FrQ W0 w' _ := FrQ.below (FrQ.drew (FrQ.new (by (repeat (first | with_reducible exact Below.refl _ _ | with_reducible assumption | with_reducible refine Below.drew ?_ | with_reducible refine below_alloc ?_ _))) rfl)) hb1); (try simp only [World.size_alloc] at u1a); (try dsimp only [World.drew] at u1a); (try simp only [World.size_alloc] at u1a); obtain ⟨⟨u1a0, u1a1, u1a2, u1a3⟩, ⟨u1a4, u1a5, u1a6, u1a7⟩, ⟨u1a8, u1a9, u1a10, u1a11⟩, ⟨u1a12, u1a13, u1a14, u1a15⟩, u1a16, u1a17⟩ := FrQ.facts u1a)); (try ((first | have u1b : FrQ W0 w' _ := FrQ.below (FrQ.alloc (FrQ.new (by (repeat (first | with_reducible exact Below.refl _ _ | with_reducible assumption | with_reducible refine Below.drew ?_ | with_reducible refine below_alloc ?_ _))) rfl)) hb1 | have u1b : FrQ W0 w' _ := FrQ.below (FrQ.drew (FrQ.alloc (FrQ.new (by (repeat (first | with_reducible exact Below.refl _ _ | with_reducible assumption | with_reducible refine Below.drew ?_ | with_reducible refine below_alloc ?_ _))) rfl))) hb1); (try simp only [World.size_alloc] at u1b); (try dsimp only [World.drew] at u1b); (try simp only [World.size_alloc] at u1b); obtain ⟨⟨u1b0, u1b1, u1b2, u1b3⟩, ⟨u1b4, u1b5, u1b6, u1b7⟩, ⟨u1b8, u1b9, u1b10, u1b11⟩, ⟨u1b12, u1b13, u1b14, u1b15⟩, u1b16, u1b17⟩ := FrQ.facts u1b))) | (go_at_call_of 41 (Value.agg #[.int .i64 n2, .int .i64 d2]); refine ((unhide HO2) _).mono ?_; rintro e w' ⟨A2a, c2a, l2a, m2a, A2b, c2b, l2b, m2b, rfl, ha2, hd2, hb2⟩; have hf2 := QV.of ha2 hd2; clear ha2 hd2; have hf1 := QV.below (QV.below hf1 (by (repeat (first | with_reducible exact Below.refl _ _ | with_reducible assumption | with_reducible refine Below.drew ?_ | with_reducible refine below_alloc ?_ _)))) hb2; have hbw := below_step (w := W0) (by (repeat (first | with_reducible exact Below.refl _ _ | with_reducible assumption | with_reducible refine Below.drew ?_ | with_reducible refine below_alloc ?_ _))) hb2; have hsw := hbw.size; obtain ⟨hc, hfz⟩ := bcell hbw; (try ((first | have u2a : FrQ W0 w' _ := FrQ.below (FrQ.new (by (repeat (first | with_reducible exact Below.refl _ _ | with_reducible assumption | with_reducible refine Below.drew ?_ | with_reducible refine below_alloc ?_ _))) rfl) hb2 | have u2a : FrQ W0 w' _ := FrQ.below (FrQ.drew (FrQ.new (by (repeat (first | with_reducible exact Below.refl _ _ | with_reducible assumption | with_reducible refine Below.drew ?_ | with_reducible refine below_alloc ?_ _))) rfl)) hb2); (try simp only [World.size_alloc] at u2a); (try dsimp only [World.drew] at u2a); (try simp only [World.size_alloc] at u2a); obtain ⟨⟨u2a0, u2a1, u2a2, u2a3⟩, ⟨u2a4, u2a5, u2a6, u2a7⟩, ⟨u2a8, u2a9, u2a10, u2a11⟩, ⟨u2a12, u2a13, u2a14, u2a15⟩, u2a16, u2a17⟩ := FrQ.facts u2a)); (try ((first | have u2b : FrQ W0 w' _ := FrQ.below (FrQ.alloc (FrQ.new (by (repeat (first | with_reducible exact Below.refl _ _ | with_reducible assumption | with_reducible refine Below.drew ?_ | with_reducible refine below_alloc ?_ _))) rfl)) hb2 | have u2b : FrQ W0 w' _ := FrQ.below (FrQ.drew (FrQ.alloc (FrQ.new (by (repeat (first | with_reducible exact Below.refl _ _ | with_reducible assumption | with_reducible refine Below.drew ?_ | with_reducible refine below_alloc ?_ _))) rfl))) hb2); (try simp only [World.size_alloc] at u2b); (try dsimp only [World.drew] at u2b); (try simp only [World.size_alloc] at u2b); obtain ⟨⟨u2b0, u2b1, u2b2, u2b3⟩, ⟨u2b4, u2b5, u2b6, u2b7⟩, ⟨u2b8, u2b9, u2b10, u2b11⟩, ⟨u2b12, u2b13, u2b14, u2b15⟩, u2b16, u2b17⟩ := FrQ.facts u2b)); (try ((first | have u2c : FrQ W0 w' _ := FrQ.below u1a hb2 | have u2c : FrQ W0 w' _ := FrQ.below (FrQ.alloc u1a) hb2 | have u2c : FrQ W0 w' _ := FrQ.below (FrQ.alloc (FrQ.alloc u1a)) hb2); (try simp only [World.size_alloc] at u2c); (try dsimp only [World.drew] at u2c); (try simp only [World.size_alloc] at u2c); obtain ⟨⟨u2c0, u2c1, u2c2, u2c3⟩, ⟨u2c4, u2c5, u2c6, u2c7⟩, ⟨u2c8, u2c9, u2c10, u2c11⟩, ⟨u2c12, u2c13, u2c14, u2c15⟩, u2c16, u2c17⟩ := FrQ.facts u2c)); (try ((first | have u2d : FrQ W0 w' _ := FrQ.below u1b hb2 | have u2d : FrQ W0 w' _ := FrQ.below (FrQ.alloc u1b) hb2 | have u2d : FrQ W0 w' _ := FrQ.below (FrQ.alloc (FrQ.alloc u1b)) hb2); (try simp only [World.size_alloc] at u2d); (try dsimp only [World.drew] at u2d); (try simp only [World.size_alloc] at u2d); obtain ⟨⟨u2d0, u2d1, u2d2, u2d3⟩, ⟨u2d4, u2d5, u2d6, u2d7⟩, ⟨u2d8, u2d9, u2d10, u2d11⟩, ⟨u2d12, u2d13, u2d14, u2d15⟩, u2d16, u2d17⟩ := FrQ.facts u2d))))
    all_goals (go_wp2_with fail; go_meet; refine ⟨_, _, rfl, rfl, ?_⟩; first | with_reducible exact qput_two ⟨by assumption, by assumption, by first | assumption | omega⟩ hf1 hf2 hbw | with_reducible exact qput_two (FrQ2.newR (by assumption) rfl) hf1.alloc hf2.alloc (below_alloc hbw _) | with_reducible exact qput_two (FrQ2.newL (by assumption) rfl) hf1.alloc hf2.alloc (below_alloc hbw _) | with_reducible exact qput_nn hf1 hf2 hbw rfl rfl | with_reducible exact qput_mm hf1 hf2 hbw rfl rfl | with_reducible exact qput_ns (by assumption) hf1 hf2 hbw rfl)
  case rest =>
    revert hcut
    generalize wc = W1
    intro hcut
    obtain ⟨b9, b10, rfl, rfl, B9, B10, hbx, ob9, ob10⟩ := hcut
    obtain ⟨hc, hfz⟩ := bcell hbx
    replace ob9 : w.heap.size + 1 + 1 < b9 := Nat.lt_of_lt_of_le q2 ob9
    replace ob10 : w.heap.size + 1 + 1 < b10 := Nat.lt_of_lt_of_le q2 ob10
    replace k2_0 := (hc _ _ q2).trans k2_0
    replace f2_0 := (hfz _ _ q2).trans f2_0
    replace k2_1 := (hc _ _ q2).trans k2_1
    replace f2_1 := (hfz _ _ q2).trans f2_1
    replace q2 := Nat.lt_of_lt_of_le q2 hbx.size
    replace hw0 := below_step' hw0 hbx
    clear k0_0 k0_1 k1_0 k1_1 q0 q1
    obtain ⟨A1a, c1a, l1a, m1a, A1b, c1b, l1b, m1b, j1, f1⟩ := B9
    have kb1_0 : W1.cell? ⟨b9, 0, none⟩ = some (.slice A1a l1a.length c1a) := cells_of j1 0
    have kb1_1 : W1.cell? ⟨b9, 1, none⟩ = some (.bool m1a) := cells_of j1 1
    have kb1_2 : W1.cell? ⟨b9, 2, none⟩ = some (.slice A1b l1b.length c1b) := cells_of j1 2
    have kb1_3 : W1.cell? ⟨b9, 3, none⟩ = some (.bool m1b) := cells_of j1 3
    have qb1 := lt_of_block j1
    clear j1
    obtain ⟨A2a, c2a, l2a, m2a, A2b, c2b, l2b, m2b, j2, f2⟩ := B10
    have kb2_0 : W1.cell? ⟨b10, 0, none⟩ = some (.slice A2a l2a.length c2a) := cells_of j2 0
    have kb2_1 : W1.cell? ⟨b10, 1, none⟩ = some (.bool m2a) := cells_of j2 1
    have kb2_2 : W1.cell? ⟨b10, 2, none⟩ = some (.slice A2b l2b.length c2b) := cells_of j2 2
    have kb2_3 : W1.cell? ⟨b10, 3, none⟩ = some (.bool m2b) := cells_of j2 3
    have qb2 := lt_of_block j2
    clear j2
    have F1 := hide f1; have F2 := hide f2
    clear f1 f2 hbx hc hfz
    go_wp2_with fail
    refine ((unhide HZ) A2a c2a l2a m2a A2b c2b l2b m2b W1 (unhide F2)).mono ?_
    rintro e W2 ⟨rfl, hb⟩
    obtain ⟨hc, hfz⟩ := bcell hb
    replace kb1_0 := (hc _ _ qb1).trans kb1_0
    replace kb1_1 := (hc _ _ qb1).trans kb1_1
    replace kb1_2 := (hc _ _ qb1).trans kb1_2
    replace kb1_3 := (hc _ _ qb1).trans kb1_3
    replace qb1 := Nat.lt_of_lt_of_le qb1 hb.size
    replace kb2_0 := (hc _ _ qb2).trans kb2_0
    replace kb2_1 := (hc _ _ qb2).trans kb2_1
    replace kb2_2 := (hc _ _ qb2).trans kb2_2
    replace kb2_3 := (hc _ _ qb2).trans kb2_3
    replace qb2 := Nat.lt_of_lt_of_le qb2 hb.size
    replace F1 := hide ((unhide F1).below hb)
    replace F2 := hide ((unhide F2).below hb)
    replace k2_0 := (hc _ _ q2).trans k2_0
    replace f2_0 := (hfz _ _ q2).trans f2_0
    replace k2_1 := (hc _ _ q2).trans k2_1
    replace f2_1 := (hfz _ _ q2).trans f2_1
    replace q2 := Nat.lt_of_lt_of_le q2 hb.size
    replace hw0 := below_step' hw0 hb
    clear hb hc hfz
    go_wp2_with fail
    refine ((unhide HOP) A1a c1a l1a m1a A1b c1b l1b m1b A2a c2a l2a m2a A2b c2b l2b m2b W2 (unhide F1) (unhide F2)).mono ?_
    rintro e W3 ⟨A5, c5, l5, m5, A6, c6, l6, m6, rfl, g5, g6, hb⟩
    clear kb1_0 kb1_1 kb1_2 kb1_3 kb2_0 kb2_1 kb2_2 kb2_3 qb1 qb2 F1 F2
    have G5 := hide g5; have G6 := hide g6
    clear g5 g6
    obtain ⟨hc, hfz⟩ := bcell hb
    replace k2_0 := (hc _ _ q2).trans k2_0
    replace f2_0 := (hfz _ _ q2).trans f2_0
    replace k2_1 := (hc _ _ q2).trans k2_1
    replace f2_1 := (hfz _ _ q2).trans f2_1
    replace q2 := Nat.lt_of_lt_of_le q2 hb.size
    replace hw0 := below_step' hw0 hb
    clear hb hc hfz
    go_wp2_with fail
    refine ((unhide HTO) A5 c5 l5 m5 A6 c6 l6 m6 W3 (unhide G5) (unhide G6)).mono ?_
    rintro e W4 ⟨rfl, hb⟩
    obtain ⟨hc, hfz⟩ := bcell hb
    replace k2_0 := (hc _ _ q2).trans k2_0
    replace f2_0 := (hfz _ _ q2).trans f2_0
    replace k2_1 := (hc _ _ q2).trans k2_1
    replace f2_1 := (hfz _ _ q2).trans f2_1
    replace q2 := Nat.lt_of_lt_of_le q2 hb.size
    replace hw0 := below_step' hw0 hb
    clear hb hc hfz
    go_wp2_with fail
    exact bodyPost_ret (v := .tuple #[.agg #[.int .i64 rn, .int .i64 rd], .int .i64 re]) (by simp [results, Tryz.results10, go_sem, k2_0, k2_1, q2]) rfl
      ⟨rfl, hw0.grown (set2_grown _ _ _ _) hw0.size (fun k hk => by injection hk with hk; omega)⟩

end Go.Proofs.YtmahhmdodfimbaaGreatDoor
/- The walk through the sum of two integers as numbers of the reference. -/
namespace Go.Proofs.YtmahhmdodfimbaaGreatDoor
open Go.RowKit

set_option maxRecDepth 100000 in
set_option maxHeartbeats 16000000 in
theorem qadd_tt (A1 : Option Addr) (c1 : Nat) (l1 : List Nat) (m1 : Bool) (A2 : Option Addr) (c2 : Nat) (l2 : List Nat) (m2 : Bool) (A3 : Option Addr) (c3 : Nat) (l3 : List Nat) (m3 : Bool) (A4 : Option Addr) (c4 : Nat) (l4 : List Nat) (m4 : Bool) (z1 b1 z3 b3 n : Int) (q : Rat) (w : World) (f1 : WholeF w A1 c1 l1 m1 z1) (f3 : WholeF w A3 c3 l3 m3 z3)
    (hd1 : ∀ W, Below w.heap.size w W → Calls Tryz.prog 95 #[(Value.agg #[.slice A1 l1.length c1, .bool m1, .slice A2 l2.length c2, .bool m2])] W fun e w' => WholeR W b1 e w') (hd3 : ∀ W, Below w.heap.size w W → Calls Tryz.prog 95 #[(Value.agg #[.slice A3 l3.length c3, .bool m3, .slice A4 l4.length c4, .bool m4])] W fun e w' => WholeR W b3 e w')
    (ho1 : ∀ (A7 : Option Addr) (c7 : Nat) (l7 : List Nat) (m7 : Bool) (W : World), Below w.heap.size w W → WholeF W A7 c7 l7 m7 b1 → Calls Tryz.prog 96 #[(Value.agg #[.slice A7 l7.length c7, .bool m7])] W fun e w' => e = .returned (.bool true) ∧ Below W.heap.size W w') (ho3 : ∀ (A7 : Option Addr) (c7 : Nat) (l7 : List Nat) (m7 : Bool) (W : World), Below w.heap.size w W → WholeF W A7 c7 l7 m7 b3 → Calls Tryz.prog 96 #[(Value.agg #[.slice A7 l7.length c7, .bool m7])] W fun e w' => e = .returned (.bool true) ∧ Below W.heap.size W w') (hn : OpW2 w 97 z1 z3 n) (hnum : n = q.num) (hden : b1 = (q.den : Int)) :
    Calls Tryz.prog 43 #[(Value.agg #[.slice A1 l1.length c1, .bool m1, .slice A2 l2.length c2, .bool m2]), (Value.agg #[.slice A3 l3.length c3, .bool m3, .slice A4 l4.length c4, .bool m4])] w fun e w' => QR w q e w' := by
  have H1 := hide f1
  have H3 := hide f3
  clear f1 f3
  have HD1 := hide hd1
  have HD3 := hide hd3
  have HO1 := hide ho1
  have HO3 := hide ho3
  have HN := hide hn
  clear hd1 hd3 ho1 ho3 hn
  go_enter Tryz.func43, Tryz.ntmps43
  go_upto_region 1 with fail
  obtain ⟨n0, n1, n2, hsz, hw0⟩ := three_new w (.cells #[.slice A1 l1.length c1, .bool m1, .slice A2 l2.length c2, .bool m2] 52) (.cells #[.slice A3 l3.length c3, .bool m3, .slice A4 l4.length c4, .bool m4] 52) (.cells #[.slice none 0 0, .bool false, .slice none 0 0, .bool false] 52)
  generalize (((w.alloc (.cells #[.slice A1 l1.length c1, .bool m1, .slice A2 l2.length c2, .bool m2] 52)).alloc (.cells #[.slice A3 l3.length c3, .bool m3, .slice A4 l4.length c4, .bool m4] 52)).alloc (.cells #[.slice none 0 0, .bool false, .slice none 0 0, .bool false] 52)) = W0 at *
  have k0_0 : W0.cell? ⟨w.heap.size, 0, none⟩ = some (.slice A1 l1.length c1) := cells_of n0 0
  have k0_1 : W0.cell? ⟨w.heap.size, 1, none⟩ = some (.bool m1) := cells_of n0 1
  have k0_2 : W0.cell? ⟨w.heap.size, 2, none⟩ = some (.slice A2 l2.length c2) := cells_of n0 2
  have k0_3 : W0.cell? ⟨w.heap.size, 3, none⟩ = some (.bool m2) := cells_of n0 3
  have q0 : w.heap.size < W0.heap.size := by omega
  have k1_0 : W0.cell? ⟨w.heap.size + 1, 0, none⟩ = some (.slice A3 l3.length c3) := cells_of n1 0
  have k1_1 : W0.cell? ⟨w.heap.size + 1, 1, none⟩ = some (.bool m3) := cells_of n1 1
  have k1_2 : W0.cell? ⟨w.heap.size + 1, 2, none⟩ = some (.slice A4 l4.length c4) := cells_of n1 2
  have k1_3 : W0.cell? ⟨w.heap.size + 1, 3, none⟩ = some (.bool m4) := cells_of n1 3
  have q1 : w.heap.size + 1 < W0.heap.size := by omega
  have k2_0 : W0.cell? ⟨w.heap.size + 1 + 1, 0, none⟩ = some (.slice none 0 0) := cells_of n2 0
  have k2_1 : W0.cell? ⟨w.heap.size + 1 + 1, 1, none⟩ = some (.bool false) := cells_of n2 1
  have k2_2 : W0.cell? ⟨w.heap.size + 1 + 1, 2, none⟩ = some (.slice none 0 0) := cells_of n2 2
  have k2_3 : W0.cell? ⟨w.heap.size + 1 + 1, 3, none⟩ = some (.bool false) := cells_of n2 3
  have q2 : w.heap.size + 1 + 1 < W0.heap.size := by omega
  have f2_0 := unfrozen_of n2 0
  have f2_1 := unfrozen_of n2 1
  have f2_2 := unfrozen_of n2 2
  have f2_3 := unfrozen_of n2 3
  have NR := Lib.hid n2
  clear hsz n0 n1 n2
  replace H1 := hide ((unhide H1).below hw0)
  replace H3 := hide ((unhide H3).below hw0)
  go_upto_region 1 with fail
  go_cut [5, 6] (fun s5_ s6_ wx => ∃ b5 b6 : Nat, s5_ = .pointer (some ⟨b5, 0, none⟩) ∧ s6_ = .pointer (some ⟨b6, 0, none⟩) ∧ BoxW wx b5 b1 ∧ BoxW wx b6 b3 ∧ Below W0.heap.size W0 wx ∧ W0.heap.size ≤ b5 ∧ W0.heap.size ≤ b6)
  case first =>
    have KEEP := hide (show ∀ X, Below W0.heap.size W0 X → X.cell? ⟨w.heap.size, 0, none⟩ = some (.slice A1 l1.length c1) ∧ X.cell? ⟨w.heap.size, 1, none⟩ = some (.bool m1) ∧ X.cell? ⟨w.heap.size, 2, none⟩ = some (.slice A2 l2.length c2) ∧ X.cell? ⟨w.heap.size, 3, none⟩ = some (.bool m2) ∧ X.cell? ⟨w.heap.size + 1, 0, none⟩ = some (.slice A3 l3.length c3) ∧ X.cell? ⟨w.heap.size + 1, 1, none⟩ = some (.bool m3) ∧ X.cell? ⟨w.heap.size + 1, 2, none⟩ = some (.slice A4 l4.length c4) ∧ X.cell? ⟨w.heap.size + 1, 3, none⟩ = some (.bool m4) from fun X hB => ⟨keep_cell hB q0 k0_0, keep_cell hB q0 k0_1, keep_cell hB q0 k0_2, keep_cell hB q0 k0_3, keep_cell hB q1 k1_0, keep_cell hB q1 k1_1, keep_cell hB q1 k1_2, keep_cell hB q1 k1_3⟩)
    go_region_held3 (fun w' => w'.cell? ⟨w.heap.size, 0, none⟩ = some (.slice A1 l1.length c1) ∧ w'.cell? ⟨w.heap.size, 1, none⟩ = some (.bool m1) ∧ w'.cell? ⟨w.heap.size, 2, none⟩ = some (.slice A2 l2.length c2) ∧ w'.cell? ⟨w.heap.size, 3, none⟩ = some (.bool m2) ∧ w'.cell? ⟨w.heap.size + 1, 0, none⟩ = some (.slice A3 l3.length c3) ∧ w'.cell? ⟨w.heap.size + 1, 1, none⟩ = some (.bool m3) ∧ w'.cell? ⟨w.heap.size + 1, 2, none⟩ = some (.slice A4 l4.length c4) ∧ w'.cell? ⟨w.heap.size + 1, 3, none⟩ = some (.bool m4)) (exact (unhide KEEP) _ (by (repeat (first | with_reducible exact Below.refl _ _ | with_reducible assumption | with_reducible refine Below.drew ?_ | with_reducible refine below_alloc ?_ _ | (with_reducible refine below_set ?_ ?_ _ _; rotate_left; (first | omega | (simp <;> omega))))))) (first | (go_at_call_of 95 (Value.agg #[.slice A1 l1.length c1, .bool m1, .slice A2 l2.length c2, .bool m2]); refine ((unhide HD1) _ (below_step' hw0 (by (repeat (first | with_reducible exact Below.refl _ _ | with_reducible assumption | with_reducible refine Below.drew ?_ | with_reducible refine below_alloc ?_ _))))).mono ?_; rintro e w' ⟨A5, c5, l5, m5, rfl, hf5, hb5⟩; have hbw := below_step (w := W0) (by (repeat (first | with_reducible exact Below.refl _ _ | with_reducible assumption | with_reducible refine Below.drew ?_ | with_reducible refine below_alloc ?_ _))) hb5; have hsw := hbw.size; obtain ⟨hc, hfz⟩ := bcell hbw; (try ((first | have u5a : FrW W0 w' _ := FrW.below (FrW.new (by (repeat (first | with_reducible exact Below.refl _ _ | with_reducible assumption | with_reducible refine Below.drew ?_ | with_reducible refine below_alloc ?_ _))) rfl) hb5 | have u5a : FrW W0 w' _ := FrW.below (FrW.drew (FrW.new (by (repeat (first | with_reducible exact Below.refl _ _ | with_reducible assumption | with_reducible refine Below.drew ?_ | with_reducible refine below_alloc ?_ _))) rfl)) hb5); (try simp only [World.size_alloc] at u5a); (try dsimp only [World.drew] at u5a); (try simp only [World.size_alloc] at u5a); obtain ⟨⟨u5a1, u5a2⟩, ⟨u5a3, u5a4⟩, ⟨u5a5, u5a6⟩, ⟨u5a7, u5a8⟩, u5a9, u5a10⟩ := FrW.facts u5a)); (try ((first | have u5b : FrW W0 w' _ := FrW.below (FrW.alloc (FrW.new (by (repeat (first | with_reducible exact Below.refl _ _ | with_reducible assumption | with_reducible refine Below.drew ?_ | with_reducible refine below_alloc ?_ _))) rfl)) hb5 | have u5b : FrW W0 w' _ := FrW.below (FrW.drew (FrW.alloc (FrW.new (by (repeat (first | with_reducible exact Below.refl _ _ | with_reducible assumption | with_reducible refine Below.drew ?_ | with_reducible refine below_alloc ?_ _))) rfl))) hb5); (try simp only [World.size_alloc] at u5b); (try dsimp only [World.drew] at u5b); (try simp only [World.size_alloc] at u5b); obtain ⟨⟨u5b1, u5b2⟩, ⟨u5b3, u5b4⟩, ⟨u5b5, u5b6⟩, ⟨u5b7, u5b8⟩, u5b9, u5b10⟩ := FrW.facts u5b))) | (go_at_call_of 95 (Value.agg #[.slice A3 l3.length c3, .bool m3, .slice A4 l4.length c4, .bool m4]); refine ((unhide HD3) _ (below_step' hw0 (by (repeat (first | with_reducible exact Below.refl _ _ | with_reducible assumption | with_reducible refine Below.drew ?_ | with_reducible refine below_alloc ?_ _))))).mono ?_; rintro e w' ⟨A6, c6, l6, m6, rfl, hf6, hb6⟩; have hf5 := WholeF.below (WholeF.below hf5 (by (repeat (first | with_reducible exact Below.refl _ _ | with_reducible assumption | with_reducible refine Below.drew ?_ | with_reducible refine below_alloc ?_ _)))) hb6; have hbw := below_step (w := W0) (by (repeat (first | with_reducible exact Below.refl _ _ | with_reducible assumption | with_reducible refine Below.drew ?_ | with_reducible refine below_alloc ?_ _))) hb6; have hsw := hbw.size; obtain ⟨hc, hfz⟩ := bcell hbw; (try ((first | have u6a : FrW W0 w' _ := FrW.below (FrW.new (by (repeat (first | with_reducible exact Below.refl _ _ | with_reducible assumption | with_reducible refine Below.drew ?_ | with_reducible refine below_alloc ?_ _))) rfl) hb6 | have u6a : FrW W0 w' _ := FrW.below (FrW.drew (FrW.new (by (repeat (first | with_reducible exact Below.refl _ _ | with_reducible assumption | with_reducible refine Below.drew ?_ | with_reducible refine below_alloc ?_ _))) rfl)) hb6); (try simp only [World.size_alloc] at u6a); (try dsimp only [World.drew] at u6a); (try simp only [World.size_alloc] at u6a); obtain ⟨⟨u6a1, u6a2⟩, ⟨u6a3, u6a4⟩, ⟨u6a5, u6a6⟩, ⟨u6a7, u6a8⟩, u6a9, u6a10⟩ := FrW.facts u6a)); (try ((first | have u6b : FrW W0 w' _ := FrW.below (FrW.alloc (FrW.new (by (repeat (first | with_reducible exact Below.refl _ _ | with_reducible assumption | with_reducible refine Below.drew ?_ | with_reducible refine below_alloc ?_ _))) rfl)) hb6 | have u6b : FrW W0 w' _ := FrW.below (FrW.drew (FrW.alloc (FrW.new (by (repeat (first | with_reducible exact Below.refl _ _ | with_reducible assumption | with_reducible refine Below.drew ?_ | with_reducible refine below_alloc ?_ _))) rfl))) hb6); (try simp only [World.size_alloc] at u6b); (try dsimp only [World.drew] at u6b); (try simp only [World.size_alloc] at u6b); obtain ⟨⟨u6b1, u6b2⟩, ⟨u6b3, u6b4⟩, ⟨u6b5, u6b6⟩, ⟨u6b7, u6b8⟩, u6b9, u6b10⟩ := FrW.facts u6b)); (try ((first | have u6c : FrW W0 w' _ := FrW.below u5a hb6 | have u6c : FrW W0 w' _ := FrW.below (FrW.alloc u5a) hb6 | have u6c : FrW W0 w' _ := FrW.below (FrW.alloc (FrW.alloc u5a)) hb6); (try simp only [World.size_alloc] at u6c); (try dsimp only [World.drew] at u6c); (try simp only [World.size_alloc] at u6c); obtain ⟨⟨u6c1, u6c2⟩, ⟨u6c3, u6c4⟩, ⟨u6c5, u6c6⟩, ⟨u6c7, u6c8⟩, u6c9, u6c10⟩ := FrW.facts u6c)); (try ((first | have u6d : FrW W0 w' _ := FrW.below u5b hb6 | have u6d : FrW W0 w' _ := FrW.below (FrW.alloc u5b) hb6 | have u6d : FrW W0 w' _ := FrW.below (FrW.alloc (FrW.alloc u5b)) hb6); (try simp only [World.size_alloc] at u6d); (try dsimp only [World.drew] at u6d); (try simp only [World.size_alloc] at u6d); obtain ⟨⟨u6d1, u6d2⟩, ⟨u6d3, u6d4⟩, ⟨u6d5, u6d6⟩, ⟨u6d7, u6d8⟩, u6d9, u6d10⟩ := FrW.facts u6d))))
    all_goals (go_wp2_with fail; go_meet; refine ⟨_, _, rfl, rfl, ?_⟩; first | with_reducible exact wput_two ⟨by assumption, by assumption, by first | assumption | omega⟩ hf5 hf6 hbw | with_reducible exact wput_two (FrW2.newR (by assumption) rfl) hf5.alloc hf6.alloc (below_alloc hbw _) | with_reducible exact wput_two (FrW2.newL (by assumption) rfl) hf5.alloc hf6.alloc (below_alloc hbw _) | with_reducible exact wput_nn hf5 hf6 hbw rfl rfl | with_reducible exact wput_mm hf5 hf6 hbw rfl rfl | with_reducible exact wput_ns (by assumption) hf5 hf6 hbw rfl)
  case rest =>
    revert hcut
    generalize wc = W1
    intro hcut
    obtain ⟨b5, b6, rfl, rfl, B5, B6, hbx, ob5, ob6⟩ := hcut
    obtain ⟨hc, hfz⟩ := bcell hbx
    replace k0_0 := (hc _ _ q0).trans k0_0
    replace k0_1 := (hc _ _ q0).trans k0_1
    replace k0_2 := (hc _ _ q0).trans k0_2
    replace k0_3 := (hc _ _ q0).trans k0_3
    replace q0 := Nat.lt_of_lt_of_le q0 hbx.size
    replace k1_0 := (hc _ _ q1).trans k1_0
    replace k1_1 := (hc _ _ q1).trans k1_1
    replace k1_2 := (hc _ _ q1).trans k1_2
    replace k1_3 := (hc _ _ q1).trans k1_3
    replace q1 := Nat.lt_of_lt_of_le q1 hbx.size
    replace ob5 : w.heap.size + 1 + 1 < b5 := Nat.lt_of_lt_of_le q2 ob5
    replace ob6 : w.heap.size + 1 + 1 < b6 := Nat.lt_of_lt_of_le q2 ob6
    replace k2_0 := (hc _ _ q2).trans k2_0
    replace f2_0 := (hfz _ _ q2).trans f2_0
    replace k2_1 := (hc _ _ q2).trans k2_1
    replace f2_1 := (hfz _ _ q2).trans f2_1
    replace k2_2 := (hc _ _ q2).trans k2_2
    replace f2_2 := (hfz _ _ q2).trans f2_2
    replace k2_3 := (hc _ _ q2).trans k2_3
    replace f2_3 := (hfz _ _ q2).trans f2_3
    replace NR := Lib.hid ((hbx.block _ q2).trans NR.out)
    replace q2 := Nat.lt_of_lt_of_le q2 hbx.size
    replace hw0 := below_step' hw0 hbx
    replace H1 := hide ((unhide H1).below hbx)
    replace H3 := hide ((unhide H3).below hbx)
    obtain ⟨A5, c5, l5, m5, n5, H5⟩ := B5
    have kb5_0 : W1.cell? ⟨b5, 0, none⟩ = some (.slice A5 l5.length c5) := cells_of n5 0
    have kb5_1 : W1.cell? ⟨b5, 1, none⟩ = some (.bool m5) := cells_of n5 1
    have qb5 := lt_of_block n5
    replace H5 := hide H5
    clear n5
    obtain ⟨A6, c6, l6, m6, n6, H6⟩ := B6
    have kb6_0 : W1.cell? ⟨b6, 0, none⟩ = some (.slice A6 l6.length c6) := cells_of n6 0
    have kb6_1 : W1.cell? ⟨b6, 1, none⟩ = some (.bool m6) := cells_of n6 1
    have qb6 := lt_of_block n6
    replace H6 := hide H6
    clear n6
    clear hbx hc hfz
    go_wp2_with fail
    refine ((unhide HO1) A5 c5 l5 m5 _ hw0 (unhide H5)).mono ?_
    rintro e W2 ⟨rfl, hbx⟩
    obtain ⟨hc, hfz⟩ := bcell hbx
    replace k0_0 := (hc _ _ q0).trans k0_0
    replace k0_1 := (hc _ _ q0).trans k0_1
    replace k0_2 := (hc _ _ q0).trans k0_2
    replace k0_3 := (hc _ _ q0).trans k0_3
    replace q0 := Nat.lt_of_lt_of_le q0 hbx.size
    replace k1_0 := (hc _ _ q1).trans k1_0
    replace k1_1 := (hc _ _ q1).trans k1_1
    replace k1_2 := (hc _ _ q1).trans k1_2
    replace k1_3 := (hc _ _ q1).trans k1_3
    replace q1 := Nat.lt_of_lt_of_le q1 hbx.size
    replace kb5_0 := (hc _ _ qb5).trans kb5_0
    replace kb5_1 := (hc _ _ qb5).trans kb5_1
    replace qb5 := Nat.lt_of_lt_of_le qb5 hbx.size
    replace kb6_0 := (hc _ _ qb6).trans kb6_0
    replace kb6_1 := (hc _ _ qb6).trans kb6_1
    replace qb6 := Nat.lt_of_lt_of_le qb6 hbx.size
    replace k2_0 := (hc _ _ q2).trans k2_0
    replace f2_0 := (hfz _ _ q2).trans f2_0
    replace k2_1 := (hc _ _ q2).trans k2_1
    replace f2_1 := (hfz _ _ q2).trans f2_1
    replace k2_2 := (hc _ _ q2).trans k2_2
    replace f2_2 := (hfz _ _ q2).trans f2_2
    replace k2_3 := (hc _ _ q2).trans k2_3
    replace f2_3 := (hfz _ _ q2).trans f2_3
    replace NR := Lib.hid ((hbx.block _ q2).trans NR.out)
    replace q2 := Nat.lt_of_lt_of_le q2 hbx.size
    replace hw0 := below_step' hw0 hbx
    replace H1 := hide ((unhide H1).below hbx)
    replace H3 := hide ((unhide H3).below hbx)
    replace H5 := hide ((unhide H5).below hbx)
    replace H6 := hide ((unhide H6).below hbx)
    clear hbx hc hfz
    go_wp2_with fail
    refine ((unhide HO3) A6 c6 l6 m6 _ hw0 (unhide H6)).mono ?_
    rintro e W3 ⟨rfl, hbx⟩
    obtain ⟨hc, hfz⟩ := bcell hbx
    replace k0_0 := (hc _ _ q0).trans k0_0
    replace k0_1 := (hc _ _ q0).trans k0_1
    replace k0_2 := (hc _ _ q0).trans k0_2
    replace k0_3 := (hc _ _ q0).trans k0_3
    replace q0 := Nat.lt_of_lt_of_le q0 hbx.size
    replace k1_0 := (hc _ _ q1).trans k1_0
    replace k1_1 := (hc _ _ q1).trans k1_1
    replace k1_2 := (hc _ _ q1).trans k1_2
    replace k1_3 := (hc _ _ q1).trans k1_3
    replace q1 := Nat.lt_of_lt_of_le q1 hbx.size
    replace kb5_0 := (hc _ _ qb5).trans kb5_0
    replace kb5_1 := (hc _ _ qb5).trans kb5_1
    replace qb5 := Nat.lt_of_lt_of_le qb5 hbx.size
    replace kb6_0 := (hc _ _ qb6).trans kb6_0
    replace kb6_1 := (hc _ _ qb6).trans kb6_1
    replace qb6 := Nat.lt_of_lt_of_le qb6 hbx.size
    replace k2_0 := (hc _ _ q2).trans k2_0
    replace f2_0 := (hfz _ _ q2).trans f2_0
    replace k2_1 := (hc _ _ q2).trans k2_1
    replace f2_1 := (hfz _ _ q2).trans f2_1
    replace k2_2 := (hc _ _ q2).trans k2_2
    replace f2_2 := (hfz _ _ q2).trans f2_2
    replace k2_3 := (hc _ _ q2).trans k2_3
    replace f2_3 := (hfz _ _ q2).trans f2_3
    replace NR := Lib.hid ((hbx.block _ q2).trans NR.out)
    replace q2 := Nat.lt_of_lt_of_le q2 hbx.size
    replace hw0 := below_step' hw0 hbx
    replace H1 := hide ((unhide H1).below hbx)
    replace H3 := hide ((unhide H3).below hbx)
    replace H5 := hide ((unhide H5).below hbx)
    replace H6 := hide ((unhide H6).below hbx)
    clear hbx hc hfz
    go_upto_region 3 with fail
    have KEEP := hide (show ∀ X, Below W3.heap.size W3 X → X.cell? ⟨w.heap.size, 0, none⟩ = some (.slice A1 l1.length c1) ∧ X.cell? ⟨w.heap.size, 1, none⟩ = some (.bool m1) ∧ X.cell? ⟨w.heap.size, 2, none⟩ = some (.slice A2 l2.length c2) ∧ X.cell? ⟨w.heap.size, 3, none⟩ = some (.bool m2) ∧ X.cell? ⟨w.heap.size + 1, 0, none⟩ = some (.slice A3 l3.length c3) ∧ X.cell? ⟨w.heap.size + 1, 1, none⟩ = some (.bool m3) ∧ X.cell? ⟨w.heap.size + 1, 2, none⟩ = some (.slice A4 l4.length c4) ∧ X.cell? ⟨w.heap.size + 1, 3, none⟩ = some (.bool m4) ∧ X.cell? ⟨b5, 0, none⟩ = some (.slice A5 l5.length c5) ∧ X.cell? ⟨b5, 1, none⟩ = some (.bool m5) ∧ X.cell? ⟨b6, 0, none⟩ = some (.slice A6 l6.length c6) ∧ X.cell? ⟨b6, 1, none⟩ = some (.bool m6) from fun X hB => ⟨keep_cell hB q0 k0_0, keep_cell hB q0 k0_1, keep_cell hB q0 k0_2, keep_cell hB q0 k0_3, keep_cell hB q1 k1_0, keep_cell hB q1 k1_1, keep_cell hB q1 k1_2, keep_cell hB q1 k1_3, keep_cell hB qb5 kb5_0, keep_cell hB qb5 kb5_1, keep_cell hB qb6 kb6_0, keep_cell hB qb6 kb6_1⟩)
    go_region_held3 (fun w' => w'.cell? ⟨w.heap.size, 0, none⟩ = some (.slice A1 l1.length c1) ∧ w'.cell? ⟨w.heap.size, 1, none⟩ = some (.bool m1) ∧ w'.cell? ⟨w.heap.size, 2, none⟩ = some (.slice A2 l2.length c2) ∧ w'.cell? ⟨w.heap.size, 3, none⟩ = some (.bool m2) ∧ w'.cell? ⟨w.heap.size + 1, 0, none⟩ = some (.slice A3 l3.length c3) ∧ w'.cell? ⟨w.heap.size + 1, 1, none⟩ = some (.bool m3) ∧ w'.cell? ⟨w.heap.size + 1, 2, none⟩ = some (.slice A4 l4.length c4) ∧ w'.cell? ⟨w.heap.size + 1, 3, none⟩ = some (.bool m4) ∧ w'.cell? ⟨b5, 0, none⟩ = some (.slice A5 l5.length c5) ∧ w'.cell? ⟨b5, 1, none⟩ = some (.bool m5) ∧ w'.cell? ⟨b6, 0, none⟩ = some (.slice A6 l6.length c6) ∧ w'.cell? ⟨b6, 1, none⟩ = some (.bool m6)) (first | with_reducible exact ⟨(cell_set4 _ _ _ _ _ _ (by omega)).trans (keep_cell hbw q0 k0_0), (cell_set4 _ _ _ _ _ _ (by omega)).trans (keep_cell hbw q0 k0_1), (cell_set4 _ _ _ _ _ _ (by omega)).trans (keep_cell hbw q0 k0_2), (cell_set4 _ _ _ _ _ _ (by omega)).trans (keep_cell hbw q0 k0_3), (cell_set4 _ _ _ _ _ _ (by omega)).trans (keep_cell hbw q1 k1_0), (cell_set4 _ _ _ _ _ _ (by omega)).trans (keep_cell hbw q1 k1_1), (cell_set4 _ _ _ _ _ _ (by omega)).trans (keep_cell hbw q1 k1_2), (cell_set4 _ _ _ _ _ _ (by omega)).trans (keep_cell hbw q1 k1_3), (cell_set4 _ _ _ _ _ _ (by omega)).trans (keep_cell hbw qb5 kb5_0), (cell_set4 _ _ _ _ _ _ (by omega)).trans (keep_cell hbw qb5 kb5_1), (cell_set4 _ _ _ _ _ _ (by omega)).trans (keep_cell hbw qb6 kb6_0), (cell_set4 _ _ _ _ _ _ (by omega)).trans (keep_cell hbw qb6 kb6_1)⟩ | with_reducible exact (unhide KEEP) _ (by (repeat (first | with_reducible exact Below.refl _ _ | with_reducible assumption | with_reducible refine Below.drew ?_ | with_reducible refine below_alloc ?_ _)))) (first | (go_at_call_of 97 (Value.agg #[.slice A1 l1.length c1, .bool m1]); refine ((unhide HN) A1 c1 l1 m1 A3 c3 l3 m3 _ (below_step' hw0 (by (repeat (first | with_reducible exact Below.refl _ _ | with_reducible assumption | with_reducible refine Below.drew ?_ | with_reducible refine below_alloc ?_ _)))) (WholeF.below (unhide H1) (by (repeat (first | with_reducible exact Below.refl _ _ | with_reducible assumption | with_reducible refine Below.drew ?_ | with_reducible refine below_alloc ?_ _)))) (WholeF.below (unhide H3) (by (repeat (first | with_reducible exact Below.refl _ _ | with_reducible assumption | with_reducible refine Below.drew ?_ | with_reducible refine below_alloc ?_ _))))).mono ?_; rintro e w' ⟨A10, c10, l10, m10, rfl, hf10, hb10⟩; have hbw := below_step (w := W3) (by (repeat (first | with_reducible exact Below.refl _ _ | with_reducible assumption | with_reducible refine Below.drew ?_ | with_reducible refine below_alloc ?_ _))) hb10; have hsw := hbw.size; obtain ⟨hc, hfz⟩ := bcell hbw))
    all_goals
      have hblk : w'.heap[w.heap.size + 1 + 1]? = some (.cells #[.slice none 0 0, .bool false, .slice none 0 0, .bool false] 52 (0, 0)) := (hbw.block _ q2).trans NR.out
      have HBLK := Lib.hid hblk
      have hb9 : Below w.heap.size w w' := below_step' hw0 hbw
      have hfi := (hf10)
      have hfj := ((unhide H5).below hbw)
      clear hblk
      go_wp2_with fail
      exact bodyPost_ret (v := (Value.agg #[.slice A10 l10.length c10, .bool m10, .slice A5 l5.length c5, .bool m5])) (by simp [results, Tryz.results43, go_sem, hc, k2_0, k2_1, k2_2, k2_3, q2]) rfl
        ⟨A10, c10, l10, m10, A5, c5, l5, m5, rfl, hnum ▸ hfi.upto HBLK.out (noW2_4 _ _ _ _ _ _ _ _) (set4_grown _ _ _ _ _ _), hden ▸ hfj.upto HBLK.out (noW2_4 _ _ _ _ _ _ _ _) (set4_grown _ _ _ _ _ _), hb9.grown (set4_grown _ _ _ _ _ _) hb9.size (fun k hk => by injection hk with hk; omega)⟩

end Go.Proofs.YtmahhmdodfimbaaGreatDoor
/- The walk through the sum of two numbers of the reference: the first is no integer. -/
namespace Go.Proofs.YtmahhmdodfimbaaGreatDoor
open Go.RowKit

set_option maxRecDepth 100000 in
set_option maxHeartbeats 16000000 in
theorem qadd_f (A1 : Option Addr) (c1 : Nat) (l1 : List Nat) (m1 : Bool) (A2 : Option Addr) (c2 : Nat) (l2 : List Nat) (m2 : Bool) (A3 : Option Addr) (c3 : Nat) (l3 : List Nat) (m3 : Bool) (A4 : Option Addr) (c4 : Nat) (l4 : List Nat) (m4 : Bool) (z1 b1 z3 b3 x1 x3 n d : Int) (q : Rat) (w : World) (f1 : WholeF w A1 c1 l1 m1 z1) (f3 : WholeF w A3 c3 l3 m3 z3)
    (hd1 : ∀ W, Below w.heap.size w W → Calls Tryz.prog 95 #[(Value.agg #[.slice A1 l1.length c1, .bool m1, .slice A2 l2.length c2, .bool m2])] W fun e w' => WholeR W b1 e w') (hd3 : ∀ W, Below w.heap.size w W → Calls Tryz.prog 95 #[(Value.agg #[.slice A3 l3.length c3, .bool m3, .slice A4 l4.length c4, .bool m4])] W fun e w' => WholeR W b3 e w')
    (ho1 : ∀ (A7 : Option Addr) (c7 : Nat) (l7 : List Nat) (m7 : Bool) (W : World), Below w.heap.size w W → WholeF W A7 c7 l7 m7 b1 → Calls Tryz.prog 96 #[(Value.agg #[.slice A7 l7.length c7, .bool m7])] W fun e w' => e = .returned (.bool false) ∧ Below W.heap.size W w')  (hm1 : OpW2 w 98 z1 b3 x1) (hm3 : OpW2 w 98 z3 b1 x3) (hn : OpW2 w 97 x1 x3 n) (hm : OpW2 w 98 b1 b3 d) (hr : OpRQ w 92 n d q) :
    Calls Tryz.prog 43 #[(Value.agg #[.slice A1 l1.length c1, .bool m1, .slice A2 l2.length c2, .bool m2]), (Value.agg #[.slice A3 l3.length c3, .bool m3, .slice A4 l4.length c4, .bool m4])] w fun e w' => QR w q e w' := by
  have H1 := hide f1
  have H3 := hide f3
  clear f1 f3
  have HD1 := hide hd1
  have HD3 := hide hd3
  have HO1 := hide ho1
  have HM1 := hide hm1
  have HM3 := hide hm3
  have HN := hide hn
  have HM := hide hm
  have HR := hide hr
  clear hd1 hd3 ho1 hm1 hm3 hn hm hr
  go_enter Tryz.func43, Tryz.ntmps43
  go_upto_region 1 with fail
  obtain ⟨n0, n1, n2, hsz, hw0⟩ := three_new w (.cells #[.slice A1 l1.length c1, .bool m1, .slice A2 l2.length c2, .bool m2] 52) (.cells #[.slice A3 l3.length c3, .bool m3, .slice A4 l4.length c4, .bool m4] 52) (.cells #[.slice none 0 0, .bool false, .slice none 0 0, .bool false] 52)
  generalize (((w.alloc (.cells #[.slice A1 l1.length c1, .bool m1, .slice A2 l2.length c2, .bool m2] 52)).alloc (.cells #[.slice A3 l3.length c3, .bool m3, .slice A4 l4.length c4, .bool m4] 52)).alloc (.cells #[.slice none 0 0, .bool false, .slice none 0 0, .bool false] 52)) = W0 at *
  have k0_0 : W0.cell? ⟨w.heap.size, 0, none⟩ = some (.slice A1 l1.length c1) := cells_of n0 0
  have k0_1 : W0.cell? ⟨w.heap.size, 1, none⟩ = some (.bool m1) := cells_of n0 1
  have k0_2 : W0.cell? ⟨w.heap.size, 2, none⟩ = some (.slice A2 l2.length c2) := cells_of n0 2
  have k0_3 : W0.cell? ⟨w.heap.size, 3, none⟩ = some (.bool m2) := cells_of n0 3
  have q0 : w.heap.size < W0.heap.size := by omega
  have k1_0 : W0.cell? ⟨w.heap.size + 1, 0, none⟩ = some (.slice A3 l3.length c3) := cells_of n1 0
  have k1_1 : W0.cell? ⟨w.heap.size + 1, 1, none⟩ = some (.bool m3) := cells_of n1 1
  have k1_2 : W0.cell? ⟨w.heap.size + 1, 2, none⟩ = some (.slice A4 l4.length c4) := cells_of n1 2
  have k1_3 : W0.cell? ⟨w.heap.size + 1, 3, none⟩ = some (.bool m4) := cells_of n1 3
  have q1 : w.heap.size + 1 < W0.heap.size := by omega
  have k2_0 : W0.cell? ⟨w.heap.size + 1 + 1, 0, none⟩ = some (.slice none 0 0) := cells_of n2 0
  have k2_1 : W0.cell? ⟨w.heap.size + 1 + 1, 1, none⟩ = some (.bool false) := cells_of n2 1
  have k2_2 : W0.cell? ⟨w.heap.size + 1 + 1, 2, none⟩ = some (.slice none 0 0) := cells_of n2 2
  have k2_3 : W0.cell? ⟨w.heap.size + 1 + 1, 3, none⟩ = some (.bool false) := cells_of n2 3
  have q2 : w.heap.size + 1 + 1 < W0.heap.size := by omega
  have f2_0 := unfrozen_of n2 0
  have f2_1 := unfrozen_of n2 1
  have f2_2 := unfrozen_of n2 2
  have f2_3 := unfrozen_of n2 3
  have NR := Lib.hid n2
  clear hsz n0 n1 n2
  replace H1 := hide ((unhide H1).below hw0)
  replace H3 := hide ((unhide H3).below hw0)
  go_upto_region 1 with fail
  go_cut [5, 6] (fun s5_ s6_ wx => ∃ b5 b6 : Nat, s5_ = .pointer (some ⟨b5, 0, none⟩) ∧ s6_ = .pointer (some ⟨b6, 0, none⟩) ∧ BoxW wx b5 b1 ∧ BoxW wx b6 b3 ∧ Below W0.heap.size W0 wx ∧ W0.heap.size ≤ b5 ∧ W0.heap.size ≤ b6)
  case first =>
    have KEEP := hide (show ∀ X, Below W0.heap.size W0 X → X.cell? ⟨w.heap.size, 0, none⟩ = some (.slice A1 l1.length c1) ∧ X.cell? ⟨w.heap.size, 1, none⟩ = some (.bool m1) ∧ X.cell? ⟨w.heap.size, 2, none⟩ = some (.slice A2 l2.length c2) ∧ X.cell? ⟨w.heap.size, 3, none⟩ = some (.bool m2) ∧ X.cell? ⟨w.heap.size + 1, 0, none⟩ = some (.slice A3 l3.length c3) ∧ X.cell? ⟨w.heap.size + 1, 1, none⟩ = some (.bool m3) ∧ X.cell? ⟨w.heap.size + 1, 2, none⟩ = some (.slice A4 l4.length c4) ∧ X.cell? ⟨w.heap.size + 1, 3, none⟩ = some (.bool m4) from fun X hB => ⟨keep_cell hB q0 k0_0, keep_cell hB q0 k0_1, keep_cell hB q0 k0_2, keep_cell hB q0 k0_3, keep_cell hB q1 k1_0, keep_cell hB q1 k1_1, keep_cell hB q1 k1_2, keep_cell hB q1 k1_3⟩)
    go_region_held3 (fun w' => w'.cell? ⟨w.heap.size, 0, none⟩ = some (.slice A1 l1.length c1) ∧ w'.cell? ⟨w.heap.size, 1, none⟩ = some (.bool m1) ∧ w'.cell? ⟨w.heap.size, 2, none⟩ = some (.slice A2 l2.length c2) ∧ w'.cell? ⟨w.heap.size, 3, none⟩ = some (.bool m2) ∧ w'.cell? ⟨w.heap.size + 1, 0, none⟩ = some (.slice A3 l3.length c3) ∧ w'.cell? ⟨w.heap.size + 1, 1, none⟩ = some (.bool m3) ∧ w'.cell? ⟨w.heap.size + 1, 2, none⟩ = some (.slice A4 l4.length c4) ∧ w'.cell? ⟨w.heap.size + 1, 3, none⟩ = some (.bool m4)) (exact (unhide KEEP) _ (by (repeat (first | with_reducible exact Below.refl _ _ | with_reducible assumption | with_reducible refine Below.drew ?_ | with_reducible refine below_alloc ?_ _ | (with_reducible refine below_set ?_ ?_ _ _; rotate_left; (first | omega | (simp <;> omega))))))) (first | (go_at_call_of 95 (Value.agg #[.slice A1 l1.length c1, .bool m1, .slice A2 l2.length c2, .bool m2]); refine ((unhide HD1) _ (below_step' hw0 (by (repeat (first | with_reducible exact Below.refl _ _ | with_reducible assumption | with_reducible refine Below.drew ?_ | with_reducible refine below_alloc ?_ _))))).mono ?_; rintro e w' ⟨A5, c5, l5, m5, rfl, hf5, hb5⟩; have hbw := below_step (w := W0) (by (repeat (first | with_reducible exact Below.refl _ _ | with_reducible assumption | with_reducible refine Below.drew ?_ | with_reducible refine below_alloc ?_ _))) hb5; have hsw := hbw.size; obtain ⟨hc, hfz⟩ := bcell hbw; (try ((first | have u5a : FrW W0 w' _ := FrW.below (FrW.new (by (repeat (first | with_reducible exact Below.refl _ _ | with_reducible assumption | with_reducible refine Below.drew ?_ | with_reducible refine below_alloc ?_ _))) rfl) hb5 | have u5a : FrW W0 w' _ := FrW.below (FrW.drew (FrW.new (by (repeat (first | with_reducible exact Below.refl _ _ | with_reducible assumption | with_reducible refine Below.drew ?_ | with_reducible refine below_alloc ?_ _))) rfl)) hb5); (try simp only [World.size_alloc] at u5a); (try dsimp only [World.drew] at u5a); (try simp only [World.size_alloc] at u5a); obtain ⟨⟨u5a1, u5a2⟩, ⟨u5a3, u5a4⟩, ⟨u5a5, u5a6⟩, ⟨u5a7, u5a8⟩, u5a9, u5a10⟩ := FrW.facts u5a)); (try ((first | have u5b : FrW W0 w' _ := FrW.below (FrW.alloc (FrW.new (by (repeat (first | with_reducible exact Below.refl _ _ | with_reducible assumption | with_reducible refine Below.drew ?_ | with_reducible refine below_alloc ?_ _))) rfl)) hb5 | have u5b : FrW W0 w' _ := FrW.below (FrW.drew (FrW.alloc (FrW.new (by (repeat (first | with_reducible exact Below.refl _ _ | with_reducible assumption | with_reducible refine Below.drew ?_ | with_reducible refine below_alloc ?_ _))) rfl))) hb5); (try simp only [World.size_alloc] at u5b); (try dsimp only [World.drew] at u5b); (try simp only [World.size_alloc] at u5b); obtain ⟨⟨u5b1, u5b2⟩, ⟨u5b3, u5b4⟩, ⟨u5b5, u5b6⟩, ⟨u5b7, u5b8⟩, u5b9, u5b10⟩ := FrW.facts u5b))) | (go_at_call_of 95 (Value.agg #[.slice A3 l3.length c3, .bool m3, .slice A4 l4.length c4, .bool m4]); refine ((unhide HD3) _ (below_step' hw0 (by (repeat (first | with_reducible exact Below.refl _ _ | with_reducible assumption | with_reducible refine Below.drew ?_ | with_reducible refine below_alloc ?_ _))))).mono ?_; rintro e w' ⟨A6, c6, l6, m6, rfl, hf6, hb6⟩; have hf5 := WholeF.below (WholeF.below hf5 (by (repeat (first | with_reducible exact Below.refl _ _ | with_reducible assumption | with_reducible refine Below.drew ?_ | with_reducible refine below_alloc ?_ _)))) hb6; have hbw := below_step (w := W0) (by (repeat (first | with_reducible exact Below.refl _ _ | with_reducible assumption | with_reducible refine Below.drew ?_ | with_reducible refine below_alloc ?_ _))) hb6; have hsw := hbw.size; obtain ⟨hc, hfz⟩ := bcell hbw; (try ((first | have u6a : FrW W0 w' _ := FrW.below (FrW.new (by (repeat (first | with_reducible exact Below.refl _ _ | with_reducible assumption | with_reducible refine Below.drew ?_ | with_reducible refine below_alloc ?_ _))) rfl) hb6 | have u6a : FrW W0 w' _ := FrW.below (FrW.drew (FrW.new (by (repeat (first | with_reducible exact Below.refl _ _ | with_reducible assumption | with_reducible refine Below.drew ?_ | with_reducible refine below_alloc ?_ _))) rfl)) hb6); (try simp only [World.size_alloc] at u6a); (try dsimp only [World.drew] at u6a); (try simp only [World.size_alloc] at u6a); obtain ⟨⟨u6a1, u6a2⟩, ⟨u6a3, u6a4⟩, ⟨u6a5, u6a6⟩, ⟨u6a7, u6a8⟩, u6a9, u6a10⟩ := FrW.facts u6a)); (try ((first | have u6b : FrW W0 w' _ := FrW.below (FrW.alloc (FrW.new (by (repeat (first | with_reducible exact Below.refl _ _ | with_reducible assumption | with_reducible refine Below.drew ?_ | with_reducible refine below_alloc ?_ _))) rfl)) hb6 | have u6b : FrW W0 w' _ := FrW.below (FrW.drew (FrW.alloc (FrW.new (by (repeat (first | with_reducible exact Below.refl _ _ | with_reducible assumption | with_reducible refine Below.drew ?_ | with_reducible refine below_alloc ?_ _))) rfl))) hb6); (try simp only [World.size_alloc] at u6b); (try dsimp only [World.drew] at u6b); (try simp only [World.size_alloc] at u6b); obtain ⟨⟨u6b1, u6b2⟩, ⟨u6b3, u6b4⟩, ⟨u6b5, u6b6⟩, ⟨u6b7, u6b8⟩, u6b9, u6b10⟩ := FrW.facts u6b)); (try ((first | have u6c : FrW W0 w' _ := FrW.below u5a hb6 | have u6c : FrW W0 w' _ := FrW.below (FrW.alloc u5a) hb6 | have u6c : FrW W0 w' _ := FrW.below (FrW.alloc (FrW.alloc u5a)) hb6); (try simp only [World.size_alloc] at u6c); (try dsimp only [World.drew] at u6c); (try simp only [World.size_alloc] at u6c); obtain ⟨⟨u6c1, u6c2⟩, ⟨u6c3, u6c4⟩, ⟨u6c5, u6c6⟩, ⟨u6c7, u6c8⟩, u6c9, u6c10⟩ := FrW.facts u6c)); (try ((first | have u6d : FrW W0 w' _ := FrW.below u5b hb6 | have u6d : FrW W0 w' _ := FrW.below (FrW.alloc u5b) hb6 | have u6d : FrW W0 w' _ := FrW.below (FrW.alloc (FrW.alloc u5b)) hb6); (try simp only [World.size_alloc] at u6d); (try dsimp only [World.drew] at u6d); (try simp only [World.size_alloc] at u6d); obtain ⟨⟨u6d1, u6d2⟩, ⟨u6d3, u6d4⟩, ⟨u6d5, u6d6⟩, ⟨u6d7, u6d8⟩, u6d9, u6d10⟩ := FrW.facts u6d))))
    all_goals (go_wp2_with fail; go_meet; refine ⟨_, _, rfl, rfl, ?_⟩; first | with_reducible exact wput_two ⟨by assumption, by assumption, by first | assumption | omega⟩ hf5 hf6 hbw | with_reducible exact wput_two (FrW2.newR (by assumption) rfl) hf5.alloc hf6.alloc (below_alloc hbw _) | with_reducible exact wput_two (FrW2.newL (by assumption) rfl) hf5.alloc hf6.alloc (below_alloc hbw _) | with_reducible exact wput_nn hf5 hf6 hbw rfl rfl | with_reducible exact wput_mm hf5 hf6 hbw rfl rfl | with_reducible exact wput_ns (by assumption) hf5 hf6 hbw rfl)
  case rest =>
    revert hcut
    generalize wc = W1
    intro hcut
    obtain ⟨b5, b6, rfl, rfl, B5, B6, hbx, ob5, ob6⟩ := hcut
    obtain ⟨hc, hfz⟩ := bcell hbx
    replace k0_0 := (hc _ _ q0).trans k0_0
    replace k0_1 := (hc _ _ q0).trans k0_1
    replace k0_2 := (hc _ _ q0).trans k0_2
    replace k0_3 := (hc _ _ q0).trans k0_3
    replace q0 := Nat.lt_of_lt_of_le q0 hbx.size
    replace k1_0 := (hc _ _ q1).trans k1_0
    replace k1_1 := (hc _ _ q1).trans k1_1
    replace k1_2 := (hc _ _ q1).trans k1_2
    replace k1_3 := (hc _ _ q1).trans k1_3
    replace q1 := Nat.lt_of_lt_of_le q1 hbx.size
    replace ob5 : w.heap.size + 1 + 1 < b5 := Nat.lt_of_lt_of_le q2 ob5
    replace ob6 : w.heap.size + 1 + 1 < b6 := Nat.lt_of_lt_of_le q2 ob6
    replace k2_0 := (hc _ _ q2).trans k2_0
    replace f2_0 := (hfz _ _ q2).trans f2_0
    replace k2_1 := (hc _ _ q2).trans k2_1
    replace f2_1 := (hfz _ _ q2).trans f2_1
    replace k2_2 := (hc _ _ q2).trans k2_2
    replace f2_2 := (hfz _ _ q2).trans f2_2
    replace k2_3 := (hc _ _ q2).trans k2_3
    replace f2_3 := (hfz _ _ q2).trans f2_3
    replace NR := Lib.hid ((hbx.block _ q2).trans NR.out)
    replace q2 := Nat.lt_of_lt_of_le q2 hbx.size
    replace hw0 := below_step' hw0 hbx
    replace H1 := hide ((unhide H1).below hbx)
    replace H3 := hide ((unhide H3).below hbx)
    obtain ⟨A5, c5, l5, m5, n5, H5⟩ := B5
    have kb5_0 : W1.cell? ⟨b5, 0, none⟩ = some (.slice A5 l5.length c5) := cells_of n5 0
    have kb5_1 : W1.cell? ⟨b5, 1, none⟩ = some (.bool m5) := cells_of n5 1
    have qb5 := lt_of_block n5
    replace H5 := hide H5
    clear n5
    obtain ⟨A6, c6, l6, m6, n6, H6⟩ := B6
    have kb6_0 : W1.cell? ⟨b6, 0, none⟩ = some (.slice A6 l6.length c6) := cells_of n6 0
    have kb6_1 : W1.cell? ⟨b6, 1, none⟩ = some (.bool m6) := cells_of n6 1
    have qb6 := lt_of_block n6
    replace H6 := hide H6
    clear n6
    clear hbx hc hfz
    go_wp2_with fail
    refine ((unhide HO1) A5 c5 l5 m5 _ hw0 (unhide H5)).mono ?_
    rintro e W2 ⟨rfl, hbx⟩
    obtain ⟨hc, hfz⟩ := bcell hbx
    replace k0_0 := (hc _ _ q0).trans k0_0
    replace k0_1 := (hc _ _ q0).trans k0_1
    replace k0_2 := (hc _ _ q0).trans k0_2
    replace k0_3 := (hc _ _ q0).trans k0_3
    replace q0 := Nat.lt_of_lt_of_le q0 hbx.size
    replace k1_0 := (hc _ _ q1).trans k1_0
    replace k1_1 := (hc _ _ q1).trans k1_1
    replace k1_2 := (hc _ _ q1).trans k1_2
    replace k1_3 := (hc _ _ q1).trans k1_3
    replace q1 := Nat.lt_of_lt_of_le q1 hbx.size
    replace kb5_0 := (hc _ _ qb5).trans kb5_0
    replace kb5_1 := (hc _ _ qb5).trans kb5_1
    replace qb5 := Nat.lt_of_lt_of_le qb5 hbx.size
    replace kb6_0 := (hc _ _ qb6).trans kb6_0
    replace kb6_1 := (hc _ _ qb6).trans kb6_1
    replace qb6 := Nat.lt_of_lt_of_le qb6 hbx.size
    replace k2_0 := (hc _ _ q2).trans k2_0
    replace f2_0 := (hfz _ _ q2).trans f2_0
    replace k2_1 := (hc _ _ q2).trans k2_1
    replace f2_1 := (hfz _ _ q2).trans f2_1
    replace k2_2 := (hc _ _ q2).trans k2_2
    replace f2_2 := (hfz _ _ q2).trans f2_2
    replace k2_3 := (hc _ _ q2).trans k2_3
    replace f2_3 := (hfz _ _ q2).trans f2_3
    replace NR := Lib.hid ((hbx.block _ q2).trans NR.out)
    replace q2 := Nat.lt_of_lt_of_le q2 hbx.size
    replace hw0 := below_step' hw0 hbx
    replace H1 := hide ((unhide H1).below hbx)
    replace H3 := hide ((unhide H3).below hbx)
    replace H5 := hide ((unhide H5).below hbx)
    replace H6 := hide ((unhide H6).below hbx)
    clear hbx hc hfz
    go_upto_region 4 with fail
    have KEEP := hide (show ∀ X, Below W2.heap.size W2 X → X.cell? ⟨w.heap.size, 0, none⟩ = some (.slice A1 l1.length c1) ∧ X.cell? ⟨w.heap.size, 1, none⟩ = some (.bool m1) ∧ X.cell? ⟨w.heap.size, 2, none⟩ = some (.slice A2 l2.length c2) ∧ X.cell? ⟨w.heap.size, 3, none⟩ = some (.bool m2) ∧ X.cell? ⟨w.heap.size + 1, 0, none⟩ = some (.slice A3 l3.length c3) ∧ X.cell? ⟨w.heap.size + 1, 1, none⟩ = some (.bool m3) ∧ X.cell? ⟨w.heap.size + 1, 2, none⟩ = some (.slice A4 l4.length c4) ∧ X.cell? ⟨w.heap.size + 1, 3, none⟩ = some (.bool m4) ∧ X.cell? ⟨b5, 0, none⟩ = some (.slice A5 l5.length c5) ∧ X.cell? ⟨b5, 1, none⟩ = some (.bool m5) ∧ X.cell? ⟨b6, 0, none⟩ = some (.slice A6 l6.length c6) ∧ X.cell? ⟨b6, 1, none⟩ = some (.bool m6) from fun X hB => ⟨keep_cell hB q0 k0_0, keep_cell hB q0 k0_1, keep_cell hB q0 k0_2, keep_cell hB q0 k0_3, keep_cell hB q1 k1_0, keep_cell hB q1 k1_1, keep_cell hB q1 k1_2, keep_cell hB q1 k1_3, keep_cell hB qb5 kb5_0, keep_cell hB qb5 kb5_1, keep_cell hB qb6 kb6_0, keep_cell hB qb6 kb6_1⟩)
    go_region_held3 (fun w' => w'.cell? ⟨w.heap.size, 0, none⟩ = some (.slice A1 l1.length c1) ∧ w'.cell? ⟨w.heap.size, 1, none⟩ = some (.bool m1) ∧ w'.cell? ⟨w.heap.size, 2, none⟩ = some (.slice A2 l2.length c2) ∧ w'.cell? ⟨w.heap.size, 3, none⟩ = some (.bool m2) ∧ w'.cell? ⟨w.heap.size + 1, 0, none⟩ = some (.slice A3 l3.length c3) ∧ w'.cell? ⟨w.heap.size + 1, 1, none⟩ = some (.bool m3) ∧ w'.cell? ⟨w.heap.size + 1, 2, none⟩ = some (.slice A4 l4.length c4) ∧ w'.cell? ⟨w.heap.size + 1, 3, none⟩ = some (.bool m4) ∧ w'.cell? ⟨b5, 0, none⟩ = some (.slice A5 l5.length c5) ∧ w'.cell? ⟨b5, 1, none⟩ = some (.bool m5) ∧ w'.cell? ⟨b6, 0, none⟩ = some (.slice A6 l6.length c6) ∧ w'.cell? ⟨b6, 1, none⟩ = some (.bool m6)) (first | with_reducible exact ⟨(cell_set4 _ _ _ _ _ _ (by omega)).trans (keep_cell hbw q0 k0_0), (cell_set4 _ _ _ _ _ _ (by omega)).trans (keep_cell hbw q0 k0_1), (cell_set4 _ _ _ _ _ _ (by omega)).trans (keep_cell hbw q0 k0_2), (cell_set4 _ _ _ _ _ _ (by omega)).trans (keep_cell hbw q0 k0_3), (cell_set4 _ _ _ _ _ _ (by omega)).trans (keep_cell hbw q1 k1_0), (cell_set4 _ _ _ _ _ _ (by omega)).trans (keep_cell hbw q1 k1_1), (cell_set4 _ _ _ _ _ _ (by omega)).trans (keep_cell hbw q1 k1_2), (cell_set4 _ _ _ _ _ _ (by omega)).trans (keep_cell hbw q1 k1_3), (cell_set4 _ _ _ _ _ _ (by omega)).trans (keep_cell hbw qb5 kb5_0), (cell_set4 _ _ _ _ _ _ (by omega)).trans (keep_cell hbw qb5 kb5_1), (cell_set4 _ _ _ _ _ _ (by omega)).trans (keep_cell hbw qb6 kb6_0), (cell_set4 _ _ _ _ _ _ (by omega)).trans (keep_cell hbw qb6 kb6_1)⟩ | with_reducible exact (unhide KEEP) _ (by (repeat (first | with_reducible exact Below.refl _ _ | with_reducible assumption | with_reducible refine Below.drew ?_ | with_reducible refine below_alloc ?_ _)))) (first | (go_at_call_of 98 (Value.agg #[.slice A1 l1.length c1, .bool m1]); refine ((unhide HM1) A1 c1 l1 m1 A6 c6 l6 m6 _ (below_step' hw0 (by (repeat (first | with_reducible exact Below.refl _ _ | with_reducible assumption | with_reducible refine Below.drew ?_ | with_reducible refine below_alloc ?_ _)))) (WholeF.below (unhide H1) (by (repeat (first | with_reducible exact Below.refl _ _ | with_reducible assumption | with_reducible refine Below.drew ?_ | with_reducible refine below_alloc ?_ _)))) (WholeF.below (unhide H6) (by (repeat (first | with_reducible exact Below.refl _ _ | with_reducible assumption | with_reducible refine Below.drew ?_ | with_reducible refine below_alloc ?_ _))))).mono ?_; rintro e w' ⟨A8, c8, l8, m8, rfl, hf8, hb8⟩; have hbw := below_step (w := W2) (by (repeat (first | with_reducible exact Below.refl _ _ | with_reducible assumption | with_reducible refine Below.drew ?_ | with_reducible refine below_alloc ?_ _))) hb8; have hsw := hbw.size; obtain ⟨hc, hfz⟩ := bcell hbw) | (go_at_call_of 98 (Value.agg #[.slice A3 l3.length c3, .bool m3]); refine ((unhide HM3) A3 c3 l3 m3 A5 c5 l5 m5 _ (below_step' hw0 (by (repeat (first | with_reducible exact Below.refl _ _ | with_reducible assumption | with_reducible refine Below.drew ?_ | with_reducible refine below_alloc ?_ _)))) (WholeF.below (unhide H3) (by (repeat (first | with_reducible exact Below.refl _ _ | with_reducible assumption | with_reducible refine Below.drew ?_ | with_reducible refine below_alloc ?_ _)))) (WholeF.below (unhide H5) (by (repeat (first | with_reducible exact Below.refl _ _ | with_reducible assumption | with_reducible refine Below.drew ?_ | with_reducible refine below_alloc ?_ _))))).mono ?_; rintro e w' ⟨A9, c9, l9, m9, rfl, hf9, hb9⟩; have hf8 := WholeF.below (WholeF.below hf8 (by (repeat (first | with_reducible exact Below.refl _ _ | with_reducible assumption | with_reducible refine Below.drew ?_ | with_reducible refine below_alloc ?_ _)))) hb9; have hbw := below_step (w := W2) (by (repeat (first | with_reducible exact Below.refl _ _ | with_reducible assumption | with_reducible refine Below.drew ?_ | with_reducible refine below_alloc ?_ _))) hb9; have hsw := hbw.size; obtain ⟨hc, hfz⟩ := bcell hbw) | (go_at_call_of 97 (Value.agg #[.slice A8 l8.length c8, .bool m8]); refine ((unhide HN) A8 c8 l8 m8 A9 c9 l9 m9 _ (below_step' hw0 (by (repeat (first | with_reducible exact Below.refl _ _ | with_reducible assumption | with_reducible refine Below.drew ?_ | with_reducible refine below_alloc ?_ _)))) (WholeF.below hf8 (by (repeat (first | with_reducible exact Below.refl _ _ | with_reducible assumption | with_reducible refine Below.drew ?_ | with_reducible refine below_alloc ?_ _)))) (WholeF.below hf9 (by (repeat (first | with_reducible exact Below.refl _ _ | with_reducible assumption | with_reducible refine Below.drew ?_ | with_reducible refine below_alloc ?_ _))))).mono ?_; rintro e w' ⟨A10, c10, l10, m10, rfl, hf10, hb10⟩; have hf8 := WholeF.below (WholeF.below hf8 (by (repeat (first | with_reducible exact Below.refl _ _ | with_reducible assumption | with_reducible refine Below.drew ?_ | with_reducible refine below_alloc ?_ _)))) hb10; have hf9 := WholeF.below (WholeF.below hf9 (by (repeat (first | with_reducible exact Below.refl _ _ | with_reducible assumption | with_reducible refine Below.drew ?_ | with_reducible refine below_alloc ?_ _)))) hb10; have hbw := below_step (w := W2) (by (repeat (first | with_reducible exact Below.refl _ _ | with_reducible assumption | with_reducible refine Below.drew ?_ | with_reducible refine below_alloc ?_ _))) hb10; have hsw := hbw.size; obtain ⟨hc, hfz⟩ := bcell hbw) | (go_at_call_of 98 (Value.agg #[.slice A5 l5.length c5, .bool m5]); refine ((unhide HM) A5 c5 l5 m5 A6 c6 l6 m6 _ (below_step' hw0 (by (repeat (first | with_reducible exact Below.refl _ _ | with_reducible assumption | with_reducible refine Below.drew ?_ | with_reducible refine below_alloc ?_ _)))) (WholeF.below (unhide H5) (by (repeat (first | with_reducible exact Below.refl _ _ | with_reducible assumption | with_reducible refine Below.drew ?_ | with_reducible refine below_alloc ?_ _)))) (WholeF.below (unhide H6) (by (repeat (first | with_reducible exact Below.refl _ _ | with_reducible assumption | with_reducible refine Below.drew ?_ | with_reducible refine below_alloc ?_ _))))).mono ?_; rintro e w' ⟨A11, c11, l11, m11, rfl, hf11, hb11⟩; have hf8 := WholeF.below (WholeF.below hf8 (by (repeat (first | with_reducible exact Below.refl _ _ | with_reducible assumption | with_reducible refine Below.drew ?_ | with_reducible refine below_alloc ?_ _)))) hb11; have hf9 := WholeF.below (WholeF.below hf9 (by (repeat (first | with_reducible exact Below.refl _ _ | with_reducible assumption | with_reducible refine Below.drew ?_ | with_reducible refine below_alloc ?_ _)))) hb11; have hf10 := WholeF.below (WholeF.below hf10 (by (repeat (first | with_reducible exact Below.refl _ _ | with_reducible assumption | with_reducible refine Below.drew ?_ | with_reducible refine below_alloc ?_ _)))) hb11; have hbw := below_step (w := W2) (by (repeat (first | with_reducible exact Below.refl _ _ | with_reducible assumption | with_reducible refine Below.drew ?_ | with_reducible refine below_alloc ?_ _))) hb11; have hsw := hbw.size; obtain ⟨hc, hfz⟩ := bcell hbw) | (go_at_call_of 92 (Value.agg #[.slice A10 l10.length c10, .bool m10]); refine ((unhide HR) A10 c10 l10 m10 A11 c11 l11 m11 _ (below_step' hw0 (by (repeat (first | with_reducible exact Below.refl _ _ | with_reducible assumption | with_reducible refine Below.drew ?_ | with_reducible refine below_alloc ?_ _)))) (WholeF.below hf10 (by (repeat (first | with_reducible exact Below.refl _ _ | with_reducible assumption | with_reducible refine Below.drew ?_ | with_reducible refine below_alloc ?_ _)))) (WholeF.below hf11 (by (repeat (first | with_reducible exact Below.refl _ _ | with_reducible assumption | with_reducible refine Below.drew ?_ | with_reducible refine below_alloc ?_ _))))).mono ?_; rintro e w' ⟨A12, c12, l12, m12, A13, c13, l13, m13, rfl, hf12, hf13, hb12⟩; have hf8 := WholeF.below (WholeF.below hf8 (by (repeat (first | with_reducible exact Below.refl _ _ | with_reducible assumption | with_reducible refine Below.drew ?_ | with_reducible refine below_alloc ?_ _)))) hb12; have hf9 := WholeF.below (WholeF.below hf9 (by (repeat (first | with_reducible exact Below.refl _ _ | with_reducible assumption | with_reducible refine Below.drew ?_ | with_reducible refine below_alloc ?_ _)))) hb12; have hf10 := WholeF.below (WholeF.below hf10 (by (repeat (first | with_reducible exact Below.refl _ _ | with_reducible assumption | with_reducible refine Below.drew ?_ | with_reducible refine below_alloc ?_ _)))) hb12; have hf11 := WholeF.below (WholeF.below hf11 (by (repeat (first | with_reducible exact Below.refl _ _ | with_reducible assumption | with_reducible refine Below.drew ?_ | with_reducible refine below_alloc ?_ _)))) hb12; have hbw := below_step (w := W2) (by (repeat (first | with_reducible exact Below.refl _ _ | with_reducible assumption | with_reducible refine Below.drew ?_ | with_reducible refine below_alloc ?_ _))) hb12; have hsw := hbw.size; obtain ⟨hc, hfz⟩ := bcell hbw))
    all_goals
      have hblk : w'.heap[w.heap.size + 1 + 1]? = some (.cells #[.slice none 0 0, .bool false, .slice none 0 0, .bool false] 52 (0, 0)) := (hbw.block _ q2).trans NR.out
      have HBLK := Lib.hid hblk
      have hb9 : Below w.heap.size w w' := below_step' hw0 hbw
      have hfi := (hf12)
      have hfj := (hf13)
      clear hblk
      go_wp2_with fail
      exact bodyPost_ret (v := (Value.agg #[.slice A12 l12.length c12, .bool m12, .slice A13 l13.length c13, .bool m13])) (by simp [results, Tryz.results43, go_sem, hc, k2_0, k2_1, k2_2, k2_3, q2]) rfl
        ⟨A12, c12, l12, m12, A13, c13, l13, m13, rfl, hfi.upto HBLK.out (noW2_4 _ _ _ _ _ _ _ _) (set4_grown _ _ _ _ _ _), hfj.upto HBLK.out (noW2_4 _ _ _ _ _ _ _ _) (set4_grown _ _ _ _ _ _), hb9.grown (set4_grown _ _ _ _ _ _) hb9.size (fun k hk => by injection hk with hk; omega)⟩

end Go.Proofs.YtmahhmdodfimbaaGreatDoor
