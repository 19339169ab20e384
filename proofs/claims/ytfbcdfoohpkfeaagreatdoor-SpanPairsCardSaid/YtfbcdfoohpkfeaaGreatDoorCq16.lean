/- Texts beneath a law of layer 1. -/
import Derived.Test.YtfbcdfoohpkfeaaGreatDoorCq15
set_option maxRecDepth 100000
namespace Go.Proofs.YtfbcdfoohpkfeaaGreatDoor
open Go.RowKit

theorem apo {a b : Int} (hb : 0 < b) (ha : 0 ≤ a) : a / b = ((a.natAbs / b.natAbs : Nat) : Int) := by
 obtain ⟨n, rfl⟩ := Int.eq_ofNat_of_zero_le ha
 obtain ⟨m, rfl⟩ := Int.eq_ofNat_of_zero_le (Int.le_of_lt hb)
 simp
theorem acv {a b : Int} (hb : 0 < b) (ha : a < 0) : (a.natAbs % b.natAbs = 0 → a / b = -((a.natAbs / b.natAbs : Nat) : Int)) ∧ (a.natAbs % b.natAbs ≠ 0 → a / b = -((a.natAbs / b.natAbs + 1 : Nat) : Int)) := by
 obtain ⟨m, rfl⟩ := Int.eq_ofNat_of_zero_le (Int.le_of_lt hb)
 obtain ⟨n, hn⟩ : ∃ n : Nat, a = -(n : Int) := ⟨a.natAbs, by omega⟩
 subst hn
 have e1 : (-(n : Int)).natAbs = n := by omega
 have e2 : ((m : Nat) : Int).natAbs = m := by omega
 rw [e1, e2]
 have hm : 0 < m := by omega
 have Cs := Nat.mod_add_div n m
 have hlt := Nat.mod_lt n hm
 constructor
 ·
  intro h0
  refine ((Int.ediv_emod_unique (r := 0) hb).2 ⟨?_, by omega, hb⟩).1
  rw [h0, Nat.zero_add] at Cs
  rw [Int.mul_neg, ← Int.natCast_mul, Cs]; omega
 ·
  intro h0
  refine ((Int.ediv_emod_unique (r := (m : Int) - ((n % m : Nat) : Int)) hb).2 ⟨?_, by omega, by omega⟩).1
  rw [Int.mul_neg, ← Int.natCast_mul, Nat.mul_add, Nat.mul_one]
  generalize m * (n / m) = t at *
  omega
theorem asx (w : World) : vg (w.alloc (.cells #[.int .u32 1] 156)) (some ⟨w.heap.size, 0, none⟩) 1 [1] 1 := by
 have hz : ZB .u32 (w.alloc (.cells #[.int .u32 1] 156)) w.heap.size 156 [1] := heap_alloc_new w _
 exact ⟨hz.Ff _ hz.lt, by simp, by omega, by intro x hx; rw [List.mem_singleton] at hx; subst hx; exact Cf, .inr (by simp), by simp [Wd.val]⟩

set_option maxHeartbeats 4000000 in
theorem anf (A1 : Option Addr) (c1 : Nat) (l1 : List Nat) (m1 : Bool) (z1 : Int) (A2 : Option Addr) (c2 : Nat) (l2 : List Nat) (m2 : Bool) (z2 : Int) (K : Nat) (w : World) (h1 : jc w A1 c1 l1 m1 z1) (h2 : jc w A2 c2 l2 m2 z2) (hb : 0 < z2) (hK : Wd.Sz ic K z1) (hk : l1.length + 1 ≤ 35184372088832) (hk2 : l2.length + 1 ≤ 35184372088832) (hk3 : K + 3 ≤ 35184372088832) (ha : 0 ≤ z1) :
  Calls Tryz.prog 128 #[(Value.agg #[.slice A1 l1.length c1, .bool m1]), (Value.agg #[.slice A2 l2.length c2, .bool m2])] w fun e w' => Al w (z1 / z2) e w' := by
 obtain rfl : m1 = false := by rw [h1.sign]; exact decide_eq_false om
 obtain rfl : m2 = false := by rw [h2.sign]; exact decide_eq_false om
 have hv := apo hb ha
 have HP := hide (fun W (hW : Below w.heap.size w W) => Gb A1 A2 c1 c2 l1 l2 z1.natAbs z2.natAbs W (h1.nat.below hW) (h2.nat.below hW) om om om)
 obtain ⟨p, hp⟩ : ∃ p, p = z1.natAbs / z2.natAbs := ⟨_, rfl⟩
 obtain ⟨r, hr⟩ : ∃ r, r = z1.natAbs % z2.natAbs := ⟨_, rfl⟩
 obtain ⟨z, hz⟩ : ∃ z, z = z1 / z2 := ⟨_, rfl⟩
 have hpK : p + 1 < ic ^ (K + 1) := by
  rw [hp]
  have e1 := Nat.div_le_self z1.natAbs z2.natAbs
  have e2 : ic ^ K < ic ^ (K + 1) := Nat.pow_lt_pow_right Cf om
  have e3 : z1.natAbs < ic ^ K := hK
  omega
 rw [← hp, ← hr] at HP
 rw [← hp] at hv
 rw [← hz] at hv ⊢
 have HV := Lib.hid hv; have HPK := hide hpK
 clear h1 h2 hb ha hp hr hz hv hK hpK
 go_enter Tryz.func128, Tryz.ntmps128
 go_upto_region 1 with fail
 obtain ⟨n0, n1, n2, hsz, hw0⟩ := qg w (.cells #[.slice A1 l1.length c1, .bool false] 61) (.cells #[.slice A2 l2.length c2, .bool false] 61) (.cells #[.slice none 0 0, .bool false] 61)
 generalize (((w.alloc (.cells #[.slice A1 l1.length c1, .bool false] 61)).alloc (.cells #[.slice A2 l2.length c2, .bool false] 61)).alloc (.cells #[.slice none 0 0, .bool false] 61)) = W0 at *
 have k0 : W0.cell? ⟨w.heap.size, 0, none⟩ = some (.slice A1 l1.length c1) := ae n0 0
 have k1 : W0.cell? ⟨w.heap.size, 1, none⟩ = some (.bool false) := ae n0 1
 have k2 : W0.cell? ⟨w.heap.size + 1, 0, none⟩ = some (.slice A2 l2.length c2) := ae n1 0
 have k3 : W0.cell? ⟨w.heap.size + 1, 1, none⟩ = some (.bool false) := ae n1 1
 have q0 := lt_of_block n0; have q1 := lt_of_block n1; have q2 := lt_of_block n2
 have r0 : W0.cell? ⟨w.heap.size + 1 + 1, 0, none⟩ = some (.slice none 0 0) := ae n2 0
 have r1 : W0.cell? ⟨w.heap.size + 1 + 1, 1, none⟩ = some (.bool false) := ae n2 1
 have f0 := bz n2 0; have f1 := bz n2 1
 have NR := Lib.hid n2
 clear n0 n1 n2 hsz
 go_wp2_with fail
 refine ((aa HP) _ hw0).mono ?_
 rintro e W1 ⟨A5, c5, l5, A6, c6, l6, rfl, g5, g6, hb⟩
 have hl6 := g6.Ha
 clear hl6
 have bco := g5.wh; have bcn := g5.cap2; have bcm := g6.wh; have bcl := g6.cap2
 obtain ⟨hc, hfz⟩ := gp hb
 replace k1 := (hc _ _ q0).trans k1
 replace k3 := (hc _ _ q1).trans k3
 replace r0 := (hc _ _ q2).trans r0
 replace r1 := (hc _ _ q2).trans r1
 replace f0 := (hfz _ _ q2).trans f0
 replace f1 := (hfz _ _ q2).trans f1
 replace NR := Lib.hid ((hb.block _ q2).trans NR.out)
 replace hw0 := ek hw0 hb
 replace q0 := Nat.lt_of_lt_of_le q0 hb.size
 replace q1 := Nat.lt_of_lt_of_le q1 hb.size
 replace q2 := Nat.lt_of_lt_of_le q2 hb.size
 have G5 := hide g5
 clear g5 g6 hb hc hfz k0 k2
 go_wp2_with fail
 have hsg := Cu A5 c5 l5 p false W1 (aa G5)
 have Ig := hide hsg
 clear hsg
 refine (aa Ig).mono ?_
 rintro e w' ⟨A8, c8, l8, m8, rfl, g8, hb⟩
 obtain ⟨hc, hfz⟩ := gp hb
 have hblk := (hb.block _ q2).trans NR.out
 have mo := Lib.hid hblk
 have ky := ek hw0 hb
 have e9 : (if (false : Bool) = true then -((p : Nat) : Int) else ((p : Nat) : Int)) = z := by rw [HV.out]; rfl
 rw [e9] at g8
 have G8 := hide g8
 clear hb hblk e9 g8
 go_wp2_with fail
 exact bodyPost_ret (v := .agg #[.slice A8 l8.length c8, .bool m8]) (by simp [results, Tryz.results128, go_sem, hc, r0, r1, q2]) rfl
  ⟨A8, c8, l8, m8, rfl, (aa G8).upto mo.out (Di _ _ _ _) (oh _ _ _ _), ky.grown (oh _ _ _ _) ky.size (fun k hk => by injection hk with hk; omega)⟩

set_option maxHeartbeats 4000000 in
theorem ang (A1 : Option Addr) (c1 : Nat) (l1 : List Nat) (m1 : Bool) (z1 : Int) (A2 : Option Addr) (c2 : Nat) (l2 : List Nat) (m2 : Bool) (z2 : Int) (K : Nat) (w : World) (h1 : jc w A1 c1 l1 m1 z1) (h2 : jc w A2 c2 l2 m2 z2) (hb : 0 < z2) (hK : Wd.Sz ic K z1) (hk : l1.length + 1 ≤ 35184372088832) (hk2 : l2.length + 1 ≤ 35184372088832) (hk3 : K + 3 ≤ 35184372088832) (ha : z1 < 0) (h0 : z1.natAbs % z2.natAbs = 0) :
  Calls Tryz.prog 128 #[(Value.agg #[.slice A1 l1.length c1, .bool m1]), (Value.agg #[.slice A2 l2.length c2, .bool m2])] w fun e w' => Al w (z1 / z2) e w' := by
 obtain rfl : m1 = true := by rw [h1.sign]; exact decide_eq_true ha
 obtain rfl : m2 = false := by rw [h2.sign]; exact decide_eq_false om
 have hv := (acv hb ha).1 h0
 have HP := hide (fun W (hW : Below w.heap.size w W) => Gb A1 A2 c1 c2 l1 l2 z1.natAbs z2.natAbs W (h1.nat.below hW) (h2.nat.below hW) om om om)
 obtain ⟨p, hp⟩ : ∃ p, p = z1.natAbs / z2.natAbs := ⟨_, rfl⟩
 obtain ⟨r, hr⟩ : ∃ r, r = z1.natAbs % z2.natAbs := ⟨_, rfl⟩
 obtain ⟨z, hz⟩ : ∃ z, z = z1 / z2 := ⟨_, rfl⟩
 have hpK : p + 1 < ic ^ (K + 1) := by
  rw [hp]
  have e1 := Nat.div_le_self z1.natAbs z2.natAbs
  have e2 : ic ^ K < ic ^ (K + 1) := Nat.pow_lt_pow_right Cf om
  have e3 : z1.natAbs < ic ^ K := hK
  omega
 rw [← hp, ← hr] at HP
 rw [← hp] at hv
 rw [← hz] at hv ⊢
 have HV := Lib.hid hv; have HPK := hide hpK
 rw [← hr] at h0
 have H0 := hide h0
 clear h0
 clear h1 h2 hb ha hp hr hz hv hK hpK
 go_enter Tryz.func128, Tryz.ntmps128
 go_upto_region 1 with fail
 obtain ⟨n0, n1, n2, hsz, hw0⟩ := qg w (.cells #[.slice A1 l1.length c1, .bool true] 61) (.cells #[.slice A2 l2.length c2, .bool false] 61) (.cells #[.slice none 0 0, .bool false] 61)
 generalize (((w.alloc (.cells #[.slice A1 l1.length c1, .bool true] 61)).alloc (.cells #[.slice A2 l2.length c2, .bool false] 61)).alloc (.cells #[.slice none 0 0, .bool false] 61)) = W0 at *
 have k0 : W0.cell? ⟨w.heap.size, 0, none⟩ = some (.slice A1 l1.length c1) := ae n0 0
 have k1 : W0.cell? ⟨w.heap.size, 1, none⟩ = some (.bool true) := ae n0 1
 have k2 : W0.cell? ⟨w.heap.size + 1, 0, none⟩ = some (.slice A2 l2.length c2) := ae n1 0
 have k3 : W0.cell? ⟨w.heap.size + 1, 1, none⟩ = some (.bool false) := ae n1 1
 have q0 := lt_of_block n0; have q1 := lt_of_block n1; have q2 := lt_of_block n2
 have r0 : W0.cell? ⟨w.heap.size + 1 + 1, 0, none⟩ = some (.slice none 0 0) := ae n2 0
 have r1 : W0.cell? ⟨w.heap.size + 1 + 1, 1, none⟩ = some (.bool false) := ae n2 1
 have f0 := bz n2 0; have f1 := bz n2 1
 have NR := Lib.hid n2
 clear n0 n1 n2 hsz
 go_wp2_with fail
 refine ((aa HP) _ hw0).mono ?_
 rintro e W1 ⟨A5, c5, l5, A6, c6, l6, rfl, g5, g6, hb⟩
 have hl6 := g6.Ha
 replace hl6 := hl6.1 (aa H0)
 have bco := g5.wh; have bcn := g5.cap2; have bcm := g6.wh; have bcl := g6.cap2
 obtain ⟨hc, hfz⟩ := gp hb
 replace k1 := (hc _ _ q0).trans k1
 replace k3 := (hc _ _ q1).trans k3
 replace r0 := (hc _ _ q2).trans r0
 replace r1 := (hc _ _ q2).trans r1
 replace f0 := (hfz _ _ q2).trans f0
 replace f1 := (hfz _ _ q2).trans f1
 replace NR := Lib.hid ((hb.block _ q2).trans NR.out)
 replace hw0 := ek hw0 hb
 replace q0 := Nat.lt_of_lt_of_le q0 hb.size
 replace q1 := Nat.lt_of_lt_of_le q1 hb.size
 replace q2 := Nat.lt_of_lt_of_le q2 hb.size
 have G5 := hide g5
 clear g5 g6 hb hc hfz k0 k2
 go_wp2_with fail
 have hsg := Cu A5 c5 l5 p true W1 (aa G5)
 have Ig := hide hsg
 clear hsg
 refine (aa Ig).mono ?_
 rintro e w' ⟨A8, c8, l8, m8, rfl, g8, hb⟩
 obtain ⟨hc, hfz⟩ := gp hb
 have hblk := (hb.block _ q2).trans NR.out
 have mo := Lib.hid hblk
 have ky := ek hw0 hb
 have e9 : (if (true : Bool) = true then -((p : Nat) : Int) else ((p : Nat) : Int)) = z := by rw [HV.out]; rfl
 rw [e9] at g8
 have G8 := hide g8
 clear hb hblk e9 g8
 go_wp2_with fail
 exact bodyPost_ret (v := .agg #[.slice A8 l8.length c8, .bool m8]) (by simp [results, Tryz.results128, go_sem, hc, r0, r1, q2]) rfl
  ⟨A8, c8, l8, m8, rfl, (aa G8).upto mo.out (Di _ _ _ _) (oh _ _ _ _), ky.grown (oh _ _ _ _) ky.size (fun k hk => by injection hk with hk; omega)⟩

set_option maxHeartbeats 4000000 in
theorem anh (A1 : Option Addr) (c1 : Nat) (l1 : List Nat) (m1 : Bool) (z1 : Int) (A2 : Option Addr) (c2 : Nat) (l2 : List Nat) (m2 : Bool) (z2 : Int) (K : Nat) (w : World) (h1 : jc w A1 c1 l1 m1 z1) (h2 : jc w A2 c2 l2 m2 z2) (hb : 0 < z2) (hK : Wd.Sz ic K z1) (hk : l1.length + 1 ≤ 35184372088832) (hk2 : l2.length + 1 ≤ 35184372088832) (hk3 : K + 3 ≤ 35184372088832) (ha : z1 < 0) (h0 : z1.natAbs % z2.natAbs ≠ 0) :
  Calls Tryz.prog 128 #[(Value.agg #[.slice A1 l1.length c1, .bool m1]), (Value.agg #[.slice A2 l2.length c2, .bool m2])] w fun e w' => Al w (z1 / z2) e w' := by
 obtain rfl : m1 = true := by rw [h1.sign]; exact decide_eq_true ha
 obtain rfl : m2 = false := by rw [h2.sign]; exact decide_eq_false om
 have hv := (acv hb ha).2 h0
 have HP := hide (fun W (hW : Below w.heap.size w W) => Gb A1 A2 c1 c2 l1 l2 z1.natAbs z2.natAbs W (h1.nat.below hW) (h2.nat.below hW) om om om)
 obtain ⟨p, hp⟩ : ∃ p, p = z1.natAbs / z2.natAbs := ⟨_, rfl⟩
 obtain ⟨r, hr⟩ : ∃ r, r = z1.natAbs % z2.natAbs := ⟨_, rfl⟩
 obtain ⟨z, hz⟩ : ∃ z, z = z1 / z2 := ⟨_, rfl⟩
 have hpK : p + 1 < ic ^ (K + 1) := by
  rw [hp]
  have e1 := Nat.div_le_self z1.natAbs z2.natAbs
  have e2 : ic ^ K < ic ^ (K + 1) := Nat.pow_lt_pow_right Cf om
  have e3 : z1.natAbs < ic ^ K := hK
  omega
 rw [← hp, ← hr] at HP
 rw [← hp] at hv
 rw [← hz] at hv ⊢
 have HV := Lib.hid hv; have HPK := hide hpK
 rw [← hr] at h0
 have H0 := hide h0
 clear h0
 clear h1 h2 hb ha hp hr hz hv hK hpK
 go_enter Tryz.func128, Tryz.ntmps128
 go_upto_region 1 with fail
 obtain ⟨n0, n1, n2, hsz, hw0⟩ := qg w (.cells #[.slice A1 l1.length c1, .bool true] 61) (.cells #[.slice A2 l2.length c2, .bool false] 61) (.cells #[.slice none 0 0, .bool false] 61)
 generalize (((w.alloc (.cells #[.slice A1 l1.length c1, .bool true] 61)).alloc (.cells #[.slice A2 l2.length c2, .bool false] 61)).alloc (.cells #[.slice none 0 0, .bool false] 61)) = W0 at *
 have k0 : W0.cell? ⟨w.heap.size, 0, none⟩ = some (.slice A1 l1.length c1) := ae n0 0
 have k1 : W0.cell? ⟨w.heap.size, 1, none⟩ = some (.bool true) := ae n0 1
 have k2 : W0.cell? ⟨w.heap.size + 1, 0, none⟩ = some (.slice A2 l2.length c2) := ae n1 0
 have k3 : W0.cell? ⟨w.heap.size + 1, 1, none⟩ = some (.bool false) := ae n1 1
 have q0 := lt_of_block n0; have q1 := lt_of_block n1; have q2 := lt_of_block n2
 have r0 : W0.cell? ⟨w.heap.size + 1 + 1, 0, none⟩ = some (.slice none 0 0) := ae n2 0
 have r1 : W0.cell? ⟨w.heap.size + 1 + 1, 1, none⟩ = some (.bool false) := ae n2 1
 have f0 := bz n2 0; have f1 := bz n2 1
 have NR := Lib.hid n2
 clear n0 n1 n2 hsz
 go_wp2_with fail
 refine ((aa HP) _ hw0).mono ?_
 rintro e W1 ⟨A5, c5, l5, A6, c6, l6, rfl, g5, g6, hb⟩
 have hl6 := g6.Ha
 replace hl6 : ¬ l6.length = 0 := fun e => (aa H0) (hl6.2 e)
 have hl7 : decide ((0 : Int) < (l6.length : Int)) = true := decide_eq_true om
 have hl8 : decide (0 < l6.length) = true := decide_eq_true om
 have bco := g5.wh; have bcn := g5.cap2; have bcm := g6.wh; have bcl := g6.cap2
 obtain ⟨hc, hfz⟩ := gp hb
 replace k1 := (hc _ _ q0).trans k1
 replace k3 := (hc _ _ q1).trans k3
 replace r0 := (hc _ _ q2).trans r0
 replace r1 := (hc _ _ q2).trans r1
 replace f0 := (hfz _ _ q2).trans f0
 replace f1 := (hfz _ _ q2).trans f1
 replace NR := Lib.hid ((hb.block _ q2).trans NR.out)
 replace hw0 := ek hw0 hb
 replace q0 := Nat.lt_of_lt_of_le q0 hb.size
 replace q1 := Nat.lt_of_lt_of_le q1 hb.size
 replace q2 := Nat.lt_of_lt_of_le q2 hb.size
 have G5 := hide g5
 clear g5 g6 hb hc hfz k0 k2
 go_wp2_with fail
 have hpl := ane A5 (some ⟨W1.heap.size, 0, none⟩) c5 1 l5 [1] p 1 (W1.alloc (.cells #[.int .u32 1] 156)) ((aa G5).below ((Below.refl _ _).alloc (Nat.le_refl _) _)) (asx W1) (by have := (aa G5).len (k := K + 1) (by have := aa HPK; omega); omega) (by simp)
 refine hpl.mono ?_
 rintro e W2 ⟨A7, c7, l7, rfl, g7, hb⟩
 replace hb := ek ((Below.refl W1.heap.size W1).alloc (Nat.le_refl _) _) hb
 obtain ⟨hc, hfz⟩ := gp hb
 replace k1 := (hc _ _ q0).trans k1
 replace k3 := (hc _ _ q1).trans k3
 replace r0 := (hc _ _ q2).trans r0
 replace r1 := (hc _ _ q2).trans r1
 replace f0 := (hfz _ _ q2).trans f0
 replace f1 := (hfz _ _ q2).trans f1
 replace NR := Lib.hid ((hb.block _ q2).trans NR.out)
 replace hw0 := ek hw0 hb
 replace q2 := Nat.lt_of_lt_of_le q2 hb.size
 have buq := g7.wh; have bup := g7.cap2
 have G7 := hide g7
 clear g7 hb hc hfz hpl
 go_wp2_with fail
 have hsg := Cu A7 c7 l7 (p + 1) true W2 (aa G7)
 have Ig := hide hsg
 clear hsg
 refine (aa Ig).mono ?_
 rintro e w' ⟨A8, c8, l8, m8, rfl, g8, hb⟩
 obtain ⟨hc, hfz⟩ := gp hb
 have hblk := (hb.block _ q2).trans NR.out
 have mo := Lib.hid hblk
 have ky := ek hw0 hb
 have e9 : (if (true : Bool) = true then -(((p + 1) : Nat) : Int) else (((p + 1) : Nat) : Int)) = z := by rw [HV.out]; rfl
 rw [e9] at g8
 have G8 := hide g8
 clear hb hblk e9 g8
 go_wp2_with fail
 exact bodyPost_ret (v := .agg #[.slice A8 l8.length c8, .bool m8]) (by simp [results, Tryz.results128, go_sem, hc, r0, r1, q2]) rfl
  ⟨A8, c8, l8, m8, rfl, (aa G8).upto mo.out (Di _ _ _ _) (oh _ _ _ _), ky.grown (oh _ _ _ _) ky.size (fun k hk => by injection hk with hk; omega)⟩

theorem ahu (A1 : Option Addr) (c1 : Nat) (l1 : List Nat) (m1 : Bool) (z1 : Int) (A2 : Option Addr) (c2 : Nat) (l2 : List Nat) (m2 : Bool) (z2 : Int) (K : Nat) (w : World) (h1 : jc w A1 c1 l1 m1 z1) (h2 : jc w A2 c2 l2 m2 z2) (hb : 0 < z2) (hK : Wd.Sz ic K z1) (hk : l1.length + 1 ≤ 35184372088832) (hk2 : l2.length + 1 ≤ 35184372088832) (hk3 : K + 3 ≤ 35184372088832) :
  Calls Tryz.prog 128 #[(Value.agg #[.slice A1 l1.length c1, .bool m1]), (Value.agg #[.slice A2 l2.length c2, .bool m2])] w fun e w' => Al w (z1 / z2) e w' := by
 by_cases ha : 0 ≤ z1
 ·
  exact anf A1 c1 l1 m1 z1 A2 c2 l2 m2 z2 K w h1 h2 hb hK hk hk2 hk3 ha
 ·
  by_cases h0 : z1.natAbs % z2.natAbs = 0
  ·
   exact ang A1 c1 l1 m1 z1 A2 c2 l2 m2 z2 K w h1 h2 hb hK hk hk2 hk3 om h0
  ·
   exact anh A1 c1 l1 m1 z1 A2 c2 l2 m2 z2 K w h1 h2 hb hK hk hk2 hk3 om h0

end Go.Proofs.YtfbcdfoohpkfeaaGreatDoor
namespace Go.Proofs.YtfbcdfoohpkfeaaGreatDoor
open Go.RowKit

end Go.Proofs.YtfbcdfoohpkfeaaGreatDoor
namespace Go.Proofs.YtfbcdfoohpkfeaaGreatDoor
open Go.RowKit

end Go.Proofs.YtfbcdfoohpkfeaaGreatDoor
namespace Go.Proofs.YtfbcdfoohpkfeaaGreatDoor
open Go.RowKit

set_option maxHeartbeats 16000000 in
theorem ahz (A1 : Option Addr) (c1 : Nat) (l1 : List Nat) (m1 : Bool) (A2 : Option Addr) (c2 : Nat) (l2 : List Nat) (m2 : Bool) (z1 b1 n : Int) (p q : Rat) (w : World) (f1 : jc w A1 c1 l1 m1 z1)
  (hd1 : ∀ W, Below w.heap.size w W → Calls Tryz.prog 117 #[(Value.agg #[.slice A1 l1.length c1, .bool m1, .slice A2 l2.length c2, .bool m2])] W fun e w' => Al W b1 e w') (hf : ∀ (A7 : Option Addr) (c7 : Nat) (l7 : List Nat) (m7 : Bool) (A8 : Option Addr) (c8 : Nat) (l8 : List Nat) (m8 : Bool) (W : World), Below w.heap.size w W → jc W A7 c7 l7 m7 z1 → jc W A8 c8 l8 m8 b1 → Calls Tryz.prog 128 #[(Value.agg #[.slice A7 l7.length c7, .bool m7]), (Value.agg #[.slice A8 l8.length c8, .bool m8])] W fun e w' => Al W n e w') (ho : ∀ W, Calls Tryz.prog 129 #[] W fun e w' => Al W 1 e w') (Qq : n = q.num) (hden : (1 : Int) = (q.den : Int)) :
  Calls Tryz.prog 63 #[(Value.agg #[.slice A1 l1.length c1, .bool m1, .slice A2 l2.length c2, .bool m2])] w fun e w' => QR w q e w' := by
 have H1 := hide f1
 clear f1
 have HD1 := hide hd1
 have HF := hide hf
 have HO := hide ho
 clear hd1 hf ho
 go_enter Tryz.func63, Tryz.ntmps63
 go_upto_region 1 with fail
 obtain ⟨n0, n1, hsz, hw0⟩ := xk w (.cells #[.slice A1 l1.length c1, .bool m1, .slice A2 l2.length c2, .bool m2] 63) (.cells #[.slice none 0 0, .bool false, .slice none 0 0, .bool false] 63)
 generalize ((w.alloc (.cells #[.slice A1 l1.length c1, .bool m1, .slice A2 l2.length c2, .bool m2] 63)).alloc (.cells #[.slice none 0 0, .bool false, .slice none 0 0, .bool false] 63)) = W0 at *
 have oz : W0.cell? ⟨w.heap.size, 0, none⟩ = some (.slice A1 l1.length c1) := ae n0 0
 have ou : W0.cell? ⟨w.heap.size, 1, none⟩ = some (.bool m1) := ae n0 1
 have qh : W0.cell? ⟨w.heap.size, 2, none⟩ = some (.slice A2 l2.length c2) := ae n0 2
 have qz : W0.cell? ⟨w.heap.size, 3, none⟩ = some (.bool m2) := ae n0 3
 have q0 : w.heap.size < W0.heap.size := by omega
 have qb : W0.cell? ⟨w.heap.size + 1, 0, none⟩ = some (.slice none 0 0) := ae n1 0
 have qa : W0.cell? ⟨w.heap.size + 1, 1, none⟩ = some (.bool false) := ae n1 1
 have rz : W0.cell? ⟨w.heap.size + 1, 2, none⟩ = some (.slice none 0 0) := ae n1 2
 have uj : W0.cell? ⟨w.heap.size + 1, 3, none⟩ = some (.bool false) := ae n1 3
 have q1 : w.heap.size + 1 < W0.heap.size := by omega
 have Ms := bz n1 0
 have Mr := bz n1 1
 have agl := bz n1 2
 have agk := bz n1 3
 have NR := Lib.hid n1
 clear hsz n0 n1
 replace H1 := hide ((aa H1).below hw0)
 go_upto_region 1 with fail
 have KEEP := hide (show ∀ X, Below W0.heap.size W0 X → X.cell? ⟨w.heap.size, 0, none⟩ = some (.slice A1 l1.length c1) ∧ X.cell? ⟨w.heap.size, 1, none⟩ = some (.bool m1) ∧ X.cell? ⟨w.heap.size, 2, none⟩ = some (.slice A2 l2.length c2) ∧ X.cell? ⟨w.heap.size, 3, none⟩ = some (.bool m2) from fun X hB => ⟨au hB q0 oz, au hB q0 ou, au hB q0 qh, au hB q0 qz⟩)
 go_region_held3 (fun w' => w'.cell? ⟨w.heap.size, 0, none⟩ = some (.slice A1 l1.length c1) ∧ w'.cell? ⟨w.heap.size, 1, none⟩ = some (.bool m1) ∧ w'.cell? ⟨w.heap.size, 2, none⟩ = some (.slice A2 l2.length c2) ∧ w'.cell? ⟨w.heap.size, 3, none⟩ = some (.bool m2)) (first | with_reducible exact ⟨(mr _ _ _ _ _ _ om).trans (au hbw q0 oz), (mr _ _ _ _ _ _ om).trans (au hbw q0 ou), (mr _ _ _ _ _ _ om).trans (au hbw q0 qh), (mr _ _ _ _ _ _ om).trans (au hbw q0 qz)⟩ | with_reducible exact (aa KEEP) _ bel) (first | (go_at_call_of 117 (Value.agg #[.slice A1 l1.length c1, .bool m1, .slice A2 l2.length c2, .bool m2]); refine ((aa HD1) _ (ek hw0 bel)).mono ?_; rintro e w' ⟨A5, c5, l5, m5, rfl, tq, hb5⟩; have hbw := fo (w := W0) bel hb5; have hsw := hbw.size; obtain ⟨hc, hfz⟩ := gp hbw) | (go_at_call_of 128 (Value.agg #[.slice A1 l1.length c1, .bool m1]); refine ((aa HF) A1 c1 l1 m1 A5 c5 l5 m5 _ (ek hw0 bel) (jc.below (aa H1) bel) (jc.below tq bel)).mono ?_; rintro e w' ⟨A6, c6, l6, m6, rfl, xm, hb6⟩; have tq := jc.below (jc.below tq bel) hb6; have hbw := fo (w := W0) bel hb6; have hsw := hbw.size; obtain ⟨hc, hfz⟩ := gp hbw) | (go_at_call 129; refine ((aa HO) _).mono ?_; rintro e w' ⟨A7, c7, l7, m7, rfl, Fu, Eg⟩; have tq := jc.below (jc.below tq bel) Eg; have xm := jc.below (jc.below xm bel) Eg; have hbw := fo (w := W0) bel Eg; have hsw := hbw.size; obtain ⟨hc, hfz⟩ := gp hbw))
 all_goals
  have hblk : w'.heap[w.heap.size + 1]? = some (.cells #[.slice none 0 0, .bool false, .slice none 0 0, .bool false] 63 (0, 0)) := (hbw.block _ q1).trans NR.out
  have mo := Lib.hid hblk
  have ky : Below w.heap.size w w' := ek hw0 hbw
  have hfi := (xm)
  have hfj := (Fu)
  clear hblk
  go_wp2_with fail
  exact bodyPost_ret (v := (Value.agg #[.slice A6 l6.length c6, .bool m6, .slice A7 l7.length c7, .bool m7])) (by simp [results, Tryz.results63, go_sem, hc, qb, qa, rz, uj, q1]) rfl
   ⟨A6, c6, l6, m6, A7, c7, l7, m7, rfl, Qq ▸ hfi.upto mo.out (Bb _ _ _ _ _ _ _ _) (qp _ _ _ _ _ _), hden ▸ hfj.upto mo.out (Bb _ _ _ _ _ _ _ _) (qp _ _ _ _ _ _), ky.grown (qp _ _ _ _ _ _) ky.size (fun k hk => by injection hk with hk; omega)⟩

theorem Wd.aow (n : Int) : n = (Rat.divInt n 1).num ∧ (1 : Int) = ((Rat.divInt n 1).den : Int) := ⟨(Wd.adx n).1.symm, by rw [(Wd.adx n).2]; rfl⟩
theorem aht (K : Nat) (A1 : Option Addr) (c1 : Nat) (l1 : List Nat) (m1 : Bool) (A2 : Option Addr) (c2 : Nat) (l2 : List Nat) (m2 : Bool) (x : Rat) (w : World) (h : QV w A1 c1 l1 m1 A2 c2 l2 m2 x) (sx : Wd.Dc ic K x) (hK : 4 * K + 4 ≤ 35184372088832) :
  Calls Tryz.prog 63 #[(Value.agg #[.slice A1 l1.length c1, .bool m1, .slice A2 l2.length c2, .bool m2])] w fun e w' => QR w (Rat.divInt (x.num / (x.den : Int)) 1) e w' := by
 have hx := x.den_nz
 exact ahz A1 c1 l1 m1 A2 c2 l2 m2 x.num (x.den : Int) _ x _ w h.num (fun W hW => Jg A1 c1 l1 m1 A2 c2 l2 m2 x W (h.below hW))
  (fun A7 c7 l7 m7 A8 c8 l8 m8 W _ f g => ahu A7 c7 l7 m7 _ A8 c8 l8 m8 _ K W f g om sx.1 (by have := f.len sx.1; omega) (by have := g.len sx.2; omega) om)
  aef (Wd.aow _).1 (Wd.aow _).2
end Go.Proofs.YtfbcdfoohpkfeaaGreatDoor
namespace Go.Proofs.YtfbcdfoohpkfeaaGreatDoor
open Go.RowKit

set_option maxHeartbeats 16000000 in
theorem avr (x y : Rat) (o : Int) (w : World) (u1 u2 : Value) (h1 : Ie x w u1) (h2 : Ie y w u2)
  (axl : ∀ (W : World) (v0 : Value), Ie (y) W v0 → Calls Tryz.prog 117 #[v0] W (nk (Gm (y.den)) W))
  (hm1 : ∀ (W : World) (v0 v1 : Value), Gm (x.num) W v0 → Gm (y.den) W v1 → Calls Tryz.prog 120 #[v0, v1] W (nk (Gm (x.num * (y.den : Int))) W))
  (axk : ∀ (W : World) (v0 : Value), Ie (x) W v0 → Calls Tryz.prog 117 #[v0] W (nk (Gm (x.den)) W))
  (hm2 : ∀ (W : World) (v0 v1 : Value), Gm (y.num) W v0 → Gm (x.den) W v1 → Calls Tryz.prog 120 #[v0, v1] W (nk (Gm (y.num * (x.den : Int))) W))
  (hc : ∀ (W : World) (v0 v1 : Value), Gm (x.num * (y.den : Int)) W v0 → Gm (y.num * (x.den : Int)) W v1 → Calls Tryz.prog 140 #[v0, v1] W (nk (Rg.cz (.int .i64 o)) W)) :
  Calls Tryz.prog 71 #[u1, u2] w (nk (Rg.cz (.int .i64 o)) w) := by
 obtain ⟨A1, c1, l1, m1, A2, c2, l2, m2, rfl, hq1⟩ := h1
 obtain ⟨A3, c3, l3, m3, A4, c4, l4, m4, rfl, hq3⟩ := h2
 have beo := hide axl
 have bkm := hide hm1
 have ben := hide axk
 have bkl := hide hm2
 have HHC := hide hc
 clear axl hm1 axk hm2 hc
 go_enter Tryz.func71, Tryz.ntmps71
 go_upto_region 1 with fail
 have hO := (Own.push (Own.push (Own.nil w) (hq1.below (Below.refl _ _)) (w.heap.size) rfl) (hq3.below (by repeat (first | exact Below.refl _ _ | refine jk ?_ _))) (w.heap.size + 1) (by simp only [World.size_alloc]))
 generalize (w.alloc (.cells #[.slice A1 l1.length c1, .bool m1, .slice A2 l2.length c2, .bool m2] 63)).alloc (.cells #[.slice A3 l3.length c3, .bool m3, .slice A4 l4.length c4, .bool m4] 63) = W0 at *
 have HO := hide hO
 clear hO
 go_upto_region 1 with fail
 refine Rg.region 12 16 (Rg.pick [Rg.cz (.pointer (some ⟨w.heap.size, 0, none⟩)), Gm (x).num, Ie (y), Gm (y.den : Int), Gm (x.num * (y.den : Int)), Rg.cz (.pointer (some ⟨w.heap.size + 1, 0, none⟩)), Gm (y).num, Ie (x), Gm (x.den : Int), Gm (y.num * (x.den : Int)), Rg.cz (.int .i64 o), Rg.cz (.int .i64 o)]) (dw w [(w.heap.size + 1, y), (w.heap.size, x)] W0) jb [] kr kr rfl (Rg.iq.pick ⟨Rg.ag _, Nq _, ail _, Nq _, Nq _, Rg.ag _, Nq _, ail _, Nq _, Nq _, Rg.ag _, Rg.ag _, trivial⟩) (dw.start (aa HO))
  (Rg.dz (Rg.plain rfl (aio rfl (Rg.gm kr rfl) rfl))
   (Rg.dz (Rg.plain rfl (aim rfl (Rg.ai 0 kr) (fun W h => dw.box (List.Mem.tail _ (List.Mem.head _)) h) rfl))
   (Rg.dz (Rg.plain rfl (ain rfl (Rg.gm kr rfl) (fun W h => dw.box (List.Mem.head _) h) rfl))
   (Rg.dz (Rg.plain rfl (ku Tryz.func117 kr rfl dw.step (Rg.ai 2 kr) (fun W v0 hG h0 => aa beo W v0 h0)))
   (Rg.dz (Rg.plain rfl (ll Tryz.func120 kr rfl dw.step (Rg.ai 1 kr) (Rg.ai 3 kr) (fun W v0 v1 hG h0 h1 => aa bkm W v0 v1 h0 h1)))
   (Rg.dz (Rg.plain rfl (aio rfl (Rg.gm kr rfl) rfl))
   (Rg.dz (Rg.plain rfl (aim rfl (Rg.ai 5 kr) (fun W h => dw.box (List.Mem.head _) h) rfl))
   (Rg.dz (Rg.plain rfl (ain rfl (Rg.gm kr rfl) (fun W h => dw.box (List.Mem.tail _ (List.Mem.head _)) h) rfl))
   (Rg.dz (Rg.plain rfl (ku Tryz.func117 kr rfl dw.step (Rg.ai 7 kr) (fun W v0 hG h0 => aa ben W v0 h0)))
   (Rg.dz (Rg.plain rfl (ll Tryz.func120 kr rfl dw.step (Rg.ai 6 kr) (Rg.ai 8 kr) (fun W v0 v1 hG h0 h1 => aa bkl W v0 v1 h0 h1)))
   (Rg.dz (Rg.plain rfl (ll Tryz.func140 kr rfl dw.step (Rg.ai 4 kr) (Rg.ai 9 kr) (fun W v0 v1 hG h0 h1 => aa HHC W v0 v1 h0 h1)))
   (Rg.dz (Rg.plain rfl (ma rfl (Rg.ai 10 kr)))
   Rg.fq)))))))))))) ?_
 intro v V1 hG1 hv hne
 clear hne
 simp only [Rg.puts, List.take_succ_cons, List.take_zero, List.drop_succ_cons, List.drop_zero, Act.put, List.setIfInBounds_toArray, List.set_cons_zero, List.set_cons_succ]
 have e11 : v 11 = .int .i64 o := hv 11 (by decide)
 simp only [e11]
 have hO := hG1.1
 clear hG1
 try clear e11
 try clear hv
 replace HO := hide hO
 clear hO
 have HB := hide (aa HO).bel
 clear HO
 go_wp2_with fail
 all_goals first | go_ret | skip
 exact ⟨_, rfl, aa HB, rfl⟩
theorem aqf (x : Rat) (W : World) (v : Value) (h : Ie x W v) : Calls Tryz.prog 117 #[v] W (nk (Gm (x.den : Int)) W) := by
 obtain ⟨A1, c1, l1, m1, A2, c2, l2, m2, rfl, hq⟩ := h
 exact (Jg A1 c1 l1 m1 A2 c2 l2 m2 x W hq).mono (fun e w' => abw)
theorem apu {a b : Int} {K : Nat} (ha : Wd.Sz ic K a) (hb : Wd.Sz ic K b) (hK : 4 * K + 4 ≤ 35184372088832) (W : World) (v0 v1 : Value) (h0 : Gm a W v0) (h1 : Gm b W v1) : Calls Tryz.prog 120 #[v0, v1] W (nk (Gm (a * b)) W) := by
 obtain ⟨A1, c1, l1, m1, rfl, f1⟩ := h0
 obtain ⟨A2, c2, l2, m2, rfl, f2⟩ := h1
 exact (aeg A1 c1 l1 m1 a A2 c2 l2 m2 b W f1 f2 (by have := f1.len ha; have := f2.len hb; omega)).mono (fun e w' => abw)
theorem bdg {a b : Int} (W : World) (v0 v1 : Value) (h0 : Gm a W v0) (h1 : Gm b W v1) : Calls Tryz.prog 140 #[v0, v1] W (nk (Rg.cz (.int .i64 (ja (a - b)))) W) := by
 obtain ⟨A1, c1, l1, m1, rfl, f1⟩ := h0
 obtain ⟨A2, c2, l2, m2, rfl, f2⟩ := h1
 exact (ata A1 c1 l1 m1 a A2 c2 l2 m2 b W f1 f2).mono (fun e w' h => ⟨_, h.1, h.2, rfl⟩)
theorem Gy {x y : Rat} {K : Nat} (sx : Wd.Dc ic K x) (sy : Wd.Dc ic K y) (hK : 4 * K + 4 ≤ 35184372088832) (W : World) (v0 v1 : Value) (h0 : Ie x W v0) (h1 : Ie y W v1) : Calls Tryz.prog 71 #[v0, v1] W (nk (Rg.cz (.int .i64 (ja (x.num * (y.den : Int) - y.num * (x.den : Int))))) W) :=
 avr x y _ W v0 v1 h0 h1 (fun W v h => aqf y W v h) (fun W v0 v1 h0 h1 => apu sx.1 sy.2 hK W v0 v1 h0 h1) (fun W v h => aqf x W v h) (fun W v0 v1 h0 h1 => apu sy.1 sx.2 hK W v0 v1 h0 h1) (fun W v0 v1 h0 h1 => bdg W v0 v1 h0 h1)
theorem Tq {x y : Rat} {K : Nat} (sx : Wd.Dc ic K x) (sy : Wd.Dc ic K y) (hK : 4 * K + 4 ≤ 35184372088832)  (W : World) (v0 v1 : Value) (h0 : Ie x W v0) (h1 : Ie y W v1) : Calls Tryz.prog 52 #[v0, v1] W (nk (Ie (x * y)) W) := by
 obtain ⟨A1, c1, l1, m1, A2, c2, l2, m2, rfl, f1⟩ := h0
 obtain ⟨A3, c3, l3, m3, A4, c4, l4, m4, rfl, f2⟩ := h1
 exact (anc K A1 c1 l1 m1 A2 c2 l2 m2 A3 c3 l3 m3 A4 c4 l4 m4 x y W f1 f2 sx sy hK).mono (fun e w' => Yp)
theorem abh {x : Rat} {K : Nat} (sx : Wd.Dc ic K x) (hK : 4 * K + 4 ≤ 35184372088832) (W : World) (v0 : Value) (h0 : Ie x W v0) : Calls Tryz.prog 63 #[v0] W (nk (Ie (Rat.divInt (x.num / (x.den : Int)) 1)) W) := by
 obtain ⟨A1, c1, l1, m1, A2, c2, l2, m2, rfl, f1⟩ := h0
 exact (aht K A1 c1 l1 m1 A2 c2 l2 m2 x W f1 sx hK).mono (fun e w' => Yp)
theorem axm {x : Rat} (W : World) (v0 : Value) (h0 : Ie x W v0) : Calls Tryz.prog 121 #[v0] W (nk (Ie (-x)) W) := by
 obtain ⟨A1, c1, l1, m1, A2, c2, l2, m2, rfl, f1⟩ := h0
 exact (anb A1 c1 l1 m1 A2 c2 l2 m2 x W f1).mono (fun e w' => Yp)

end Go.Proofs.YtfbcdfoohpkfeaaGreatDoor
namespace Go.Proofs.YtfbcdfoohpkfeaaGreatDoor
open Go.RowKit


theorem alc {n d : Int} (h : Wd.wm n d) : -9223372036854775808 ≤ n ∧ n ≤ 9223372036854775807 ∧ -9223372036854775808 ≤ d ∧ d ≤ 9223372036854775807 ∧ d ≠ 0 := by
 obtain ⟨r1, r2, r3, r4, _⟩ := h
 exact ⟨by omega, by omega, by omega, by omega, by omega⟩
theorem azi {n d : Int} (h : Wd.wm n d) : Wd.Dc ic 2 (Wd.qR n d) := by
 obtain ⟨a1, a2⟩ := Wd.Ni h
 obtain ⟨r1, r2, r3, r4, _⟩ := h
 unfold Wd.Dc Wd.Sz
 rw [a1, a2, iw]
 exact ⟨by omega, by omega⟩
theorem bfm {n d : Int} (h : Wd.wm n d) (W : World) : Calls Tryz.prog 48 #[(Value.agg #[.int .i64 n, .int .i64 d])] W fun e w' => QR W (Wd.qR n d) e w' := by
 obtain ⟨b1, b2, b3, b4, b5⟩ := alc h
 exact ayf n d W b1 b2 b3 b4 b5
end Go.Proofs.YtfbcdfoohpkfeaaGreatDoor
namespace Go.Proofs.YtfbcdfoohpkfeaaGreatDoor
open Go.RowKit

set_option maxHeartbeats 2000000 in
theorem abz (A1 : Option Addr) (c1 : Nat) (l1 : List Nat) (m1 : Bool) (A2 : Option Addr) (c2 : Nat) (l2 : List Nat) (m2 : Bool) (q : Rat) (w : World) (h : QV w A1 c1 l1 m1 A2 c2 l2 m2 q) :
  Calls Tryz.prog 102 #[.agg #[.slice A1 l1.length c1, .bool m1, .slice A2 l2.length c2, .bool m2]] w fun e w' => bkf w q e w' := by
 have uo := hide (fun W (hW : Below w.heap.size w W) => Yk A1 c1 l1 m1 q.num W (h.num.below hW))
 have HS2 := hide (fun A c l m W (f : jc W A c l m (q.den : Int)) => Yk A c l m (q.den : Int) W f)
 have HD := hide (fun W (hW : Below w.heap.size w W) => Jg A1 c1 l1 m1 A2 c2 l2 m2 q W (h.below hW))
 have ht : (Wd.fits q → Wd.told q = ⟨q.num, q.den, 0⟩) ∧ (¬ Wd.fits q → Wd.told q = ⟨0, 0, 3⟩) := ⟨fun h => if_pos h, fun h => if_neg h⟩
 have hfi : Wd.fits q ↔ q.num.natAbs ≤ 1000000000000 ∧ q.den ≤ 1000000000000 := Iff.rfl
 have HT := hide (And.intro ht hfi)
 clear h ht hfi
 go_enter Tryz.func102, Tryz.ntmps102
 go_wp2_with fail
 obtain ⟨n0, n1, hsz, hw0⟩ := xk w (.cells #[.slice A1 l1.length c1, .bool m1, .slice A2 l2.length c2, .bool m2] 63) (.cells #[.int .i64 0, .int .i64 0] 23)
 generalize ((w.alloc (.cells #[.slice A1 l1.length c1, .bool m1, .slice A2 l2.length c2, .bool m2] 63)).alloc (.cells #[.int .i64 0, .int .i64 0] 23)) = W0 at *
 have k0 : W0.cell? ⟨w.heap.size, 0, none⟩ = some (.slice A1 l1.length c1) := ae n0 0
 have k1 : W0.cell? ⟨w.heap.size, 1, none⟩ = some (.bool m1) := ae n0 1
 have k2 : W0.cell? ⟨w.heap.size, 2, none⟩ = some (.slice A2 l2.length c2) := ae n0 2
 have k3 : W0.cell? ⟨w.heap.size, 3, none⟩ = some (.bool m2) := ae n0 3
 have p0 : W0.cell? ⟨w.heap.size + 1, 0, none⟩ = some (.int .i64 0) := ae n1 0
 have p1 : W0.cell? ⟨w.heap.size + 1, 1, none⟩ = some (.int .i64 0) := ae n1 1
 have v0 := bz n1 0; have v1 := bz n1 1
 have q0 := lt_of_block n0; have q1 := lt_of_block n1
 clear n0 n1 hsz
 refine ((aa uo) _ hw0).mono ?_
 rintro e W1 ⟨x1, ok1, rfl, hok1, hx1, hb1⟩
 obtain ⟨hc1, hf1⟩ := gp hb1
 have hw1 := ek hw0 hb1
 have OK1 := Lib.hid hok1; have X1 := hide hx1; have HB1 := hide hb1; have HW1 := hide hw1
 clear hok1 hx1 hb1 hw1
 go_wp2_with fail
 refine ((aa HD) _ (aa HW1)).mono ?_
 rintro e W2 ⟨A9, c9, l9, m9, rfl, f9, hb2⟩
 have F9 := hide f9
 clear f9
 have hb2' := ek (aa HB1) hb2
 obtain ⟨hc2, hf2⟩ := gp hb2'
 have hw2 := ek hw0 hb2'
 have HB2 := hide hb2'; have HW2 := hide hw2
 clear hb2 hb2' hw2 hc1 hf1
 go_wp2_with fail
 refine ((aa HS2) A9 c9 l9 m9 _ (aa F9)).mono ?_
 rintro e W3 ⟨x2, ok2, rfl, hok2, hx2, hb3⟩
 have aba := ek (aa HB2) hb3
 obtain ⟨hc3, hf3⟩ := gp aba
 have hw3 := ek hw0 aba
 have OK2 := Lib.hid hok2; have X2 := hide hx2; have HW3 := hide hw3
 have hg9 : ∀ u0 u1 : Value, Below w.heap.size w ((W3.setCell ⟨w.heap.size + 1, 0, none⟩ u0).setCell ⟨w.heap.size + 1, 1, none⟩ u1) := fun u0 u1 => hw3.grown (oh _ _ _ _) hw3.size (fun k hk => by injection hk with hk; omega)
 have HG9 := hide hg9
 clear hok2 hx2 hb3 aba hw3 hc2 hf2 hg9 uo HS2 HD HB1 HB2 HW1 HW2
 cases ok1 <;> cases ok2
 ·
  have hn : ¬ Wd.fits q := fun h => by have := (aa HT).2.1 h; have h2 := of_decide_eq_false OK1.out.symm; omega
  have HN := Lib.hid ((aa HT).1.2 hn)
  clear hn
  go_wp2_with fail
  exact bodyPost_ret (v := .tuple #[.agg #[.int .i64 0, .int .i64 0], .bool false]) (by simp [results, Tryz.results102, go_sem, hc3, p0, p1, q1]) rfl ⟨0, 0, false, rfl, (aa HG9) _ _, .inr ⟨rfl, HN.out⟩⟩
 ·
  have hn : ¬ Wd.fits q := fun h => by have := (aa HT).2.1 h; have h2 := of_decide_eq_false OK1.out.symm; omega
  have HN := Lib.hid ((aa HT).1.2 hn)
  clear hn
  go_wp2_with fail
  exact bodyPost_ret (v := .tuple #[.agg #[.int .i64 0, .int .i64 0], .bool false]) (by simp [results, Tryz.results102, go_sem, hc3, p0, p1, q1]) rfl ⟨0, 0, false, rfl, (aa HG9) _ _, .inr ⟨rfl, HN.out⟩⟩
 ·
  have hn : ¬ Wd.fits q := fun h => by have := (aa HT).2.1 h; have h2 := of_decide_eq_false OK2.out.symm; omega
  have HN := Lib.hid ((aa HT).1.2 hn)
  clear hn
  go_wp2_with fail
  exact bodyPost_ret (v := .tuple #[.agg #[.int .i64 0, .int .i64 0], .bool false]) (by simp [results, Tryz.results102, go_sem, hc3, p0, p1, q1]) rfl ⟨0, 0, false, rfl, (aa HG9) _ _, .inr ⟨rfl, HN.out⟩⟩
 ·
  have e1 := (aa X1) rfl
  have e2 := (aa X2) rfl
  subst e1 e2
  by_cases hfit : Wd.fits q
  ·
   have HN := Lib.hid ((aa HT).1.1 hfit)
   obtain ⟨a1, a2⟩ := (aa HT).2.1 hfit
   have d1 : decide (q.num < -1000000000000) = false := decide_eq_false om
   have d2 : decide (1000000000000 < q.num) = false := decide_eq_false om
   have d3 : decide ((1000000000000 : Int) < (q.den : Int)) = false := decide_eq_false om
   clear hfit
   go_wp2_with fail
   all_goals first | omega | skip
   exact bodyPost_ret (v := .tuple #[.agg #[.int .i64 q.num, .int .i64 q.den], .bool true]) (by simp [results, Tryz.results102, go_sem, hc3, p0, p1, q1]) rfl ⟨q.num, q.den, true, rfl, (aa HG9) _ _, .inl ⟨rfl, HN.out⟩⟩
  ·
   have HN := Lib.hid ((aa HT).1.2 hfit)
   have hor : q.num < -1000000000000 ∨ 1000000000000 < q.num ∨ (1000000000000 : Int) < (q.den : Int) := by
    have h1 := (aa HT).2.2
    by_cases a : q.num < -1000000000000
    ·
     exact .inl a
    by_cases b : 1000000000000 < q.num
    ·
     exact .inr (.inl b)
    by_cases c : (1000000000000 : Int) < (q.den : Int)
    ·
     exact .inr (.inr c)
    exact absurd (h1 ⟨by omega, by omega⟩) hfit
   clear hfit
   go_wp2_with fail
   all_goals first | omega | skip
   all_goals exact bodyPost_ret (v := .tuple #[.agg #[.int .i64 0, .int .i64 0], .bool false]) (by simp [results, Tryz.results102, go_sem, hc3, p0, p1, q1]) rfl ⟨0, 0, false, rfl, (aa HG9) _ _, .inr ⟨rfl, HN.out⟩⟩
end Go.Proofs.YtfbcdfoohpkfeaaGreatDoor
namespace Go.Proofs.YtfbcdfoohpkfeaaGreatDoor
open Go.RowKit

namespace Sb
theorem ady {W : World} {x : Rat} {v : Value} (h : bg [.r x] W v) : ∃ A1 c1 l1 m1 A2 c2 l2 m2, v = .agg #[.slice A1 (List.length l1) c1, .bool m1, .slice A2 (List.length l2) c2, .bool m2] ∧ QV W A1 c1 l1 m1 A2 c2 l2 m2 x := by
 obtain ⟨cs, rfl, h⟩ := h
 obtain ⟨A1, c1, l1, m1, A2, c2, l2, m2, r, rfl, h1, h⟩ := h.akw
 cases h
 exact ⟨_, _, _, _, _, _, _, _, rfl, h1⟩
theorem aac {W : World} {x y : Rat} {v : Value} (h : bg [.r x, .r y] W v) : ∃ A1 c1 l1 m1 A2 c2 l2 m2 A3 c3 l3 m3 A4 c4 l4 m4, v = .agg #[.slice A1 (List.length l1) c1, .bool m1, .slice A2 (List.length l2) c2, .bool m2, .slice A3 (List.length l3) c3, .bool m3, .slice A4 (List.length l4) c4, .bool m4] ∧ QV W A1 c1 l1 m1 A2 c2 l2 m2 x ∧ QV W A3 c3 l3 m3 A4 c4 l4 m4 y := by
 obtain ⟨cs, rfl, h⟩ := h
 obtain ⟨A1, c1, l1, m1, A2, c2, l2, m2, r, rfl, h1, h⟩ := h.akw
 obtain ⟨A3, c3, l3, m3, A4, c4, l4, m4, r, rfl, h2, h⟩ := h.akw
 cases h
 exact ⟨_, _, _, _, _, _, _, _, _, _, _, _, _, _, _, _, rfl, h1, h2⟩
theorem awn {W : World} {x : Rat} {v : Value} (h : bg [.r x] W v) : Ie x W v := by
 obtain ⟨A1, c1, l1, m1, A2, c2, l2, m2, rfl, h1⟩ := ady h
 exact ⟨_, _, _, _, _, _, _, _, rfl, h1⟩
theorem bfl {W : World} {x : Rat} {v : Value} (h : Ie x W v) : bg [.r x] W v := by
 obtain ⟨A1, c1, l1, m1, A2, c2, l2, m2, rfl, h1⟩ := h
 exact ⟨_, rfl, jf.r h1 rfl⟩
theorem bas {w w' : World} {q : Rat} {e : Ending} (h : nk (Ie q) w e w') : nk (bg [.r q]) w e w' := by
 obtain ⟨u, h1, h2, h3⟩ := h
 exact ⟨u, h1, h2, bfl h3⟩
def Fw (K : Nat) (x : Rat) : Prop := Wd.Dc ic K x ∧ K ≤ 1000000
theorem Cq {n d : Int} (ok : Wd.wm n d) : Fw 2 (Wd.qR n d) := ⟨azi ok, by omega⟩
def Da : World → Value → Prop := fun W v => ∃ n d : Int, bg [.v (.int .i64 n), .v (.int .i64 d)] W v
theorem De : Rg.Gj jb Da := fun w w' v hb ⟨n, d, h⟩ => ⟨n, d, cu _ _ _ _ hb h⟩
variable {W : World} {v0 v1 : Value} {x y : Rat} {K : Nat}
theorem Cb (hx : Fw K x) (hy : Fw K y) (h0 : bg [.r x] W v0) (h1 : bg [.r y] W v1) : Calls Tryz.prog 71 #[v0, v1] W (nk (Rg.cz (.int .i64 (ja (x.num * y.den - y.num * x.den)))) W) :=
 Go.Proofs.YtfbcdfoohpkfeaaGreatDoor.Gy hx.1 hy.1 (by have := hx.2; omega) W v0 v1 (awn h0) (awn h1)
theorem Xb {n d : Int} (ok : Wd.wm n d) (h0 : bg [.v (.int .i64 n), .v (.int .i64 d)] W v0) : Calls Tryz.prog 48 #[v0] W (nk (bg [.r (Wd.qR n d)]) W) := by
 rw [Ke h0]
 exact (bfm ok W).mono fun e w' h => bas (Yp h)
theorem Sk {n d : Int} (h0 : bg [.v (.int .i64 n), .v (.int .i64 d)] W v0) : Calls Tryz.prog 60 #[v0] W (nk (Rg.cz (.bool (decide (Wd.wm n d)))) W) := by
 rw [Ke h0]
 exact (ayg n d W).mono fun e w' h => Vf h
theorem Si (hf : Wd.fits x) (h0 : bg [.r x] W v0) : Calls Tryz.prog 102 #[v0] W (nk (qj [bg [.v (.int .i64 x.num), .v (.int .i64 (x.den : Int))], Rg.cz (.bool true)]) W) := by
 obtain ⟨A1, c1, l1, m1, A2, c2, l2, m2, rfl, h1⟩ := ady h0
 refine (abz A1 c1 l1 m1 A2 c2 l2 m2 x W h1).mono fun e w' ⟨n, d, ok, he, hb, hc⟩ => ?_
 have ht : Wd.told x = ⟨x.num, x.den, 0⟩ := if_pos hf
 rw [ht] at hc
 rcases hc with ⟨rfl, h2⟩ | ⟨_, h2⟩
 ·
  injection h2 with e1 e2 e3
  subst e1 e2
  exact ⟨_, he, hb, [_, _], rfl, _, _, rfl, Ow _ _ _, _, _, rfl, rfl, rfl⟩
 ·
  injection h2 with e1 e2 e3
  omega
theorem Sj (hf : ¬ Wd.fits x) (h0 : bg [.r x] W v0) : Calls Tryz.prog 102 #[v0] W (nk (qj [Da, Rg.cz (.bool false)]) W) := by
 obtain ⟨A1, c1, l1, m1, A2, c2, l2, m2, rfl, h1⟩ := ady h0
 refine (abz A1 c1 l1 m1 A2 c2 l2 m2 x W h1).mono fun e w' ⟨n, d, ok, he, hb, hc⟩ => ?_
 have ht : Wd.told x = ⟨0, 0, 3⟩ := if_neg hf
 rw [ht] at hc
 rcases hc with ⟨_, h2⟩ | ⟨rfl, h2⟩
 ·
  injection h2 with e1 e2 e3
  omega
 ·
  exact ⟨_, he, hb, [_, _], rfl, _, _, rfl, ⟨n, d, Ow _ _ _⟩, _, _, rfl, rfl, rfl⟩
theorem og : Ki Tryz.prog 63 4 := by
 intro ρ w d x b off us ty pos af gd hl hc hx
 match us, hl with
 | [u0, u1, u2, u3], _ =>
 have k0 : w.cell? ⟨b, off, none⟩ = some u0 := hc 0 om
 have k1 : w.cell? ⟨b, off + 1, none⟩ = some u1 := hc 1 om
 have k2 : w.cell? ⟨b, off + 2, none⟩ = some u2 := hc 2 om
 have k3 : w.cell? ⟨b, off + 3, none⟩ = some u3 := hc 3 om
 clear hc
 simp only [execOp, hx]
 simp [go_sem, k0, k1, k2, k3]
theorem Rh : Ki Tryz.prog 100 8 := by
 intro ρ w d x b off us ty pos af gd hl hc hx
 match us, hl with
 | [u0, u1, u2, u3, u4, u5, u6, u7], _ =>
 have k0 : w.cell? ⟨b, off, none⟩ = some u0 := hc 0 om
 have k1 : w.cell? ⟨b, off + 1, none⟩ = some u1 := hc 1 om
 have k2 : w.cell? ⟨b, off + 2, none⟩ = some u2 := hc 2 om
 have k3 : w.cell? ⟨b, off + 3, none⟩ = some u3 := hc 3 om
 have k4 : w.cell? ⟨b, off + 4, none⟩ = some u4 := hc 4 om
 have k5 : w.cell? ⟨b, off + 5, none⟩ = some u5 := hc 5 om
 have k6 : w.cell? ⟨b, off + 6, none⟩ = some u6 := hc 6 om
 have k7 : w.cell? ⟨b, off + 7, none⟩ = some u7 := hc 7 om
 clear hc
 simp only [execOp, hx]
 simp [go_sem, k0, k1, k2, k3, k4, k5, k6, k7]
theorem Np : Fv Tryz.prog 63 4 := by
 intro ρ w d p x b off cs TB us ty pos af gd hl hu hb ho hp hx
 match us, hl with
 | [u0, u1, u2, u3], _ =>
 have o0 := hu u0 (by simp)
 have o1 := hu u1 (by simp)
 have o2 := hu u2 (by simp)
 have o3 := hu u3 (by simp)
 have f0 : w.frozen? ⟨b, off, none⟩ = false := bz hb _
 have f1 : w.frozen? ⟨b, off + 1, none⟩ = false := bz hb _
 have f2 : w.frozen? ⟨b, off + 2, none⟩ = false := bz hb _
 have f3 : w.frozen? ⟨b, off + 3, none⟩ = false := bz hb _
 obtain ⟨c0, k0⟩ : ∃ c, w.cell? ⟨b, off, none⟩ = some c := pg hb om
 obtain ⟨c1, k1⟩ : ∃ c, w.cell? ⟨b, off + 1, none⟩ = some c := pg hb om
 obtain ⟨c2, k2⟩ : ∃ c, w.cell? ⟨b, off + 2, none⟩ = some c := pg hb om
 obtain ⟨c3, k3⟩ : ∃ c, w.cell? ⟨b, off + 3, none⟩ = some c := pg hb om
 have hlt := lt_of_block hb
 clear hb ho hu
 simp only [execOp, hp, hx, setM]
 simp [go_sem, hlt, run_store _ _ _ _ _ o0, o0, run_store _ _ _ _ _ o1, o1, run_store _ _ _ _ _ o2, o2, run_store _ _ _ _ _ o3, o3, k0, k1, k2, k3, f0, f1, f2, f3]
theorem Gr : Fv Tryz.prog 100 8 := by
 intro ρ w d p x b off cs TB us ty pos af gd hl hu hb ho hp hx
 match us, hl with
 | [u0, u1, u2, u3, u4, u5, u6, u7], _ =>
 have o0 := hu u0 (by simp)
 have o1 := hu u1 (by simp)
 have o2 := hu u2 (by simp)
 have o3 := hu u3 (by simp)
 have o4 := hu u4 (by simp)
 have o5 := hu u5 (by simp)
 have o6 := hu u6 (by simp)
 have o7 := hu u7 (by simp)
 have f0 : w.frozen? ⟨b, off, none⟩ = false := bz hb _
 have f1 : w.frozen? ⟨b, off + 1, none⟩ = false := bz hb _
 have f2 : w.frozen? ⟨b, off + 2, none⟩ = false := bz hb _
 have f3 : w.frozen? ⟨b, off + 3, none⟩ = false := bz hb _
 have f4 : w.frozen? ⟨b, off + 4, none⟩ = false := bz hb _
 have f5 : w.frozen? ⟨b, off + 5, none⟩ = false := bz hb _
 have f6 : w.frozen? ⟨b, off + 6, none⟩ = false := bz hb _
 have f7 : w.frozen? ⟨b, off + 7, none⟩ = false := bz hb _
 obtain ⟨c0, k0⟩ : ∃ c, w.cell? ⟨b, off, none⟩ = some c := pg hb om
 obtain ⟨c1, k1⟩ : ∃ c, w.cell? ⟨b, off + 1, none⟩ = some c := pg hb om
 obtain ⟨c2, k2⟩ : ∃ c, w.cell? ⟨b, off + 2, none⟩ = some c := pg hb om
 obtain ⟨c3, k3⟩ : ∃ c, w.cell? ⟨b, off + 3, none⟩ = some c := pg hb om
 obtain ⟨c4, k4⟩ : ∃ c, w.cell? ⟨b, off + 4, none⟩ = some c := pg hb om
 obtain ⟨c5, k5⟩ : ∃ c, w.cell? ⟨b, off + 5, none⟩ = some c := pg hb om
 obtain ⟨c6, k6⟩ : ∃ c, w.cell? ⟨b, off + 6, none⟩ = some c := pg hb om
 obtain ⟨c7, k7⟩ : ∃ c, w.cell? ⟨b, off + 7, none⟩ = some c := pg hb om
 have hlt := lt_of_block hb
 clear hb ho hu
 simp only [execOp, hp, hx, setM]
 simp [go_sem, hlt, run_store _ _ _ _ _ o0, o0, run_store _ _ _ _ _ o1, o1, run_store _ _ _ _ _ o2, o2, run_store _ _ _ _ _ o3, o3, run_store _ _ _ _ _ o4, o4, run_store _ _ _ _ _ o5, o5, run_store _ _ _ _ _ o6, o6, run_store _ _ _ _ _ o7, o7, k0, k1, k2, k3, k4, k5, k6, k7, f0, f1, f2, f3, f4, f5, f6, f7]
theorem ads : Qi Tryz.prog 100 [.slice none 0 0, .bool false, .slice none 0 0, .bool false, .slice none 0 0, .bool false, .slice none 0 0, .bool false] := by
 intro ρ w d ty pos af gd
 simp only [execOp]
 simp [go_sem]
theorem Nv : Kh Tryz.prog 100 8 := by
 intro w b off us hl hc
 match us, hl with
 | [u0, u1, u2, u3, u4, u5, u6, u7], _ =>
 have k0 : w.cell? ⟨b, off, none⟩ = some u0 := hc 0 om
 have k1 : w.cell? ⟨b, off + 1, none⟩ = some u1 := hc 1 om
 have k2 : w.cell? ⟨b, off + 2, none⟩ = some u2 := hc 2 om
 have k3 : w.cell? ⟨b, off + 3, none⟩ = some u3 := hc 3 om
 have k4 : w.cell? ⟨b, off + 4, none⟩ = some u4 := hc 4 om
 have k5 : w.cell? ⟨b, off + 5, none⟩ = some u5 := hc 5 om
 have k6 : w.cell? ⟨b, off + 6, none⟩ = some u6 := hc 6 om
 have k7 : w.cell? ⟨b, off + 7, none⟩ = some u7 := hc 7 om
 clear hc
 simp [go_sem, k0, k1, k2, k3, k4, k5, k6, k7]
theorem aje : aaj Tryz.prog 100 4 4 := by
 intro ρ w d x y us vs ty pos af gd h1 h2 e1 e2
 match us, h1, vs, h2 with
 | [u0, u1, u2, u3], _, [v0, v1, v2, v3], _ =>
 simp only [execOp]
 simp [go_sem, e1, e2]
 try rfl
theorem amg : Rv Tryz.prog 154 63 4 4 := by
 intro ρ w d ps cs ty pos af gd hm h
 match ps, hm with
 | [(i0, x0), (i1, x1), (i2, x2), (i3, x3)], _ =>
 obtain ⟨us0, r0, rfl, l0, e0, g0, h⟩ := h
 obtain ⟨us1, r1, rfl, l1, e1, g1, h⟩ := h
 obtain ⟨us2, r2, rfl, l2, e2, g2, h⟩ := h
 obtain ⟨us3, r3, rfl, l3, e3, g3, h⟩ := h
 cases h
 match us0, l0 with
 | [awe, awd, awc, avz], _ =>
 match us1, l1 with
 | [bdu, bdt, bds, bdr], _ =>
 match us2, l2 with
 | [bjy, bjx, bjw, bjv], _ =>
 match us3, l3 with
 | [buz, buy, bux, buw], _ =>
 dsimp only at e0 e1 e2 e3 g0 g1 g2 g3
 subst e0 e1 e2 e3
 simp only [execOp]
 simp [go_sem, g0, g1, g2, g3]
 try rfl
theorem azu : Kl Tryz.prog (fun x => .fieldAddr 100 x 0) 0 := by
 intro a w d x b off ty pos af gd hx
 have hc : ∀ v, a.eval (.const v) = v := fun _ => rfl
 simp only [execOp, hx, hc]
 simp [go_sem]
theorem xc {Q : Exit → Act → World → Prop} {l : List Oper} {n : Nat} {T : Nat → World → Value → Prop} {G : World → Prop} {al : List Nat} {a0 : Act} {k d : Nat} {ty : TypeId} {pos : String} {af : Array Edge} {gd : Option (Nat × Bool)} {b off off' : Nat} {x : Operand} (hal : al.contains k = false) (hx : Rg.ni l n T a0 k x (Rg.cz (.pointer (some ⟨b, off, none⟩)))) (ho : off + 0 = off') (hT : T k = Rg.cz (.pointer (some ⟨b, off', none⟩))) :
  Rg.Step Tryz.prog Q l n T G jb al a0 k { dst := some d, op := .fieldAddr 100 x 0, type := ty, pos := pos, after := af, guard := gd } := by
 exact Lx (P := Tryz.prog) (o := fun x => .fieldAddr 100 x 0) azu hal hx ho hT
theorem azt : Kl Tryz.prog (fun x => .fieldAddr 100 x 1) 4 := by
 intro a w d x b off ty pos af gd hx
 have hc : ∀ v, a.eval (.const v) = v := fun _ => rfl
 simp only [execOp, hx, hc]
 simp [go_sem]
theorem sw {Q : Exit → Act → World → Prop} {l : List Oper} {n : Nat} {T : Nat → World → Value → Prop} {G : World → Prop} {al : List Nat} {a0 : Act} {k d : Nat} {ty : TypeId} {pos : String} {af : Array Edge} {gd : Option (Nat × Bool)} {b off off' : Nat} {x : Operand} (hal : al.contains k = false) (hx : Rg.ni l n T a0 k x (Rg.cz (.pointer (some ⟨b, off, none⟩)))) (ho : off + 4 = off') (hT : T k = Rg.cz (.pointer (some ⟨b, off', none⟩))) :
  Rg.Step Tryz.prog Q l n T G jb al a0 k { dst := some d, op := .fieldAddr 100 x 1, type := ty, pos := pos, after := af, guard := gd } := by
 exact Lx (P := Tryz.prog) (o := fun x => .fieldAddr 100 x 1) azt hal hx ho hT
theorem Hd {Q : Exit → Act → World → Prop} {l : List Oper} {n : Nat} {T : Nat → World → Value → Prop} {G : World → Prop} {al : List Nat} {a0 : Act} {k d : Nat} {ty : TypeId} {pos : String} {af : Array Edge} {gd : Option (Nat × Bool)} {b i m : Nat} {x y : Operand} (hal : al.contains k = false) (hx : Rg.ni l n T a0 k x (Rg.cz (.slice (some ⟨b, 0, none⟩) m m))) (hy : Rg.ni l n T a0 k y (Rg.cz (.int .i64 (i : Int)))) (hi : i < m) (hT : T k = Rg.cz (.pointer (some ⟨b, 4 * i, none⟩))) :
  Rg.Step Tryz.prog Q l n T G jb al a0 k { dst := some d, op := .indexAddr 154 x y, type := ty, pos := pos, after := af, guard := gd } := by
 intro a w hG hO hN
 have h1 := hx a w hO hN
 have h2 := hy a w hO hN
 have hr : (execOp a.eval { dst := some d, op := .indexAddr 154 x y, type := ty, pos := pos, after := af, guard := gd }).run Tryz.prog w = .ok (.value (.pointer (some ⟨b, 4 * i, none⟩))) w := by
  have h1' : a.eval x = .slice (some ⟨b, 0, none⟩) m m := h1
  have h2' : a.eval y = .int .i64 (i : Int) := h2
  simp only [execOp, h1', h2']
  simp [go_sem, hi, Nat.mul_comm]
 exact uh (P := Tryz.prog) hr ⟨_, rfl, hG, Below.refl _ _, by rw [hT]; rfl, fun h => by rw [hal] at h; cases h⟩
theorem atn {ρ : Operand → Value} {w : World} {d : Option Tmp} {x y : Operand} {o z : Bool} {ty : TypeId} {pos : String} {af : Array Edge} {gd : Option (Nat × Bool)} (h : ρ x = .bool o) (h' : ρ y = .bool z) :
  (execOp ρ { dst := d, op := .binOp .eql 4 x y 4, type := ty, pos := pos, after := af, guard := gd }).run Tryz.prog w = .ok (.value (.bool (o == z))) w := by
 simp only [execOp, h, h']
 cases o <;> cases z <;> simp [go_sem]
theorem bap {Q : Exit → Act → World → Prop} {l : List Oper} {n : Nat} {T : Nat → World → Value → Prop} {G : World → Prop} {al : List Nat} {a0 : Act} {k d : Nat} {ty : TypeId} {pos : String} {af : Array Edge} {gd : Option (Nat × Bool)} {x y : Operand} {o z b : Bool}
  (hal : al.contains k = false) (hx : Rg.ni l n T a0 k x (Rg.cz (.bool o))) (hy : Rg.ni l n T a0 k y (Rg.cz (.bool z))) (hT : T k = Rg.cz (.bool b)) (hb : (o == z) = b) : Rg.Step Tryz.prog Q l n T G jb al a0 k { dst := some d, op := .binOp .eql 4 x y 4, type := ty, pos := pos, after := af, guard := gd } := by
 intro a w hG hO hN
 exact uh (P := Tryz.prog) (atn (hx a w hO hN) (hy a w hO hN)) ⟨_, rfl, hG, Below.refl _ _, by rw [hT, hb]; rfl, fun h => by rw [hal] at h; cases h⟩
theorem atj {ρ : Operand → Value} {w : World} {d : Option Tmp} {x y : Operand} {o z : Bool} {ty : TypeId} {pos : String} {af : Array Edge} {gd : Option (Nat × Bool)} (h : ρ x = .bool o) (h' : ρ y = .bool z) :
  (execOp ρ { dst := d, op := .binOp .neq 4 x y 4, type := ty, pos := pos, after := af, guard := gd }).run Tryz.prog w = .ok (.value (.bool (o != z))) w := by
 simp only [execOp, h, h']
 cases o <;> cases z <;> simp [go_sem]
theorem bal {Q : Exit → Act → World → Prop} {l : List Oper} {n : Nat} {T : Nat → World → Value → Prop} {G : World → Prop} {al : List Nat} {a0 : Act} {k d : Nat} {ty : TypeId} {pos : String} {af : Array Edge} {gd : Option (Nat × Bool)} {x y : Operand} {o z b : Bool}
  (hal : al.contains k = false) (hx : Rg.ni l n T a0 k x (Rg.cz (.bool o))) (hy : Rg.ni l n T a0 k y (Rg.cz (.bool z))) (hT : T k = Rg.cz (.bool b)) (hb : (o != z) = b) : Rg.Step Tryz.prog Q l n T G jb al a0 k { dst := some d, op := .binOp .neq 4 x y 4, type := ty, pos := pos, after := af, guard := gd } := by
 intro a w hG hO hN
 exact uh (P := Tryz.prog) (atj (hx a w hO hN) (hy a w hO hN)) ⟨_, rfl, hG, Below.refl _ _, by rw [hT, hb]; rfl, fun h => by rw [hal] at h; cases h⟩
end Sb

end Go.Proofs.YtfbcdfoohpkfeaaGreatDoor
namespace Go.Proofs.YtfbcdfoohpkfeaaGreatDoor
open Go.RowKit

namespace Sb
theorem azg {a b c d : Int} (h : Bu a b c d) : ja ((Wd.qR a b).num * (Wd.qR c d).den - (Wd.qR c d).num * (Wd.qR a b).den) ≤ 0 := by
 rw [Nh]; exact baw h
theorem azh {a b c d : Int} (h1 : Wd.wm a b) (h2 : Wd.wm c d) (h : ja ((Wd.qR a b).num * (Wd.qR c d).den - (Wd.qR c d).num * (Wd.qR a b).den) ≤ 0) : a * d - c * b ≤ 0 := by
 rw [Nh] at h
 exact (bav h1 h2 h).2.2
set_option maxHeartbeats 16000000 in
theorem Hy {bf az ay ax : Int} (w : World) (u0 : Value) (h0 : bg [iv bf, iv az, iv ay, iv ax] w u0) : Calls Tryz.prog 85 #[u0] w (nk (Rg.cz (.bool (decide (Bu bf az ay ax)))) w) := by
 obtain ⟨rr, hrr⟩ : ∃ rr, rr = decide (Bu bf az ay ax) := ⟨_, rfl⟩
 rw [← hrr]
 have HR := hide hrr
 clear hrr
 have hu0 := Ak h0
 subst hu0
 go_enter Tryz.func85, Tryz.ntmps85
 go_upto_region 1 with fail
 have hO := (Own.push (T := 41) (ls := [iv bf, iv az, iv ay, iv ax]) (cs := [.int .i64 bf, .int .i64 az, .int .i64 ay, .int .i64 ax]) (Own.nil w) (jf.v (jl _) (jf.v (jl _) (jf.v (jl _) (jf.v (jl _) rfl)))) (w.heap.size) rfl)
 generalize w.alloc (.cells #[.int .i64 bf, .int .i64 az, .int .i64 ay, .int .i64 ax] 41) = W0 at *
 have HO := hide hO
 clear hO
 by_cases g1 : Wd.wm bf az
 ·
  by_cases g2 : Wd.wm ay ax
  ·
   by_cases g3 : (ja ((Wd.qR bf az).num * (Wd.qR ay ax).den - (Wd.qR ay ax).num * (Wd.qR bf az).den)) ≤ 0
   ·
    have k1 : decide (Wd.wm bf az) = true := decide_eq_true g1
    have k2 : decide (Wd.wm ay ax) = true := decide_eq_true g2
    have k3 : decide ((ja ((Wd.qR bf az).num * (Wd.qR ay ax).den - (Wd.qR ay ax).num * (Wd.qR bf az).den)) ≤ 0) = true := decide_eq_true g3
    have hr : rr = true := by rw [aa HR]; exact decide_eq_true ⟨g1, g2, azh g1 g2 g3⟩
    subst hr
    clear HR
    go_upto_region 1 with fail
    refine Rg.region 19 21 (Rg.pick [Rg.cz (.pointer (some ⟨w.heap.size, 0, none⟩)), bg [iv bf, iv az], Rg.cz (.bool true), Rg.cz (.bool true), Rg.cz (.pointer (some ⟨w.heap.size, 2, none⟩)), bg [iv ay, iv ax], Rg.cz (.bool true), Rg.cz (.bool true), Rg.cz (.bool true), Rg.cz (.pointer (some ⟨w.heap.size, 0, none⟩)), bg [iv bf, iv az], bg [.r (Wd.qR bf az)], Rg.cz (.pointer (some ⟨w.heap.size, 2, none⟩)), bg [iv ay, iv ax], bg [.r (Wd.qR ay ax)], Rg.cz (.int .i64 (ja ((Wd.qR bf az).num * (Wd.qR ay ax).den - (Wd.qR ay ax).num * (Wd.qR bf az).den))), Rg.cz (.bool true), Rg.cz (.bool true), Rg.cz (.bool true)]) (dw w [(w.heap.size, 41, [iv bf, iv az, iv ay, iv ax])] W0) jb [] kr kr rfl (Rg.iq.pick ⟨Rg.ag _, cu _, Rg.ag _, Rg.ag _, Rg.ag _, cu _, Rg.ag _, Rg.ag _, Rg.ag _, Rg.ag _, cu _, cu _, Rg.ag _, cu _, cu _, Rg.ag _, Rg.ag _, Rg.ag _, Rg.ag _, trivial⟩) (dw.start (aa HO))
     (ah (En (b := w.heap.size) (off := 0) rfl (Rg.gm kr rfl) rfl rfl)
     (ah (je zb me0 (Rg.ai 0 kr) [] [iv bf, iv az] [iv ay, iv ax])
     (ah (ku Tryz.func60 kr rfl dw.step (Rg.ai 1 kr) (fun W v0 hG h0 => k1 ▸ Sk h0))
     (ah (il rfl (Rg.ai 2 kr))
     (Rg.dz (Rg.iy (d := 6) rfl kr rfl (Ga (b := w.heap.size) (off := 0) rfl (Rg.gm kr rfl) rfl rfl))
     (Rg.dz (Rg.iy (d := 6) rfl kr rfl (je zb me0 (Rg.ai 4 kr) [iv bf, iv az] [iv ay, iv ax] []))
     (Rg.dz (Rg.iy (d := 6) rfl kr rfl (ku Tryz.func60 kr rfl dw.step (Rg.ai 5 kr) (fun W v0 hG h0 => k2 ▸ Sk h0)))
     (ah (xw rfl (Rg.ai 3 kr) (Rg.ai 6 kr))
     (ah (il rfl (Rg.ai 7 kr))
     (Rg.dz (Rg.iy (d := 11) rfl kr rfl (En (b := w.heap.size) (off := 0) rfl (Rg.gm kr rfl) rfl rfl))
     (Rg.dz (Rg.iy (d := 11) rfl kr rfl (je zb me0 (Rg.ai 9 kr) [] [iv bf, iv az] [iv ay, iv ax]))
     (Rg.dz (Rg.iy (d := 11) rfl kr rfl (ku Tryz.func48 kr rfl dw.step (Rg.ai 10 kr) (fun W v0 hG h0 => Xb g1 h0)))
     (Rg.dz (Rg.iy (d := 11) rfl kr rfl (Ga (b := w.heap.size) (off := 0) rfl (Rg.gm kr rfl) rfl rfl))
     (Rg.dz (Rg.iy (d := 11) rfl kr rfl (je zb me0 (Rg.ai 12 kr) [iv bf, iv az] [iv ay, iv ax] []))
     (Rg.dz (Rg.iy (d := 11) rfl kr rfl (ku Tryz.func48 kr rfl dw.step (Rg.ai 13 kr) (fun W v0 hG h0 => Xb g2 h0)))
     (Rg.dz (Rg.iy (d := 11) rfl kr rfl (ll Tryz.func71 kr rfl dw.step (Rg.ai 11 kr) (Rg.ai 14 kr) (fun W v0 v1 hG h0 h1 => Cb (Cq g1) (Cq g2) h0 h1)))
     (Rg.dz (Rg.iy (d := 11) rfl kr rfl (Gg rfl (Rg.ai 15 kr) (Rg.lv _) rfl k3))
     (ah (xw rfl (Rg.ai 8 kr) (Rg.ai 16 kr))
     (ah (ma rfl (Rg.ai 17 kr))
     Rg.fq))))))))))))))))))) ?_
    intro v1 V1 hG1 hv1 hne1
    simp only [Rg.puts, ko, kg, jy, jw, Act.put, jr, jq, jo]
    have e17 : v1 17 = .bool true := hv1 17 (by decide)
    have e18 : v1 18 = .bool true := hv1 18 (by decide)
    simp only [e17, e18]
    have hO := hG1.1
    clear HO
    have HO := hide hO
    clear hO hG1 hv1 hne1
    try clear e17 e18
    go_wp2_with fail
    exact Cw Tryz.results85 rfl (aa HO).bel rfl
   ·
    have k1 : decide (Wd.wm bf az) = true := decide_eq_true g1
    have k2 : decide (Wd.wm ay ax) = true := decide_eq_true g2
    have k3 : decide ((ja ((Wd.qR bf az).num * (Wd.qR ay ax).den - (Wd.qR ay ax).num * (Wd.qR bf az).den)) ≤ 0) = false := decide_eq_false g3
    have hr : rr = false := by rw [aa HR]; exact decide_eq_false (fun h => g3 (azg h))
    subst hr
    clear HR
    go_upto_region 1 with fail
    refine Rg.region 19 21 (Rg.pick [Rg.cz (.pointer (some ⟨w.heap.size, 0, none⟩)), bg [iv bf, iv az], Rg.cz (.bool true), Rg.cz (.bool true), Rg.cz (.pointer (some ⟨w.heap.size, 2, none⟩)), bg [iv ay, iv ax], Rg.cz (.bool true), Rg.cz (.bool true), Rg.cz (.bool true), Rg.cz (.pointer (some ⟨w.heap.size, 0, none⟩)), bg [iv bf, iv az], bg [.r (Wd.qR bf az)], Rg.cz (.pointer (some ⟨w.heap.size, 2, none⟩)), bg [iv ay, iv ax], bg [.r (Wd.qR ay ax)], Rg.cz (.int .i64 (ja ((Wd.qR bf az).num * (Wd.qR ay ax).den - (Wd.qR ay ax).num * (Wd.qR bf az).den))), Rg.cz (.bool false), Rg.cz (.bool false), Rg.cz (.bool false)]) (dw w [(w.heap.size, 41, [iv bf, iv az, iv ay, iv ax])] W0) jb [] kr kr rfl (Rg.iq.pick ⟨Rg.ag _, cu _, Rg.ag _, Rg.ag _, Rg.ag _, cu _, Rg.ag _, Rg.ag _, Rg.ag _, Rg.ag _, cu _, cu _, Rg.ag _, cu _, cu _, Rg.ag _, Rg.ag _, Rg.ag _, Rg.ag _, trivial⟩) (dw.start (aa HO))
     (ah (En (b := w.heap.size) (off := 0) rfl (Rg.gm kr rfl) rfl rfl)
     (ah (je zb me0 (Rg.ai 0 kr) [] [iv bf, iv az] [iv ay, iv ax])
     (ah (ku Tryz.func60 kr rfl dw.step (Rg.ai 1 kr) (fun W v0 hG h0 => k1 ▸ Sk h0))
     (ah (il rfl (Rg.ai 2 kr))
     (Rg.dz (Rg.iy (d := 6) rfl kr rfl (Ga (b := w.heap.size) (off := 0) rfl (Rg.gm kr rfl) rfl rfl))
     (Rg.dz (Rg.iy (d := 6) rfl kr rfl (je zb me0 (Rg.ai 4 kr) [iv bf, iv az] [iv ay, iv ax] []))
     (Rg.dz (Rg.iy (d := 6) rfl kr rfl (ku Tryz.func60 kr rfl dw.step (Rg.ai 5 kr) (fun W v0 hG h0 => k2 ▸ Sk h0)))
     (ah (xw rfl (Rg.ai 3 kr) (Rg.ai 6 kr))
     (ah (il rfl (Rg.ai 7 kr))
     (Rg.dz (Rg.iy (d := 11) rfl kr rfl (En (b := w.heap.size) (off := 0) rfl (Rg.gm kr rfl) rfl rfl))
     (Rg.dz (Rg.iy (d := 11) rfl kr rfl (je zb me0 (Rg.ai 9 kr) [] [iv bf, iv az] [iv ay, iv ax]))
     (Rg.dz (Rg.iy (d := 11) rfl kr rfl (ku Tryz.func48 kr rfl dw.step (Rg.ai 10 kr) (fun W v0 hG h0 => Xb g1 h0)))
     (Rg.dz (Rg.iy (d := 11) rfl kr rfl (Ga (b := w.heap.size) (off := 0) rfl (Rg.gm kr rfl) rfl rfl))
     (Rg.dz (Rg.iy (d := 11) rfl kr rfl (je zb me0 (Rg.ai 12 kr) [iv bf, iv az] [iv ay, iv ax] []))
     (Rg.dz (Rg.iy (d := 11) rfl kr rfl (ku Tryz.func48 kr rfl dw.step (Rg.ai 13 kr) (fun W v0 hG h0 => Xb g2 h0)))
     (Rg.dz (Rg.iy (d := 11) rfl kr rfl (ll Tryz.func71 kr rfl dw.step (Rg.ai 11 kr) (Rg.ai 14 kr) (fun W v0 v1 hG h0 h1 => Cb (Cq g1) (Cq g2) h0 h1)))
     (Rg.dz (Rg.iy (d := 11) rfl kr rfl (Gg rfl (Rg.ai 15 kr) (Rg.lv _) rfl k3))
     (ah (xw rfl (Rg.ai 8 kr) (Rg.ai 16 kr))
     (ah (ma rfl (Rg.ai 17 kr))
     Rg.fq))))))))))))))))))) ?_
    intro v1 V1 hG1 hv1 hne1
    simp only [Rg.puts, ko, kg, jy, jw, Act.put, jr, jq, jo]
    have e17 : v1 17 = .bool false := hv1 17 (by decide)
    have e18 : v1 18 = .bool false := hv1 18 (by decide)
    simp only [e17, e18]
    have hO := hG1.1
    clear HO
    have HO := hide hO
    clear hO hG1 hv1 hne1
    try clear e17 e18
    go_wp2_with fail
    exact Cw Tryz.results85 rfl (aa HO).bel rfl
  ·
   have k1 : decide (Wd.wm bf az) = true := decide_eq_true g1
   have k2 : decide (Wd.wm ay ax) = false := decide_eq_false g2
   have hr : rr = false := by rw [aa HR]; exact decide_eq_false (fun h => g2 h.2.1)
   subst hr
   clear HR
   go_upto_region 1 with fail
   refine Rg.region 19 21 (Rg.pick [Rg.cz (.pointer (some ⟨w.heap.size, 0, none⟩)), bg [iv bf, iv az], Rg.cz (.bool true), Rg.cz (.bool true), Rg.cz (.pointer (some ⟨w.heap.size, 2, none⟩)), bg [iv ay, iv ax], Rg.cz (.bool false), Rg.cz (.bool false), Rg.cz (.bool false), Rg.cz undef, Rg.cz undef, Rg.cz undef, Rg.cz undef, Rg.cz undef, Rg.cz undef, Rg.cz undef, Rg.cz undef, Rg.cz (.bool false), Rg.cz (.bool false)]) (dw w [(w.heap.size, 41, [iv bf, iv az, iv ay, iv ax])] W0) jb [] kr kr rfl (Rg.iq.pick ⟨Rg.ag _, cu _, Rg.ag _, Rg.ag _, Rg.ag _, cu _, Rg.ag _, Rg.ag _, Rg.ag _, Rg.ag _, Rg.ag _, Rg.ag _, Rg.ag _, Rg.ag _, Rg.ag _, Rg.ag _, Rg.ag _, Rg.ag _, Rg.ag _, trivial⟩) (dw.start (aa HO))
    (ah (En (b := w.heap.size) (off := 0) rfl (Rg.gm kr rfl) rfl rfl)
    (ah (je zb me0 (Rg.ai 0 kr) [] [iv bf, iv az] [iv ay, iv ax])
    (ah (ku Tryz.func60 kr rfl dw.step (Rg.ai 1 kr) (fun W v0 hG h0 => k1 ▸ Sk h0))
    (ah (il rfl (Rg.ai 2 kr))
    (Rg.dz (Rg.iy (d := 6) rfl kr rfl (Ga (b := w.heap.size) (off := 0) rfl (Rg.gm kr rfl) rfl rfl))
    (Rg.dz (Rg.iy (d := 6) rfl kr rfl (je zb me0 (Rg.ai 4 kr) [iv bf, iv az] [iv ay, iv ax] []))
    (Rg.dz (Rg.iy (d := 6) rfl kr rfl (ku Tryz.func60 kr rfl dw.step (Rg.ai 5 kr) (fun W v0 hG h0 => k2 ▸ Sk h0)))
    (ah (xw rfl (Rg.ai 3 kr) (Rg.ai 6 kr))
    (ah (il rfl (Rg.ai 7 kr))
    (Rg.dz (Rg.mq (d := 11) rfl kr rfl rfl mi rfl rfl)
    (Rg.dz (Rg.mq (d := 11) rfl kr rfl rfl mi rfl rfl)
    (Rg.dz (Rg.mq (d := 11) rfl kr rfl rfl mi rfl rfl)
    (Rg.dz (Rg.mq (d := 11) rfl kr rfl rfl mi rfl rfl)
    (Rg.dz (Rg.mq (d := 11) rfl kr rfl rfl mi rfl rfl)
    (Rg.dz (Rg.mq (d := 11) rfl kr rfl rfl mi rfl rfl)
    (Rg.dz (Rg.mq (d := 11) rfl kr rfl rfl mi rfl rfl)
    (Rg.dz (Rg.mq (d := 11) rfl kr rfl rfl mi rfl rfl)
    (ah (zk rfl (Rg.ai 8 kr) (Rg.lv _))
    (ah (ma rfl (Rg.ai 17 kr))
    Rg.fq))))))))))))))))))) ?_
   intro v1 V1 hG1 hv1 hne1
   simp only [Rg.puts, ko, kg, jy, jw, Act.put, jr, jq, jo]
   have e17 : v1 17 = .bool false := hv1 17 (by decide)
   have e18 : v1 18 = .bool false := hv1 18 (by decide)
   simp only [e17, e18]
   have hO := hG1.1
   clear HO
   have HO := hide hO
   clear hO hG1 hv1 hne1
   try clear e17 e18
   go_wp2_with fail
   exact Cw Tryz.results85 rfl (aa HO).bel rfl
 ·
  have k1 : decide (Wd.wm bf az) = false := decide_eq_false g1
  have hr : rr = false := by rw [aa HR]; exact decide_eq_false (fun h => g1 h.1)
  subst hr
  clear HR
  go_upto_region 1 with fail
  refine Rg.region 19 21 (Rg.pick [Rg.cz (.pointer (some ⟨w.heap.size, 0, none⟩)), bg [iv bf, iv az], Rg.cz (.bool false), Rg.cz (.bool false), Rg.cz undef, Rg.cz undef, Rg.cz undef, Rg.cz (.bool false), Rg.cz (.bool false), Rg.cz undef, Rg.cz undef, Rg.cz undef, Rg.cz undef, Rg.cz undef, Rg.cz undef, Rg.cz undef, Rg.cz undef, Rg.cz (.bool false), Rg.cz (.bool false)]) (dw w [(w.heap.size, 41, [iv bf, iv az, iv ay, iv ax])] W0) jb [] kr kr rfl (Rg.iq.pick ⟨Rg.ag _, cu _, Rg.ag _, Rg.ag _, Rg.ag _, Rg.ag _, Rg.ag _, Rg.ag _, Rg.ag _, Rg.ag _, Rg.ag _, Rg.ag _, Rg.ag _, Rg.ag _, Rg.ag _, Rg.ag _, Rg.ag _, Rg.ag _, Rg.ag _, trivial⟩) (dw.start (aa HO))
   (ah (En (b := w.heap.size) (off := 0) rfl (Rg.gm kr rfl) rfl rfl)
   (ah (je zb me0 (Rg.ai 0 kr) [] [iv bf, iv az] [iv ay, iv ax])
   (ah (ku Tryz.func60 kr rfl dw.step (Rg.ai 1 kr) (fun W v0 hG h0 => k1 ▸ Sk h0))
   (ah (il rfl (Rg.ai 2 kr))
   (Rg.dz (Rg.mq (d := 6) rfl kr rfl rfl mi rfl rfl)
   (Rg.dz (Rg.mq (d := 6) rfl kr rfl rfl mi rfl rfl)
   (Rg.dz (Rg.mq (d := 6) rfl kr rfl rfl mi rfl rfl)
   (ah (zk rfl (Rg.ai 3 kr) (Rg.lv _))
   (ah (il rfl (Rg.ai 7 kr))
   (Rg.dz (Rg.mq (d := 11) rfl kr rfl rfl mi rfl rfl)
   (Rg.dz (Rg.mq (d := 11) rfl kr rfl rfl mi rfl rfl)
   (Rg.dz (Rg.mq (d := 11) rfl kr rfl rfl mi rfl rfl)
   (Rg.dz (Rg.mq (d := 11) rfl kr rfl rfl mi rfl rfl)
   (Rg.dz (Rg.mq (d := 11) rfl kr rfl rfl mi rfl rfl)
   (Rg.dz (Rg.mq (d := 11) rfl kr rfl rfl mi rfl rfl)
   (Rg.dz (Rg.mq (d := 11) rfl kr rfl rfl mi rfl rfl)
   (Rg.dz (Rg.mq (d := 11) rfl kr rfl rfl mi rfl rfl)
   (ah (zk rfl (Rg.ai 8 kr) (Rg.lv _))
   (ah (ma rfl (Rg.ai 17 kr))
   Rg.fq))))))))))))))))))) ?_
  intro v1 V1 hG1 hv1 hne1
  simp only [Rg.puts, ko, kg, jy, jw, Act.put, jr, jq, jo]
  have e17 : v1 17 = .bool false := hv1 17 (by decide)
  have e18 : v1 18 = .bool false := hv1 18 (by decide)
  simp only [e17, e18]
  have hO := hG1.1
  clear HO
  have HO := hide hO
  clear hO hG1 hv1 hne1
  try clear e17 e18
  go_wp2_with fail
  exact Cw Tryz.results85 rfl (aa HO).bel rfl
set_option maxHeartbeats 16000000 in
theorem Zy {n d p e : Int} (ok : Wd.wm n d ∧ Wd.wm p e) (w : World) (u0 : Value) (h0 : bg [iv n, iv d, iv p, iv e] w u0) :
  Calls Tryz.prog 86 #[u0] w (nk (bg [.r (Wd.qR n d), .r (Wd.qR p e)]) w) := by
 have Jo := hide ok
 clear ok
 have hu0 := Ak h0
 subst hu0
 go_enter Tryz.func86, Tryz.ntmps86
 go_upto_region 1 with fail
 have hO := (Own.push (T := 100) (ls := zY) (cs := [.slice none 0 0, .bool false, .slice none 0 0, .bool false, .slice none 0 0, .bool false, .slice none 0 0, .bool false]) (Own.push (T := 41) (ls := [iv n, iv d, iv p, iv e]) (cs := [.int .i64 n, .int .i64 d, .int .i64 p, .int .i64 e]) (Own.nil w) (jf.v (jl _) (jf.v (jl _) (jf.v (jl _) (jf.v (jl _) rfl)))) (w.heap.size) rfl) (((jf.vs w [.slice none 0 0, .bool false, .slice none 0 0, .bool false, .slice none 0 0, .bool false, .slice none 0 0, .bool false] rfl) : jf w zY [.slice none 0 0, .bool false, .slice none 0 0, .bool false, .slice none 0 0, .bool false, .slice none 0 0, .bool false]).below (by repeat (first | exact Below.refl _ _ | refine jk ?_ _))) (w.heap.size + 1) (by simp only [World.size_alloc]))
 generalize (w.alloc (.cells #[.int .i64 n, .int .i64 d, .int .i64 p, .int .i64 e] 41)).alloc (.cells #[.slice none 0 0, .bool false, .slice none 0 0, .bool false, .slice none 0 0, .bool false, .slice none 0 0, .bool false] 100) = W0 at *
 have HO := hide hO
 clear hO
 go_upto_region 1 with fail
 refine Rg.region 7 10 (Rg.pick [Rg.cz (.pointer (some ⟨w.heap.size, 0, none⟩)), bg [iv n, iv d], bg [.r (Wd.qR n d)], Rg.cz (.pointer (some ⟨w.heap.size, 2, none⟩)), bg [iv p, iv e], bg [.r (Wd.qR p e)], bg [.r (Wd.qR n d), .r (Wd.qR p e)]]) (dw w [(w.heap.size + 1, 100, zY), (w.heap.size, 41, [iv n, iv d, iv p, iv e])] W0) jb [] kr kr rfl (Rg.iq.pick ⟨Rg.ag _, cu _, cu _, Rg.ag _, cu _, cu _, cu _, trivial⟩) (dw.start (aa HO))
  (ah (En (b := w.heap.size) (off := 0) rfl (Rg.gm kr rfl) rfl rfl)
  (ah (je zb rf (Rg.ai 0 kr) [] [iv n, iv d] [iv p, iv e])
  (ah (ku Tryz.func48 kr rfl dw.step (Rg.ai 1 kr) (fun W v0 hG h0 => Xb (aa Jo).1 h0))
  (ah (Ga (b := w.heap.size) (off := 0) rfl (Rg.gm kr rfl) rfl rfl)
  (ah (je zb rf (Rg.ai 3 kr) [iv n, iv d] [iv p, iv e] [])
  (ah (ku Tryz.func48 kr rfl dw.step (Rg.ai 4 kr) (fun W v0 hG h0 => Xb (aa Jo).2 h0))
  (ah (Ew aje rfl (Rg.ai 2 kr) (Rg.ai 5 kr) rfl rfl rfl)
  Rg.fq))))))) ?_
 intro v1 V1 hG1 hv1 hne1
 simp only [Rg.puts, ko, kg, jy, jw, Act.put, jr, jq, jo]
 have hO := hG1.1
 refine nz hO 0 [] zY [.r (Wd.qR n d), .r (Wd.qR p e)] [] rfl Gr rfl (show bg [.r (Wd.qR n d), .r (Wd.qR p e)] V1 (v1 6) from hv1 6 (by decide)) rfl rfl rfl ?_
 intro zt ji hk0
 replace hO := ji
 clear ji
 clear HO
 have HO := hide hO
 clear hO hG1 hv1 hne1 hk0
 go_wp2_with fail
 exact Lt Tryz.results86 Nv rfl (aa HO) me0 rfl rfl
set_option maxHeartbeats 16000000 in
theorem ajd {x y : Rat} (w : World) (u0 : Value) (h0 : bg [.r x, .r y] w u0) : Calls Tryz.prog 92 #[u0] w (nk (Uf (gu x y)) w) := by
 obtain ⟨t, ht⟩ : ∃ t, t = gu x y := ⟨_, rfl⟩
 rw [← ht]
 have HR := hide ht
 clear ht
 obtain ⟨Ck, c0a, Ci, m0a, B0a, d0a, k0a, Ch, Ea, c0b, Du, m0b, B0b, d0b, k0b, Dr, rfl, f0a, Iq⟩ := aac h0
 go_enter Tryz.func92, Tryz.ntmps92
 go_upto_region 1 with fail
 have hO := (Own.push (T := 41) (ls := zS) (cs := [.int .i64 0, .int .i64 0, .int .i64 0, .int .i64 0]) (Own.push (T := 100) (ls := [.r x, .r y]) (cs := [.slice Ck (List.length Ci) c0a, .bool m0a, .slice B0a (List.length k0a) d0a, .bool Ch, .slice Ea (List.length Du) c0b, .bool m0b, .slice B0b (List.length k0b) d0b, .bool Dr]) (Own.nil w) (jf.r f0a (jf.r Iq rfl)) (w.heap.size) rfl) (((jf.vs w [.int .i64 0, .int .i64 0, .int .i64 0, .int .i64 0] rfl) : jf w zS [.int .i64 0, .int .i64 0, .int .i64 0, .int .i64 0]).below (by repeat (first | exact Below.refl _ _ | refine jk ?_ _))) (w.heap.size + 1) (by simp only [World.size_alloc]))
 generalize (w.alloc (.cells #[.slice Ck (List.length Ci) c0a, .bool m0a, .slice B0a (List.length k0a) d0a, .bool Ch, .slice Ea (List.length Du) c0b, .bool m0b, .slice B0b (List.length k0b) d0b, .bool Dr] 100)).alloc (.cells #[.int .i64 0, .int .i64 0, .int .i64 0, .int .i64 0] 41) = W0 at *
 have HO := hide hO
 clear hO
 by_cases fx : Wd.fits x
 ·
  by_cases fy : Wd.fits y
  ·
   go_upto_region 1 with fail
   refine Rg.ik 7 30 (Rg.pick [Rg.cz (.pointer (some ⟨w.heap.size, 0, none⟩)), bg [.r x], qj [bg [iv x.num, iv (x.den : Int)], Rg.cz (.bool true)], qj [bg [iv x.num, iv (x.den : Int)], Rg.cz (.bool true)], bg [iv x.num, iv (x.den : Int)], Rg.cz (.bool true), uf 23 zR W0.heap.size]) (dw w [(w.heap.size + 1, 41, zS), (w.heap.size, 100, [.r x, .r y])] W0) jb [6] kr rfl (Rg.iq.pick ⟨Rg.ag _, cu _, nu ⟨(cu _), (Rg.ag _), trivial⟩, nu ⟨(cu _), (Rg.ag _), trivial⟩, cu _, Rg.ag _, ui _ _ _, trivial⟩) (dw.begin (aa HO))
    (ah (xc (b := w.heap.size) (off := 0) rfl (Rg.gm kr rfl) rfl rfl)
    (ah (je og rf (Rg.ai 0 kr) [] [.r x] [.r y])
    (ah (ku Tryz.func102 kr rfl dw.step (Rg.ai 1 kr) (fun W v0 hG h0 => Si fx h0))
    (ah (il rfl (Rg.ai 2 kr))
    (ah (oo (ts := [bg [iv x.num, iv (x.den : Int)], Rg.cz (.bool true)]) rfl (Rg.ai 3 kr) (of_decide_eq_true rfl) rfl)
    (ah (oo (ts := [bg [iv x.num, iv (x.den : Int)], Rg.cz (.bool true)]) rfl (Rg.ai 3 kr) (of_decide_eq_true rfl) rfl)
    (ah (vv Lm rfl dw.step dw.size rfl (xx (by intro j hj; simp at hj; (repeat' (first | (rcases hj with rfl | hj))) <;> first | (subst hj; exact ⟨_, _, _, rfl⟩) | exact ⟨_, _, _, rfl⟩)))
    Rg.fq))))))) ?_
   intro v1 V1 hG1 hv1 hne1
   simp only [Rg.puts, ko, kg, jy, jw, Act.put, jr, jq, jo]
   have e5 : v1 5 = .bool true := hv1 5 (by decide)
   obtain ⟨Cr, e6, Bh, Dv⟩ := (show uf 23 zR W0.heap.size V1 (v1 6) from hv1 6 (by decide))
   simp only [e5, e6]
   have hO := hG1.1
   replace hO := Own.add (aa HO) hG1.2 Bh Dv
   clear Bh Dv
   refine nz hO 0 [] zR [iv x.num, iv (x.den : Int)] [] rfl Gs rfl (show bg [iv x.num, iv (x.den : Int)] V1 (v1 4) from hv1 4 (by decide)) rfl rfl rfl ?_
   intro zt ji hk0
   replace hO := ji
   clear ji
   clear HO
   have HO := hide hO
   clear hO hG1 hv1 hne1 hk0
   try clear e5 e6
   go_upto_region 2 with fail
   refine Rg.ik 7 30 (Rg.pick [Rg.cz (.pointer (some ⟨w.heap.size, 4, none⟩)), bg [.r y], qj [bg [iv y.num, iv (y.den : Int)], Rg.cz (.bool true)], qj [bg [iv y.num, iv (y.den : Int)], Rg.cz (.bool true)], bg [iv y.num, iv (y.den : Int)], Rg.cz (.bool true), uf 23 zR zt.heap.size]) (dw w [(Cr, 23, [iv x.num, iv (x.den : Int)]), (w.heap.size + 1, 41, zS), (w.heap.size, 100, [.r x, .r y])] zt) jb [6] kr rfl (Rg.iq.pick ⟨Rg.ag _, cu _, nu ⟨(cu _), (Rg.ag _), trivial⟩, nu ⟨(cu _), (Rg.ag _), trivial⟩, cu _, Rg.ag _, ui _ _ _, trivial⟩) (dw.begin (aa HO))
    (ah (sw (b := w.heap.size) (off := 0) rfl (Rg.gm kr rfl) rfl rfl)
    (ah (je og ug (Rg.ai 0 kr) [.r x] [.r y] [])
    (ah (ku Tryz.func102 kr rfl dw.step (Rg.ai 1 kr) (fun W v0 hG h0 => Si fy h0))
    (ah (il rfl (Rg.ai 2 kr))
    (ah (oo (ts := [bg [iv y.num, iv (y.den : Int)], Rg.cz (.bool true)]) rfl (Rg.ai 3 kr) (of_decide_eq_true rfl) rfl)
    (ah (oo (ts := [bg [iv y.num, iv (y.den : Int)], Rg.cz (.bool true)]) rfl (Rg.ai 3 kr) (of_decide_eq_true rfl) rfl)
    (ah (vv Lm rfl dw.step dw.size rfl (xx (by intro j hj; simp at hj; (repeat' (first | (rcases hj with rfl | hj))) <;> first | (subst hj; exact ⟨_, _, _, rfl⟩) | exact ⟨_, _, _, rfl⟩)))
    Rg.fq))))))) ?_
   intro v2 V2 hG2 hv2 hne2
   simp only [Rg.puts, ko, kg, jy, jw, Act.put, jr, jq, jo]
   have e5 : v2 5 = .bool true := hv2 5 (by decide)
   obtain ⟨Ou, e6, Bh, Dv⟩ := (show uf 23 zR zt.heap.size V2 (v2 6) from hv2 6 (by decide))
   simp only [e5, e6]
   have hO := hG2.1
   replace hO := Own.add (aa HO) hG2.2 Bh Dv
   clear Bh Dv
   refine nz hO 0 [] zR [iv y.num, iv (y.den : Int)] [] rfl Gs rfl (show bg [iv y.num, iv (y.den : Int)] V2 (v2 4) from hv2 4 (by decide)) rfl rfl rfl ?_
   intro Dh ji hk0
   replace hO := ji
   clear ji
   clear HO
   have HO := hide hO
   clear hO hG2 hv2 hne2 hk0
   try clear e5 e6
   go_upto_region 3 with fail
   refine Rg.ik 6 30 (Rg.pick [Rg.cz (.bool true), Rg.cz (.bool false), Rg.cz (.bool false), Rg.cz (.bool true), Rg.cz (.bool false), Rg.cz (.bool false)]) (dw w [(Ou, 23, [iv y.num, iv (y.den : Int)]), (Cr, 23, [iv x.num, iv (x.den : Int)]), (w.heap.size + 1, 41, zS), (w.heap.size, 100, [.r x, .r y])] Dh) jb [] kr rfl (Rg.iq.pick ⟨Rg.ag _, Rg.ag _, Rg.ag _, Rg.ag _, Rg.ag _, Rg.ag _, trivial⟩) (dw.begin (aa HO))
    (ah (il rfl (Rg.gm kr rfl))
    (ah (Bj rfl (Rg.ai 0 kr) rfl rfl)
    (ah (il rfl (Rg.ai 1 kr))
    (Rg.dz (Rg.iy (d := 22) rfl kr rfl (il rfl (Rg.gm kr rfl)))
    (Rg.dz (Rg.iy (d := 22) rfl kr rfl (Bj rfl (Rg.ai 3 kr) rfl rfl))
    (ah (zk rfl (Rg.ai 2 kr) (Rg.ai 4 kr))
    Rg.fq)))))) ?_
   intro v3 V3 hG3 hv3 si
   simp only [Rg.puts, ko, kg, jy, jw, Act.put, jr, jq, jo]
   have e5 : v3 5 = .bool false := hv3 5 (by decide)
   simp only [e5]
   have hO := hG3.1
   clear HO
   have HO := hide hO
   clear hO hG3 hv3 si
   try clear e5
   have hr : t = ⟨x.num, x.den, y.num, y.den, 0⟩ := by rw [aa HR]; exact if_pos ⟨fx, fy⟩
   subst hr
   clear HR fx fy
   go_upto_region 5 with fail
   refine Rg.ik 3 30 (Rg.pick [bg [iv x.num, iv (x.den : Int)], bg [iv y.num, iv (y.den : Int)], bg [iv x.num, iv (x.den : Int), iv y.num, iv (y.den : Int)]]) (dw w [(Ou, 23, [iv y.num, iv (y.den : Int)]), (Cr, 23, [iv x.num, iv (x.den : Int)]), (w.heap.size + 1, 41, zS), (w.heap.size, 100, [.r x, .r y])] V3) jb [] kr rfl (Rg.iq.pick ⟨cu _, cu _, cu _, trivial⟩) (dw.begin (aa HO))
    (ah (je zb rf (Rg.gm kr rfl) [] [iv x.num, iv (x.den : Int)] [])
    (ah (je zb me0 (Rg.gm kr rfl) [] [iv y.num, iv (y.den : Int)] [])
    (ah (Ew Rp rfl (Rg.ai 0 kr) (Rg.ai 1 kr) rfl rfl rfl)
    Rg.fq))) ?_
   intro v4 V4 hG4 hv4 xh
   simp only [Rg.puts, ko, kg, jy, jw, Act.put, jr, jq, jo]
   have hO := hG4.1
   refine nz hO 2 [] zS [iv x.num, iv (x.den : Int), iv y.num, iv (y.den : Int)] [] rfl vo rfl (show bg [iv x.num, iv (x.den : Int), iv y.num, iv (y.den : Int)] V4 (v4 2) from hv4 2 (by decide)) rfl rfl rfl ?_
   intro Mt ji hk0
   replace hO := ji
   clear ji
   clear HO
   have HO := hide hO
   clear hO hG4 hv4 xh hk0
   go_wp2_with fail
   exact Bv Tryz.results92 zq rfl rfl (aa HO) ug rfl rfl
  ·
   go_upto_region 1 with fail
   refine Rg.ik 7 30 (Rg.pick [Rg.cz (.pointer (some ⟨w.heap.size, 0, none⟩)), bg [.r x], qj [bg [iv x.num, iv (x.den : Int)], Rg.cz (.bool true)], qj [bg [iv x.num, iv (x.den : Int)], Rg.cz (.bool true)], bg [iv x.num, iv (x.den : Int)], Rg.cz (.bool true), uf 23 zR W0.heap.size]) (dw w [(w.heap.size + 1, 41, zS), (w.heap.size, 100, [.r x, .r y])] W0) jb [6] kr rfl (Rg.iq.pick ⟨Rg.ag _, cu _, nu ⟨(cu _), (Rg.ag _), trivial⟩, nu ⟨(cu _), (Rg.ag _), trivial⟩, cu _, Rg.ag _, ui _ _ _, trivial⟩) (dw.begin (aa HO))
    (ah (xc (b := w.heap.size) (off := 0) rfl (Rg.gm kr rfl) rfl rfl)
    (ah (je og rf (Rg.ai 0 kr) [] [.r x] [.r y])
    (ah (ku Tryz.func102 kr rfl dw.step (Rg.ai 1 kr) (fun W v0 hG h0 => Si fx h0))
    (ah (il rfl (Rg.ai 2 kr))
    (ah (oo (ts := [bg [iv x.num, iv (x.den : Int)], Rg.cz (.bool true)]) rfl (Rg.ai 3 kr) (of_decide_eq_true rfl) rfl)
    (ah (oo (ts := [bg [iv x.num, iv (x.den : Int)], Rg.cz (.bool true)]) rfl (Rg.ai 3 kr) (of_decide_eq_true rfl) rfl)
    (ah (vv Lm rfl dw.step dw.size rfl (xx (by intro j hj; simp at hj; (repeat' (first | (rcases hj with rfl | hj))) <;> first | (subst hj; exact ⟨_, _, _, rfl⟩) | exact ⟨_, _, _, rfl⟩)))
    Rg.fq))))))) ?_
   intro v1 V1 hG1 hv1 hne1
   simp only [Rg.puts, ko, kg, jy, jw, Act.put, jr, jq, jo]
   have e5 : v1 5 = .bool true := hv1 5 (by decide)
   obtain ⟨Cr, e6, Bh, Dv⟩ := (show uf 23 zR W0.heap.size V1 (v1 6) from hv1 6 (by decide))
   simp only [e5, e6]
   have hO := hG1.1
   replace hO := Own.add (aa HO) hG1.2 Bh Dv
   clear Bh Dv
   refine nz hO 0 [] zR [iv x.num, iv (x.den : Int)] [] rfl Gs rfl (show bg [iv x.num, iv (x.den : Int)] V1 (v1 4) from hv1 4 (by decide)) rfl rfl rfl ?_
   intro zt ji hk0
   replace hO := ji
   clear ji
   clear HO
   have HO := hide hO
   clear hO hG1 hv1 hne1 hk0
   try clear e5 e6
   go_upto_region 2 with fail
   refine Rg.ik 7 30 (Rg.pick [Rg.cz (.pointer (some ⟨w.heap.size, 4, none⟩)), bg [.r y], qj [Da, Rg.cz (.bool false)], qj [Da, Rg.cz (.bool false)], Da, Rg.cz (.bool false), uf 23 zR zt.heap.size]) (dw w [(Cr, 23, [iv x.num, iv (x.den : Int)]), (w.heap.size + 1, 41, zS), (w.heap.size, 100, [.r x, .r y])] zt) jb [6] kr rfl (Rg.iq.pick ⟨Rg.ag _, cu _, nu ⟨(De), (Rg.ag _), trivial⟩, nu ⟨(De), (Rg.ag _), trivial⟩, De, Rg.ag _, ui _ _ _, trivial⟩) (dw.begin (aa HO))
    (ah (sw (b := w.heap.size) (off := 0) rfl (Rg.gm kr rfl) rfl rfl)
    (ah (je og ug (Rg.ai 0 kr) [.r x] [.r y] [])
    (ah (ku Tryz.func102 kr rfl dw.step (Rg.ai 1 kr) (fun W v0 hG h0 => Sj fy h0))
    (ah (il rfl (Rg.ai 2 kr))
    (ah (oo (ts := [Da, Rg.cz (.bool false)]) rfl (Rg.ai 3 kr) (of_decide_eq_true rfl) rfl)
    (ah (oo (ts := [Da, Rg.cz (.bool false)]) rfl (Rg.ai 3 kr) (of_decide_eq_true rfl) rfl)
    (ah (vv Lm rfl dw.step dw.size rfl (xx (by intro j hj; simp at hj; (repeat' (first | (rcases hj with rfl | hj))) <;> first | (subst hj; exact ⟨_, _, _, rfl⟩) | exact ⟨_, _, _, rfl⟩)))
    Rg.fq))))))) ?_
   intro v2 V2 hG2 hv2 hne2
   simp only [Rg.puts, ko, kg, jy, jw, Act.put, jr, jq, jo]
   have e5 : v2 5 = .bool false := hv2 5 (by decide)
   obtain ⟨Ou, e6, Bh, Dv⟩ := (show uf 23 zR zt.heap.size V2 (v2 6) from hv2 6 (by decide))
   simp only [e5, e6]
   have hO := hG2.1
   replace hO := Own.add (aa HO) hG2.2 Bh Dv
   clear Bh Dv
   obtain ⟨Nc, Nf, hy4⟩ := (show Da V2 (v2 4) from hv2 4 (by decide))
   refine nz hO 0 [] zR [iv Nc, iv Nf] [] rfl Gs rfl (show bg [iv Nc, iv Nf] V2 (v2 4) from hy4) rfl rfl rfl ?_
   intro Dh ji hk0
   replace hO := ji
   clear ji
   clear HO
   have HO := hide hO
   clear hO hG2 hv2 hne2 hk0
   try clear e5 e6
   go_upto_region 3 with fail
   refine Rg.ik 6 30 (Rg.pick [Rg.cz (.bool true), Rg.cz (.bool false), Rg.cz (.bool false), Rg.cz (.bool false), Rg.cz (.bool true), Rg.cz (.bool true)]) (dw w [(Ou, 23, [iv Nc, iv Nf]), (Cr, 23, [iv x.num, iv (x.den : Int)]), (w.heap.size + 1, 41, zS), (w.heap.size, 100, [.r x, .r y])] Dh) jb [] kr rfl (Rg.iq.pick ⟨Rg.ag _, Rg.ag _, Rg.ag _, Rg.ag _, Rg.ag _, Rg.ag _, trivial⟩) (dw.begin (aa HO))
    (ah (il rfl (Rg.gm kr rfl))
    (ah (Bj rfl (Rg.ai 0 kr) rfl rfl)
    (ah (il rfl (Rg.ai 1 kr))
    (Rg.dz (Rg.iy (d := 22) rfl kr rfl (il rfl (Rg.gm kr rfl)))
    (Rg.dz (Rg.iy (d := 22) rfl kr rfl (Bj rfl (Rg.ai 3 kr) rfl rfl))
    (ah (zk rfl (Rg.ai 2 kr) (Rg.ai 4 kr))
    Rg.fq)))))) ?_
   intro v3 V3 hG3 hv3 si
   simp only [Rg.puts, ko, kg, jy, jw, Act.put, jr, jq, jo]
   have e5 : v3 5 = .bool true := hv3 5 (by decide)
   simp only [e5]
   have hO := hG3.1
   clear HO
   have HO := hide hO
   clear hO hG3 hv3 si
   try clear e5
   have hr : t = ⟨0, 0, 0, 0, 3⟩ := by rw [aa HR]; exact if_neg (fun h => fy h.2)
   subst hr
   clear HR fx fy
   go_upto_region 4 with fail
   refine Rg.ik 1 30 (Rg.pick [bg zS]) (dw w [(Ou, 23, [iv Nc, iv Nf]), (Cr, 23, [iv x.num, iv (x.den : Int)]), (w.heap.size + 1, 41, zS), (w.heap.size, 100, [.r x, .r y])] V3) jb [] kr rfl (Rg.iq.pick ⟨cu _, trivial⟩) (dw.begin (aa HO))
    (ah (Ca Ce rfl rfl rfl)
    Rg.fq) ?_
   intro v4 V4 hG4 hv4 xh
   simp only [Rg.puts, ko, kg, jy, jw, Act.put, jr, jq, jo]
   have hO := hG4.1
   refine nz hO 2 [] zS zS [] rfl vo rfl (show bg zS V4 (v4 0) from hv4 0 (by decide)) rfl rfl rfl ?_
   intro Mt ji hk0
   replace hO := ji
   clear ji
   clear HO
   have HO := hide hO
   clear hO hG4 hv4 xh hk0
   go_wp2_with fail
   exact Bv Tryz.results92 zq rfl rfl (aa HO) ug rfl rfl
 ·
  by_cases fy : Wd.fits y
  ·
   go_upto_region 1 with fail
   refine Rg.ik 7 30 (Rg.pick [Rg.cz (.pointer (some ⟨w.heap.size, 0, none⟩)), bg [.r x], qj [Da, Rg.cz (.bool false)], qj [Da, Rg.cz (.bool false)], Da, Rg.cz (.bool false), uf 23 zR W0.heap.size]) (dw w [(w.heap.size + 1, 41, zS), (w.heap.size, 100, [.r x, .r y])] W0) jb [6] kr rfl (Rg.iq.pick ⟨Rg.ag _, cu _, nu ⟨(De), (Rg.ag _), trivial⟩, nu ⟨(De), (Rg.ag _), trivial⟩, De, Rg.ag _, ui _ _ _, trivial⟩) (dw.begin (aa HO))
    (ah (xc (b := w.heap.size) (off := 0) rfl (Rg.gm kr rfl) rfl rfl)
    (ah (je og rf (Rg.ai 0 kr) [] [.r x] [.r y])
    (ah (ku Tryz.func102 kr rfl dw.step (Rg.ai 1 kr) (fun W v0 hG h0 => Sj fx h0))
    (ah (il rfl (Rg.ai 2 kr))
    (ah (oo (ts := [Da, Rg.cz (.bool false)]) rfl (Rg.ai 3 kr) (of_decide_eq_true rfl) rfl)
    (ah (oo (ts := [Da, Rg.cz (.bool false)]) rfl (Rg.ai 3 kr) (of_decide_eq_true rfl) rfl)
    (ah (vv Lm rfl dw.step dw.size rfl (xx (by intro j hj; simp at hj; (repeat' (first | (rcases hj with rfl | hj))) <;> first | (subst hj; exact ⟨_, _, _, rfl⟩) | exact ⟨_, _, _, rfl⟩)))
    Rg.fq))))))) ?_
   intro v1 V1 hG1 hv1 hne1
   simp only [Rg.puts, ko, kg, jy, jw, Act.put, jr, jq, jo]
   have e5 : v1 5 = .bool false := hv1 5 (by decide)
   obtain ⟨Cr, e6, Bh, Dv⟩ := (show uf 23 zR W0.heap.size V1 (v1 6) from hv1 6 (by decide))
   simp only [e5, e6]
   have hO := hG1.1
   replace hO := Own.add (aa HO) hG1.2 Bh Dv
   clear Bh Dv
   obtain ⟨Jp, Jq, hy4⟩ := (show Da V1 (v1 4) from hv1 4 (by decide))
   refine nz hO 0 [] zR [iv Jp, iv Jq] [] rfl Gs rfl (show bg [iv Jp, iv Jq] V1 (v1 4) from hy4) rfl rfl rfl ?_
   intro zt ji hk0
   replace hO := ji
   clear ji
   clear HO
   have HO := hide hO
   clear hO hG1 hv1 hne1 hk0
   try clear e5 e6
   go_upto_region 2 with fail
   refine Rg.ik 7 30 (Rg.pick [Rg.cz (.pointer (some ⟨w.heap.size, 4, none⟩)), bg [.r y], qj [bg [iv y.num, iv (y.den : Int)], Rg.cz (.bool true)], qj [bg [iv y.num, iv (y.den : Int)], Rg.cz (.bool true)], bg [iv y.num, iv (y.den : Int)], Rg.cz (.bool true), uf 23 zR zt.heap.size]) (dw w [(Cr, 23, [iv Jp, iv Jq]), (w.heap.size + 1, 41, zS), (w.heap.size, 100, [.r x, .r y])] zt) jb [6] kr rfl (Rg.iq.pick ⟨Rg.ag _, cu _, nu ⟨(cu _), (Rg.ag _), trivial⟩, nu ⟨(cu _), (Rg.ag _), trivial⟩, cu _, Rg.ag _, ui _ _ _, trivial⟩) (dw.begin (aa HO))
    (ah (sw (b := w.heap.size) (off := 0) rfl (Rg.gm kr rfl) rfl rfl)
    (ah (je og ug (Rg.ai 0 kr) [.r x] [.r y] [])
    (ah (ku Tryz.func102 kr rfl dw.step (Rg.ai 1 kr) (fun W v0 hG h0 => Si fy h0))
    (ah (il rfl (Rg.ai 2 kr))
    (ah (oo (ts := [bg [iv y.num, iv (y.den : Int)], Rg.cz (.bool true)]) rfl (Rg.ai 3 kr) (of_decide_eq_true rfl) rfl)
    (ah (oo (ts := [bg [iv y.num, iv (y.den : Int)], Rg.cz (.bool true)]) rfl (Rg.ai 3 kr) (of_decide_eq_true rfl) rfl)
    (ah (vv Lm rfl dw.step dw.size rfl (xx (by intro j hj; simp at hj; (repeat' (first | (rcases hj with rfl | hj))) <;> first | (subst hj; exact ⟨_, _, _, rfl⟩) | exact ⟨_, _, _, rfl⟩)))
    Rg.fq))))))) ?_
   intro v2 V2 hG2 hv2 hne2
   simp only [Rg.puts, ko, kg, jy, jw, Act.put, jr, jq, jo]
   have e5 : v2 5 = .bool true := hv2 5 (by decide)
   obtain ⟨Ou, e6, Bh, Dv⟩ := (show uf 23 zR zt.heap.size V2 (v2 6) from hv2 6 (by decide))
   simp only [e5, e6]
   have hO := hG2.1
   replace hO := Own.add (aa HO) hG2.2 Bh Dv
   clear Bh Dv
   refine nz hO 0 [] zR [iv y.num, iv (y.den : Int)] [] rfl Gs rfl (show bg [iv y.num, iv (y.den : Int)] V2 (v2 4) from hv2 4 (by decide)) rfl rfl rfl ?_
   intro Dh ji hk0
   replace hO := ji
   clear ji
   clear HO
   have HO := hide hO
   clear hO hG2 hv2 hne2 hk0
   try clear e5 e6
   go_upto_region 3 with fail
   refine Rg.ik 6 30 (Rg.pick [Rg.cz (.bool false), Rg.cz (.bool true), Rg.cz (.bool true), Rg.cz undef, Rg.cz undef, Rg.cz (.bool true)]) (dw w [(Ou, 23, [iv y.num, iv (y.den : Int)]), (Cr, 23, [iv Jp, iv Jq]), (w.heap.size + 1, 41, zS), (w.heap.size, 100, [.r x, .r y])] Dh) jb [] kr rfl (Rg.iq.pick ⟨Rg.ag _, Rg.ag _, Rg.ag _, Rg.ag _, Rg.ag _, Rg.ag _, trivial⟩) (dw.begin (aa HO))
    (ah (il rfl (Rg.gm kr rfl))
    (ah (Bj rfl (Rg.ai 0 kr) rfl rfl)
    (ah (il rfl (Rg.ai 1 kr))
    (Rg.dz (Rg.mq (d := 22) rfl kr rfl rfl mi rfl rfl)
    (Rg.dz (Rg.mq (d := 22) rfl kr rfl rfl mi rfl rfl)
    (ah (xw rfl (Rg.ai 2 kr) (Rg.lv _))
    Rg.fq)))))) ?_
   intro v3 V3 hG3 hv3 si
   simp only [Rg.puts, ko, kg, jy, jw, Act.put, jr, jq, jo]
   have e5 : v3 5 = .bool true := hv3 5 (by decide)
   simp only [e5]
   have hO := hG3.1
   clear HO
   have HO := hide hO
   clear hO hG3 hv3 si
   try clear e5
   have hr : t = ⟨0, 0, 0, 0, 3⟩ := by rw [aa HR]; exact if_neg (fun h => fx h.1)
   subst hr
   clear HR fx fy
   go_upto_region 4 with fail
   refine Rg.ik 1 30 (Rg.pick [bg zS]) (dw w [(Ou, 23, [iv y.num, iv (y.den : Int)]), (Cr, 23, [iv Jp, iv Jq]), (w.heap.size + 1, 41, zS), (w.heap.size, 100, [.r x, .r y])] V3) jb [] kr rfl (Rg.iq.pick ⟨cu _, trivial⟩) (dw.begin (aa HO))
    (ah (Ca Ce rfl rfl rfl)
    Rg.fq) ?_
   intro v4 V4 hG4 hv4 xh
   simp only [Rg.puts, ko, kg, jy, jw, Act.put, jr, jq, jo]
   have hO := hG4.1
   refine nz hO 2 [] zS zS [] rfl vo rfl (show bg zS V4 (v4 0) from hv4 0 (by decide)) rfl rfl rfl ?_
   intro Mt ji hk0
   replace hO := ji
   clear ji
   clear HO
   have HO := hide hO
   clear hO hG4 hv4 xh hk0
   go_wp2_with fail
   exact Bv Tryz.results92 zq rfl rfl (aa HO) ug rfl rfl
  ·
   go_upto_region 1 with fail
   refine Rg.ik 7 30 (Rg.pick [Rg.cz (.pointer (some ⟨w.heap.size, 0, none⟩)), bg [.r x], qj [Da, Rg.cz (.bool false)], qj [Da, Rg.cz (.bool false)], Da, Rg.cz (.bool false), uf 23 zR W0.heap.size]) (dw w [(w.heap.size + 1, 41, zS), (w.heap.size, 100, [.r x, .r y])] W0) jb [6] kr rfl (Rg.iq.pick ⟨Rg.ag _, cu _, nu ⟨(De), (Rg.ag _), trivial⟩, nu ⟨(De), (Rg.ag _), trivial⟩, De, Rg.ag _, ui _ _ _, trivial⟩) (dw.begin (aa HO))
    (ah (xc (b := w.heap.size) (off := 0) rfl (Rg.gm kr rfl) rfl rfl)
    (ah (je og rf (Rg.ai 0 kr) [] [.r x] [.r y])
    (ah (ku Tryz.func102 kr rfl dw.step (Rg.ai 1 kr) (fun W v0 hG h0 => Sj fx h0))
    (ah (il rfl (Rg.ai 2 kr))
    (ah (oo (ts := [Da, Rg.cz (.bool false)]) rfl (Rg.ai 3 kr) (of_decide_eq_true rfl) rfl)
    (ah (oo (ts := [Da, Rg.cz (.bool false)]) rfl (Rg.ai 3 kr) (of_decide_eq_true rfl) rfl)
    (ah (vv Lm rfl dw.step dw.size rfl (xx (by intro j hj; simp at hj; (repeat' (first | (rcases hj with rfl | hj))) <;> first | (subst hj; exact ⟨_, _, _, rfl⟩) | exact ⟨_, _, _, rfl⟩)))
    Rg.fq))))))) ?_
   intro v1 V1 hG1 hv1 hne1
   simp only [Rg.puts, ko, kg, jy, jw, Act.put, jr, jq, jo]
   have e5 : v1 5 = .bool false := hv1 5 (by decide)
   obtain ⟨Cr, e6, Bh, Dv⟩ := (show uf 23 zR W0.heap.size V1 (v1 6) from hv1 6 (by decide))
   simp only [e5, e6]
   have hO := hG1.1
   replace hO := Own.add (aa HO) hG1.2 Bh Dv
   clear Bh Dv
   obtain ⟨Jp, Jq, hy4⟩ := (show Da V1 (v1 4) from hv1 4 (by decide))
   refine nz hO 0 [] zR [iv Jp, iv Jq] [] rfl Gs rfl (show bg [iv Jp, iv Jq] V1 (v1 4) from hy4) rfl rfl rfl ?_
   intro zt ji hk0
   replace hO := ji
   clear ji
   clear HO
   have HO := hide hO
   clear hO hG1 hv1 hne1 hk0
   try clear e5 e6
   go_upto_region 2 with fail
   refine Rg.ik 7 30 (Rg.pick [Rg.cz (.pointer (some ⟨w.heap.size, 4, none⟩)), bg [.r y], qj [Da, Rg.cz (.bool false)], qj [Da, Rg.cz (.bool false)], Da, Rg.cz (.bool false), uf 23 zR zt.heap.size]) (dw w [(Cr, 23, [iv Jp, iv Jq]), (w.heap.size + 1, 41, zS), (w.heap.size, 100, [.r x, .r y])] zt) jb [6] kr rfl (Rg.iq.pick ⟨Rg.ag _, cu _, nu ⟨(De), (Rg.ag _), trivial⟩, nu ⟨(De), (Rg.ag _), trivial⟩, De, Rg.ag _, ui _ _ _, trivial⟩) (dw.begin (aa HO))
    (ah (sw (b := w.heap.size) (off := 0) rfl (Rg.gm kr rfl) rfl rfl)
    (ah (je og ug (Rg.ai 0 kr) [.r x] [.r y] [])
    (ah (ku Tryz.func102 kr rfl dw.step (Rg.ai 1 kr) (fun W v0 hG h0 => Sj fy h0))
    (ah (il rfl (Rg.ai 2 kr))
    (ah (oo (ts := [Da, Rg.cz (.bool false)]) rfl (Rg.ai 3 kr) (of_decide_eq_true rfl) rfl)
    (ah (oo (ts := [Da, Rg.cz (.bool false)]) rfl (Rg.ai 3 kr) (of_decide_eq_true rfl) rfl)
    (ah (vv Lm rfl dw.step dw.size rfl (xx (by intro j hj; simp at hj; (repeat' (first | (rcases hj with rfl | hj))) <;> first | (subst hj; exact ⟨_, _, _, rfl⟩) | exact ⟨_, _, _, rfl⟩)))
    Rg.fq))))))) ?_
   intro v2 V2 hG2 hv2 hne2
   simp only [Rg.puts, ko, kg, jy, jw, Act.put, jr, jq, jo]
   have e5 : v2 5 = .bool false := hv2 5 (by decide)
   obtain ⟨Ou, e6, Bh, Dv⟩ := (show uf 23 zR zt.heap.size V2 (v2 6) from hv2 6 (by decide))
   simp only [e5, e6]
   have hO := hG2.1
   replace hO := Own.add (aa HO) hG2.2 Bh Dv
   clear Bh Dv
   obtain ⟨Nc, Nf, hy4⟩ := (show Da V2 (v2 4) from hv2 4 (by decide))
   refine nz hO 0 [] zR [iv Nc, iv Nf] [] rfl Gs rfl (show bg [iv Nc, iv Nf] V2 (v2 4) from hy4) rfl rfl rfl ?_
   intro Dh ji hk0
   replace hO := ji
   clear ji
   clear HO
   have HO := hide hO
   clear hO hG2 hv2 hne2 hk0
   try clear e5 e6
   go_upto_region 3 with fail
   refine Rg.ik 6 30 (Rg.pick [Rg.cz (.bool false), Rg.cz (.bool true), Rg.cz (.bool true), Rg.cz undef, Rg.cz undef, Rg.cz (.bool true)]) (dw w [(Ou, 23, [iv Nc, iv Nf]), (Cr, 23, [iv Jp, iv Jq]), (w.heap.size + 1, 41, zS), (w.heap.size, 100, [.r x, .r y])] Dh) jb [] kr rfl (Rg.iq.pick ⟨Rg.ag _, Rg.ag _, Rg.ag _, Rg.ag _, Rg.ag _, Rg.ag _, trivial⟩) (dw.begin (aa HO))
    (ah (il rfl (Rg.gm kr rfl))
    (ah (Bj rfl (Rg.ai 0 kr) rfl rfl)
    (ah (il rfl (Rg.ai 1 kr))
    (Rg.dz (Rg.mq (d := 22) rfl kr rfl rfl mi rfl rfl)
    (Rg.dz (Rg.mq (d := 22) rfl kr rfl rfl mi rfl rfl)
    (ah (xw rfl (Rg.ai 2 kr) (Rg.lv _))
    Rg.fq)))))) ?_
   intro v3 V3 hG3 hv3 si
   simp only [Rg.puts, ko, kg, jy, jw, Act.put, jr, jq, jo]
   have e5 : v3 5 = .bool true := hv3 5 (by decide)
   simp only [e5]
   have hO := hG3.1
   clear HO
   have HO := hide hO
   clear hO hG3 hv3 si
   try clear e5
   have hr : t = ⟨0, 0, 0, 0, 3⟩ := by rw [aa HR]; exact if_neg (fun h => fx h.1)
   subst hr
   clear HR fx fy
   go_upto_region 4 with fail
   refine Rg.ik 1 30 (Rg.pick [bg zS]) (dw w [(Ou, 23, [iv Nc, iv Nf]), (Cr, 23, [iv Jp, iv Jq]), (w.heap.size + 1, 41, zS), (w.heap.size, 100, [.r x, .r y])] V3) jb [] kr rfl (Rg.iq.pick ⟨cu _, trivial⟩) (dw.begin (aa HO))
    (ah (Ca Ce rfl rfl rfl)
    Rg.fq) ?_
   intro v4 V4 hG4 hv4 xh
   simp only [Rg.puts, ko, kg, jy, jw, Act.put, jr, jq, jo]
   have hO := hG4.1
   refine nz hO 2 [] zS zS [] rfl vo rfl (show bg zS V4 (v4 0) from hv4 0 (by decide)) rfl rfl rfl ?_
   intro Mt ji hk0
   replace hO := ji
   clear ji
   clear HO
   have HO := hide hO
   clear hO hG4 hv4 xh hk0
   go_wp2_with fail
   exact Bv Tryz.results92 zq rfl rfl (aa HO) ug rfl rfl
end Sb

end Go.Proofs.YtfbcdfoohpkfeaaGreatDoor
