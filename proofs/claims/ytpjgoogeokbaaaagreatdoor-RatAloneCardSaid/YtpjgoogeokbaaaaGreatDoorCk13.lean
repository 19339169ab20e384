/- Texts beneath a law of layer 1. -/
import Derived.Test.YtpjgoogeokbaaaaGreatDoorCk12
set_option maxRecDepth 100000
namespace Go.Proofs.YtpjgoogeokbaaaaGreatDoor
open Go.RowKit

theorem avs {a b : Int} (hb : 0 < b) (ha : 0 ≤ a) : a / b = ((a.natAbs / b.natAbs : Nat) : Int) := by
 obtain ⟨n, rfl⟩ := Int.eq_ofNat_of_zero_le ha
 obtain ⟨m, rfl⟩ := Int.eq_ofNat_of_zero_le (Int.le_of_lt hb)
 simp
theorem afd {a b : Int} (hb : 0 < b) (ha : a < 0) : (a.natAbs % b.natAbs = 0 → a / b = -((a.natAbs / b.natAbs : Nat) : Int)) ∧ (a.natAbs % b.natAbs ≠ 0 → a / b = -((a.natAbs / b.natAbs + 1 : Nat) : Int)) := by
 obtain ⟨m, rfl⟩ := Int.eq_ofNat_of_zero_le (Int.le_of_lt hb)
 obtain ⟨n, hn⟩ : ∃ n : Nat, a = -(n : Int) := ⟨a.natAbs, by omega⟩
 subst hn
 have e1 : (-(n : Int)).natAbs = n := by omega
 have e2 : ((m : Nat) : Int).natAbs = m := by omega
 rw [e1, e2]
 have hm : 0 < m := by omega
 have Dg := Nat.mod_add_div n m
 have hlt := Nat.mod_lt n hm
 constructor
 ·
  intro h0
  refine ((Int.ediv_emod_unique (r := 0) hb).2 ⟨?_, by omega, hb⟩).1
  rw [h0, Nat.zero_add] at Dg
  rw [Int.mul_neg, ← Int.natCast_mul, Dg]; omega
 ·
  intro h0
  refine ((Int.ediv_emod_unique (r := (m : Int) - ((n % m : Nat) : Int)) hb).2 ⟨?_, by omega, by omega⟩).1
  rw [Int.mul_neg, ← Int.natCast_mul, Nat.mul_add, Nat.mul_one]
  generalize m * (n / m) = t at *
  omega
theorem axw (w : World) : rq (w.alloc (.cells #[.int .u32 1] 136)) (some ⟨w.heap.size, 0, none⟩) 1 [1] 1 := by
 have hz : ZB .u32 (w.alloc (.cells #[.int .u32 1] 136)) w.heap.size 136 [1] := heap_alloc_new w _
 exact ⟨hz.Fx _ hz.lt, by simp, by omega, by intro x hx; rw [List.mem_singleton] at hx; subst hx; exact zx, .inr (by simp), by simp [Wd.val]⟩

set_option maxHeartbeats 4000000 in
theorem asq (A1 : Option Addr) (c1 : Nat) (l1 : List Nat) (m1 : Bool) (z1 : Int) (A2 : Option Addr) (c2 : Nat) (l2 : List Nat) (m2 : Bool) (z2 : Int) (K : Nat) (w : World) (h1 : bg w A1 c1 l1 m1 z1) (h2 : bg w A2 c2 l2 m2 z2) (hb : 0 < z2) (hK : Wd.Sz di K z1) (hk : l1.length + 1 ≤ 35184372088832) (hk2 : l2.length + 1 ≤ 35184372088832) (hk3 : K + 3 ≤ 35184372088832) (ha : 0 ≤ z1) :
  Calls Tryz.prog 106 #[(Value.agg #[.slice A1 l1.length c1, .bool m1]), (Value.agg #[.slice A2 l2.length c2, .bool m2])] w fun e w' => uq w (z1 / z2) e w' := by
 obtain rfl : m1 = false := by rw [h1.sign]; exact decide_eq_false om
 obtain rfl : m2 = false := by rw [h2.sign]; exact decide_eq_false om
 have hv := avs hb ha
 have HP := hide (fun W (hW : Below w.heap.size w W) => Gi A1 A2 c1 c2 l1 l2 z1.natAbs z2.natAbs W (h1.nat.below hW) (h2.nat.below hW) om om om)
 obtain ⟨p, hp⟩ : ∃ p, p = z1.natAbs / z2.natAbs := ⟨_, rfl⟩
 obtain ⟨r, hr⟩ : ∃ r, r = z1.natAbs % z2.natAbs := ⟨_, rfl⟩
 obtain ⟨z, hz⟩ : ∃ z, z = z1 / z2 := ⟨_, rfl⟩
 have hpK : p + 1 < di ^ (K + 1) := by
  rw [hp]
  have e1 := Nat.div_le_self z1.natAbs z2.natAbs
  have e2 : di ^ K < di ^ (K + 1) := Nat.pow_lt_pow_right zx om
  have e3 : z1.natAbs < di ^ K := hK
  omega
 rw [← hp, ← hr] at HP
 rw [← hp] at hv
 rw [← hz] at hv ⊢
 have HV := Lib.hid hv; have HPK := hide hpK
 clear h1 h2 hb ha hp hr hz hv hK hpK
 go_enter Tryz.func106, Tryz.ntmps106
 go_upto_region 1 with fail
 obtain ⟨n0, n1, n2, hsz, hw0⟩ := ll w (.cells #[.slice A1 l1.length c1, .bool false] 50) (.cells #[.slice A2 l2.length c2, .bool false] 50) (.cells #[.slice none 0 0, .bool false] 50)
 generalize (((w.alloc (.cells #[.slice A1 l1.length c1, .bool false] 50)).alloc (.cells #[.slice A2 l2.length c2, .bool false] 50)).alloc (.cells #[.slice none 0 0, .bool false] 50)) = W0 at *
 have k0 : W0.cell? ⟨w.heap.size, 0, none⟩ = some (.slice A1 l1.length c1) := ag n0 0
 have k1 : W0.cell? ⟨w.heap.size, 1, none⟩ = some (.bool false) := ag n0 1
 have k2 : W0.cell? ⟨w.heap.size + 1, 0, none⟩ = some (.slice A2 l2.length c2) := ag n1 0
 have k3 : W0.cell? ⟨w.heap.size + 1, 1, none⟩ = some (.bool false) := ag n1 1
 have q0 := lt_of_block n0; have q1 := lt_of_block n1; have q2 := lt_of_block n2
 have r0 : W0.cell? ⟨w.heap.size + 1 + 1, 0, none⟩ = some (.slice none 0 0) := ag n2 0
 have r1 : W0.cell? ⟨w.heap.size + 1 + 1, 1, none⟩ = some (.bool false) := ag n2 1
 have f0 := ah n2 0; have f1 := ah n2 1
 have NR := Lib.hid n2
 clear n0 n1 n2 hsz
 go_wp2_with fail
 refine ((aa HP) _ hw0).mono ?_
 rintro e W1 ⟨A5, c5, l5, A6, c6, l6, rfl, g5, g6, hb⟩
 have hl6 := g6.Gm
 clear hl6
 have bku := g5.uk; have bkt := g5.cap2; have bks := g6.uk; have bkr := g6.cap2
 obtain ⟨hc, hfz⟩ := az hb
 replace k1 := (hc _ _ q0).trans k1
 replace k3 := (hc _ _ q1).trans k3
 replace r0 := (hc _ _ q2).trans r0
 replace r1 := (hc _ _ q2).trans r1
 replace f0 := (hfz _ _ q2).trans f0
 replace f1 := (hfz _ _ q2).trans f1
 replace NR := Lib.hid ((hb.block _ q2).trans NR.out)
 replace hw0 := au hw0 hb
 replace q0 := Nat.lt_of_lt_of_le q0 hb.size
 replace q1 := Nat.lt_of_lt_of_le q1 hb.size
 replace q2 := Nat.lt_of_lt_of_le q2 hb.size
 have G5 := hide g5
 clear g5 g6 hb hc hfz k0 k2
 go_wp2_with fail
 have hsg := Bf A5 c5 l5 p false W1 (aa G5)
 have Gd := hide hsg
 clear hsg
 refine (aa Gd).mono ?_
 rintro e w' ⟨A8, c8, l8, m8, rfl, g8, hb⟩
 obtain ⟨hc, hfz⟩ := az hb
 have hblk := (hb.block _ q2).trans NR.out
 have jd := Lib.hid hblk
 have gp := au hw0 hb
 have e9 : (if (false : Bool) = true then -((p : Nat) : Int) else ((p : Nat) : Int)) = z := by rw [HV.out]; rfl
 rw [e9] at g8
 have G8 := hide g8
 clear hb hblk e9 g8
 go_wp2_with fail
 exact bodyPost_ret (v := .agg #[.slice A8 l8.length c8, .bool m8]) (by simp [results, Tryz.results106, go_sem, hc, r0, r1, q2]) rfl
  ⟨A8, c8, l8, m8, rfl, (aa G8).upto jd.out (Ck _ _ _ _) (fq _ _ _ _), gp.grown (fq _ _ _ _) gp.size (fun k hk => by injection hk with hk; omega)⟩

set_option maxHeartbeats 4000000 in
theorem asr (A1 : Option Addr) (c1 : Nat) (l1 : List Nat) (m1 : Bool) (z1 : Int) (A2 : Option Addr) (c2 : Nat) (l2 : List Nat) (m2 : Bool) (z2 : Int) (K : Nat) (w : World) (h1 : bg w A1 c1 l1 m1 z1) (h2 : bg w A2 c2 l2 m2 z2) (hb : 0 < z2) (hK : Wd.Sz di K z1) (hk : l1.length + 1 ≤ 35184372088832) (hk2 : l2.length + 1 ≤ 35184372088832) (hk3 : K + 3 ≤ 35184372088832) (ha : z1 < 0) (h0 : z1.natAbs % z2.natAbs = 0) :
  Calls Tryz.prog 106 #[(Value.agg #[.slice A1 l1.length c1, .bool m1]), (Value.agg #[.slice A2 l2.length c2, .bool m2])] w fun e w' => uq w (z1 / z2) e w' := by
 obtain rfl : m1 = true := by rw [h1.sign]; exact decide_eq_true ha
 obtain rfl : m2 = false := by rw [h2.sign]; exact decide_eq_false om
 have hv := (afd hb ha).1 h0
 have HP := hide (fun W (hW : Below w.heap.size w W) => Gi A1 A2 c1 c2 l1 l2 z1.natAbs z2.natAbs W (h1.nat.below hW) (h2.nat.below hW) om om om)
 obtain ⟨p, hp⟩ : ∃ p, p = z1.natAbs / z2.natAbs := ⟨_, rfl⟩
 obtain ⟨r, hr⟩ : ∃ r, r = z1.natAbs % z2.natAbs := ⟨_, rfl⟩
 obtain ⟨z, hz⟩ : ∃ z, z = z1 / z2 := ⟨_, rfl⟩
 have hpK : p + 1 < di ^ (K + 1) := by
  rw [hp]
  have e1 := Nat.div_le_self z1.natAbs z2.natAbs
  have e2 : di ^ K < di ^ (K + 1) := Nat.pow_lt_pow_right zx om
  have e3 : z1.natAbs < di ^ K := hK
  omega
 rw [← hp, ← hr] at HP
 rw [← hp] at hv
 rw [← hz] at hv ⊢
 have HV := Lib.hid hv; have HPK := hide hpK
 rw [← hr] at h0
 have H0 := hide h0
 clear h0
 clear h1 h2 hb ha hp hr hz hv hK hpK
 go_enter Tryz.func106, Tryz.ntmps106
 go_upto_region 1 with fail
 obtain ⟨n0, n1, n2, hsz, hw0⟩ := ll w (.cells #[.slice A1 l1.length c1, .bool true] 50) (.cells #[.slice A2 l2.length c2, .bool false] 50) (.cells #[.slice none 0 0, .bool false] 50)
 generalize (((w.alloc (.cells #[.slice A1 l1.length c1, .bool true] 50)).alloc (.cells #[.slice A2 l2.length c2, .bool false] 50)).alloc (.cells #[.slice none 0 0, .bool false] 50)) = W0 at *
 have k0 : W0.cell? ⟨w.heap.size, 0, none⟩ = some (.slice A1 l1.length c1) := ag n0 0
 have k1 : W0.cell? ⟨w.heap.size, 1, none⟩ = some (.bool true) := ag n0 1
 have k2 : W0.cell? ⟨w.heap.size + 1, 0, none⟩ = some (.slice A2 l2.length c2) := ag n1 0
 have k3 : W0.cell? ⟨w.heap.size + 1, 1, none⟩ = some (.bool false) := ag n1 1
 have q0 := lt_of_block n0; have q1 := lt_of_block n1; have q2 := lt_of_block n2
 have r0 : W0.cell? ⟨w.heap.size + 1 + 1, 0, none⟩ = some (.slice none 0 0) := ag n2 0
 have r1 : W0.cell? ⟨w.heap.size + 1 + 1, 1, none⟩ = some (.bool false) := ag n2 1
 have f0 := ah n2 0; have f1 := ah n2 1
 have NR := Lib.hid n2
 clear n0 n1 n2 hsz
 go_wp2_with fail
 refine ((aa HP) _ hw0).mono ?_
 rintro e W1 ⟨A5, c5, l5, A6, c6, l6, rfl, g5, g6, hb⟩
 have hl6 := g6.Gm
 replace hl6 := hl6.1 (aa H0)
 have bku := g5.uk; have bkt := g5.cap2; have bks := g6.uk; have bkr := g6.cap2
 obtain ⟨hc, hfz⟩ := az hb
 replace k1 := (hc _ _ q0).trans k1
 replace k3 := (hc _ _ q1).trans k3
 replace r0 := (hc _ _ q2).trans r0
 replace r1 := (hc _ _ q2).trans r1
 replace f0 := (hfz _ _ q2).trans f0
 replace f1 := (hfz _ _ q2).trans f1
 replace NR := Lib.hid ((hb.block _ q2).trans NR.out)
 replace hw0 := au hw0 hb
 replace q0 := Nat.lt_of_lt_of_le q0 hb.size
 replace q1 := Nat.lt_of_lt_of_le q1 hb.size
 replace q2 := Nat.lt_of_lt_of_le q2 hb.size
 have G5 := hide g5
 clear g5 g6 hb hc hfz k0 k2
 go_wp2_with fail
 have hsg := Bf A5 c5 l5 p true W1 (aa G5)
 have Gd := hide hsg
 clear hsg
 refine (aa Gd).mono ?_
 rintro e w' ⟨A8, c8, l8, m8, rfl, g8, hb⟩
 obtain ⟨hc, hfz⟩ := az hb
 have hblk := (hb.block _ q2).trans NR.out
 have jd := Lib.hid hblk
 have gp := au hw0 hb
 have e9 : (if (true : Bool) = true then -((p : Nat) : Int) else ((p : Nat) : Int)) = z := by rw [HV.out]; rfl
 rw [e9] at g8
 have G8 := hide g8
 clear hb hblk e9 g8
 go_wp2_with fail
 exact bodyPost_ret (v := .agg #[.slice A8 l8.length c8, .bool m8]) (by simp [results, Tryz.results106, go_sem, hc, r0, r1, q2]) rfl
  ⟨A8, c8, l8, m8, rfl, (aa G8).upto jd.out (Ck _ _ _ _) (fq _ _ _ _), gp.grown (fq _ _ _ _) gp.size (fun k hk => by injection hk with hk; omega)⟩

set_option maxHeartbeats 4000000 in
theorem ass (A1 : Option Addr) (c1 : Nat) (l1 : List Nat) (m1 : Bool) (z1 : Int) (A2 : Option Addr) (c2 : Nat) (l2 : List Nat) (m2 : Bool) (z2 : Int) (K : Nat) (w : World) (h1 : bg w A1 c1 l1 m1 z1) (h2 : bg w A2 c2 l2 m2 z2) (hb : 0 < z2) (hK : Wd.Sz di K z1) (hk : l1.length + 1 ≤ 35184372088832) (hk2 : l2.length + 1 ≤ 35184372088832) (hk3 : K + 3 ≤ 35184372088832) (ha : z1 < 0) (h0 : z1.natAbs % z2.natAbs ≠ 0) :
  Calls Tryz.prog 106 #[(Value.agg #[.slice A1 l1.length c1, .bool m1]), (Value.agg #[.slice A2 l2.length c2, .bool m2])] w fun e w' => uq w (z1 / z2) e w' := by
 obtain rfl : m1 = true := by rw [h1.sign]; exact decide_eq_true ha
 obtain rfl : m2 = false := by rw [h2.sign]; exact decide_eq_false om
 have hv := (afd hb ha).2 h0
 have HP := hide (fun W (hW : Below w.heap.size w W) => Gi A1 A2 c1 c2 l1 l2 z1.natAbs z2.natAbs W (h1.nat.below hW) (h2.nat.below hW) om om om)
 obtain ⟨p, hp⟩ : ∃ p, p = z1.natAbs / z2.natAbs := ⟨_, rfl⟩
 obtain ⟨r, hr⟩ : ∃ r, r = z1.natAbs % z2.natAbs := ⟨_, rfl⟩
 obtain ⟨z, hz⟩ : ∃ z, z = z1 / z2 := ⟨_, rfl⟩
 have hpK : p + 1 < di ^ (K + 1) := by
  rw [hp]
  have e1 := Nat.div_le_self z1.natAbs z2.natAbs
  have e2 : di ^ K < di ^ (K + 1) := Nat.pow_lt_pow_right zx om
  have e3 : z1.natAbs < di ^ K := hK
  omega
 rw [← hp, ← hr] at HP
 rw [← hp] at hv
 rw [← hz] at hv ⊢
 have HV := Lib.hid hv; have HPK := hide hpK
 rw [← hr] at h0
 have H0 := hide h0
 clear h0
 clear h1 h2 hb ha hp hr hz hv hK hpK
 go_enter Tryz.func106, Tryz.ntmps106
 go_upto_region 1 with fail
 obtain ⟨n0, n1, n2, hsz, hw0⟩ := ll w (.cells #[.slice A1 l1.length c1, .bool true] 50) (.cells #[.slice A2 l2.length c2, .bool false] 50) (.cells #[.slice none 0 0, .bool false] 50)
 generalize (((w.alloc (.cells #[.slice A1 l1.length c1, .bool true] 50)).alloc (.cells #[.slice A2 l2.length c2, .bool false] 50)).alloc (.cells #[.slice none 0 0, .bool false] 50)) = W0 at *
 have k0 : W0.cell? ⟨w.heap.size, 0, none⟩ = some (.slice A1 l1.length c1) := ag n0 0
 have k1 : W0.cell? ⟨w.heap.size, 1, none⟩ = some (.bool true) := ag n0 1
 have k2 : W0.cell? ⟨w.heap.size + 1, 0, none⟩ = some (.slice A2 l2.length c2) := ag n1 0
 have k3 : W0.cell? ⟨w.heap.size + 1, 1, none⟩ = some (.bool false) := ag n1 1
 have q0 := lt_of_block n0; have q1 := lt_of_block n1; have q2 := lt_of_block n2
 have r0 : W0.cell? ⟨w.heap.size + 1 + 1, 0, none⟩ = some (.slice none 0 0) := ag n2 0
 have r1 : W0.cell? ⟨w.heap.size + 1 + 1, 1, none⟩ = some (.bool false) := ag n2 1
 have f0 := ah n2 0; have f1 := ah n2 1
 have NR := Lib.hid n2
 clear n0 n1 n2 hsz
 go_wp2_with fail
 refine ((aa HP) _ hw0).mono ?_
 rintro e W1 ⟨A5, c5, l5, A6, c6, l6, rfl, g5, g6, hb⟩
 have hl6 := g6.Gm
 replace hl6 : ¬ l6.length = 0 := fun e => (aa H0) (hl6.2 e)
 have hl7 : decide ((0 : Int) < (l6.length : Int)) = true := decide_eq_true om
 have hl8 : decide (0 < l6.length) = true := decide_eq_true om
 have bku := g5.uk; have bkt := g5.cap2; have bks := g6.uk; have bkr := g6.cap2
 obtain ⟨hc, hfz⟩ := az hb
 replace k1 := (hc _ _ q0).trans k1
 replace k3 := (hc _ _ q1).trans k3
 replace r0 := (hc _ _ q2).trans r0
 replace r1 := (hc _ _ q2).trans r1
 replace f0 := (hfz _ _ q2).trans f0
 replace f1 := (hfz _ _ q2).trans f1
 replace NR := Lib.hid ((hb.block _ q2).trans NR.out)
 replace hw0 := au hw0 hb
 replace q0 := Nat.lt_of_lt_of_le q0 hb.size
 replace q1 := Nat.lt_of_lt_of_le q1 hb.size
 replace q2 := Nat.lt_of_lt_of_le q2 hb.size
 have G5 := hide g5
 clear g5 g6 hb hc hfz k0 k2
 go_wp2_with fail
 have hpl := aek A5 (some ⟨W1.heap.size, 0, none⟩) c5 1 l5 [1] p 1 (W1.alloc (.cells #[.int .u32 1] 136)) ((aa G5).below ((Below.refl _ _).alloc (Nat.le_refl _) _)) (axw W1) (by have := (aa G5).len (k := K + 1) (by have := aa HPK; omega); omega) (by simp)
 refine hpl.mono ?_
 rintro e W2 ⟨A7, c7, l7, rfl, g7, hb⟩
 replace hb := au ((Below.refl W1.heap.size W1).alloc (Nat.le_refl _) _) hb
 obtain ⟨hc, hfz⟩ := az hb
 replace k1 := (hc _ _ q0).trans k1
 replace k3 := (hc _ _ q1).trans k3
 replace r0 := (hc _ _ q2).trans r0
 replace r1 := (hc _ _ q2).trans r1
 replace f0 := (hfz _ _ q2).trans f0
 replace f1 := (hfz _ _ q2).trans f1
 replace NR := Lib.hid ((hb.block _ q2).trans NR.out)
 replace hw0 := au hw0 hb
 replace q2 := Nat.lt_of_lt_of_le q2 hb.size
 have cgb := g7.uk; have cga := g7.cap2
 have G7 := hide g7
 clear g7 hb hc hfz hpl
 go_wp2_with fail
 have hsg := Bf A7 c7 l7 (p + 1) true W2 (aa G7)
 have Gd := hide hsg
 clear hsg
 refine (aa Gd).mono ?_
 rintro e w' ⟨A8, c8, l8, m8, rfl, g8, hb⟩
 obtain ⟨hc, hfz⟩ := az hb
 have hblk := (hb.block _ q2).trans NR.out
 have jd := Lib.hid hblk
 have gp := au hw0 hb
 have e9 : (if (true : Bool) = true then -(((p + 1) : Nat) : Int) else (((p + 1) : Nat) : Int)) = z := by rw [HV.out]; rfl
 rw [e9] at g8
 have G8 := hide g8
 clear hb hblk e9 g8
 go_wp2_with fail
 exact bodyPost_ret (v := .agg #[.slice A8 l8.length c8, .bool m8]) (by simp [results, Tryz.results106, go_sem, hc, r0, r1, q2]) rfl
  ⟨A8, c8, l8, m8, rfl, (aa G8).upto jd.out (Ck _ _ _ _) (fq _ _ _ _), gp.grown (fq _ _ _ _) gp.size (fun k hk => by injection hk with hk; omega)⟩

theorem alk (A1 : Option Addr) (c1 : Nat) (l1 : List Nat) (m1 : Bool) (z1 : Int) (A2 : Option Addr) (c2 : Nat) (l2 : List Nat) (m2 : Bool) (z2 : Int) (K : Nat) (w : World) (h1 : bg w A1 c1 l1 m1 z1) (h2 : bg w A2 c2 l2 m2 z2) (hb : 0 < z2) (hK : Wd.Sz di K z1) (hk : l1.length + 1 ≤ 35184372088832) (hk2 : l2.length + 1 ≤ 35184372088832) (hk3 : K + 3 ≤ 35184372088832) :
  Calls Tryz.prog 106 #[(Value.agg #[.slice A1 l1.length c1, .bool m1]), (Value.agg #[.slice A2 l2.length c2, .bool m2])] w fun e w' => uq w (z1 / z2) e w' := by
 by_cases ha : 0 ≤ z1
 ·
  exact asq A1 c1 l1 m1 z1 A2 c2 l2 m2 z2 K w h1 h2 hb hK hk hk2 hk3 ha
 ·
  by_cases h0 : z1.natAbs % z2.natAbs = 0
  ·
   exact asr A1 c1 l1 m1 z1 A2 c2 l2 m2 z2 K w h1 h2 hb hK hk hk2 hk3 om h0
  ·
   exact ass A1 c1 l1 m1 z1 A2 c2 l2 m2 z2 K w h1 h2 hb hK hk hk2 hk3 om h0

end Go.Proofs.YtpjgoogeokbaaaaGreatDoor
namespace Go.Proofs.YtpjgoogeokbaaaaGreatDoor
open Go.RowKit

set_option maxHeartbeats 16000000 in
theorem als (A1 : Option Addr) (c1 : Nat) (l1 : List Nat) (m1 : Bool) (A2 : Option Addr) (c2 : Nat) (l2 : List Nat) (m2 : Bool) (z1 b1 n : Int) (p q : Rat) (w : World) (f1 : bg w A1 c1 l1 m1 z1)
  (hd1 : ∀ W, Below w.heap.size w W → Calls Tryz.prog 95 #[(Value.agg #[.slice A1 l1.length c1, .bool m1, .slice A2 l2.length c2, .bool m2])] W fun e w' => uq W b1 e w') (hf : ∀ (A7 : Option Addr) (c7 : Nat) (l7 : List Nat) (m7 : Bool) (A8 : Option Addr) (c8 : Nat) (l8 : List Nat) (m8 : Bool) (W : World), Below w.heap.size w W → bg W A7 c7 l7 m7 z1 → bg W A8 c8 l8 m8 b1 → Calls Tryz.prog 106 #[(Value.agg #[.slice A7 l7.length c7, .bool m7]), (Value.agg #[.slice A8 l8.length c8, .bool m8])] W fun e w' => uq W n e w') (ho : ∀ W, Calls Tryz.prog 107 #[] W fun e w' => uq W 1 e w') (Dp : n = q.num) (hden : (1 : Int) = (q.den : Int)) :
  Calls Tryz.prog 56 #[(Value.agg #[.slice A1 l1.length c1, .bool m1, .slice A2 l2.length c2, .bool m2])] w fun e w' => QR w q e w' := by
 have H1 := hide f1
 clear f1
 have HD1 := hide hd1
 have HF := hide hf
 have HO := hide ho
 clear hd1 hf ho
 go_enter Tryz.func56, Tryz.ntmps56
 go_upto_region 1 with fail
 obtain ⟨n0, n1, hsz, hw0⟩ := jm w (.cells #[.slice A1 l1.length c1, .bool m1, .slice A2 l2.length c2, .bool m2] 52) (.cells #[.slice none 0 0, .bool false, .slice none 0 0, .bool false] 52)
 generalize ((w.alloc (.cells #[.slice A1 l1.length c1, .bool m1, .slice A2 l2.length c2, .bool m2] 52)).alloc (.cells #[.slice none 0 0, .bool false, .slice none 0 0, .bool false] 52)) = W0 at *
 have jl : W0.cell? ⟨w.heap.size, 0, none⟩ = some (.slice A1 l1.length c1) := ag n0 0
 have jk : W0.cell? ⟨w.heap.size, 1, none⟩ = some (.bool m1) := ag n0 1
 have jy : W0.cell? ⟨w.heap.size, 2, none⟩ = some (.slice A2 l2.length c2) := ag n0 2
 have ky : W0.cell? ⟨w.heap.size, 3, none⟩ = some (.bool m2) := ag n0 3
 have q0 : w.heap.size < W0.heap.size := by omega
 have jq : W0.cell? ⟨w.heap.size + 1, 0, none⟩ = some (.slice none 0 0) := ag n1 0
 have jo : W0.cell? ⟨w.heap.size + 1, 1, none⟩ = some (.bool false) := ag n1 1
 have lh : W0.cell? ⟨w.heap.size + 1, 2, none⟩ = some (.slice none 0 0) := ag n1 2
 have lv : W0.cell? ⟨w.heap.size + 1, 3, none⟩ = some (.bool false) := ag n1 3
 have q1 : w.heap.size + 1 < W0.heap.size := by omega
 have Lm := ah n1 0
 have Ll := ah n1 1
 have adr := ah n1 2
 have adq := ah n1 3
 have NR := Lib.hid n1
 clear hsz n0 n1
 replace H1 := hide ((aa H1).below hw0)
 go_upto_region 1 with fail
 have KEEP := hide (show ∀ X, Below W0.heap.size W0 X → X.cell? ⟨w.heap.size, 0, none⟩ = some (.slice A1 l1.length c1) ∧ X.cell? ⟨w.heap.size, 1, none⟩ = some (.bool m1) ∧ X.cell? ⟨w.heap.size, 2, none⟩ = some (.slice A2 l2.length c2) ∧ X.cell? ⟨w.heap.size, 3, none⟩ = some (.bool m2) from fun X hB => ⟨ai hB q0 jl, ai hB q0 jk, ai hB q0 jy, ai hB q0 ky⟩)
 go_region_held3 (fun w' => w'.cell? ⟨w.heap.size, 0, none⟩ = some (.slice A1 l1.length c1) ∧ w'.cell? ⟨w.heap.size, 1, none⟩ = some (.bool m1) ∧ w'.cell? ⟨w.heap.size, 2, none⟩ = some (.slice A2 l2.length c2) ∧ w'.cell? ⟨w.heap.size, 3, none⟩ = some (.bool m2)) (first | with_reducible exact ⟨(fu _ _ _ _ _ _ om).trans (ai hbw q0 jl), (fu _ _ _ _ _ _ om).trans (ai hbw q0 jk), (fu _ _ _ _ _ _ om).trans (ai hbw q0 jy), (fu _ _ _ _ _ _ om).trans (ai hbw q0 ky)⟩ | with_reducible exact (aa KEEP) _ bel) (first | (go_at_call_of 95 (Value.agg #[.slice A1 l1.length c1, .bool m1, .slice A2 l2.length c2, .bool m2]); refine ((aa HD1) _ (au hw0 bel)).mono ?_; rintro e w' ⟨A5, c5, l5, m5, rfl, kz, hb5⟩; have hbw := ay (w := W0) bel hb5; have hsw := hbw.size; obtain ⟨hc, hfz⟩ := az hbw) | (go_at_call_of 106 (Value.agg #[.slice A1 l1.length c1, .bool m1]); refine ((aa HF) A1 c1 l1 m1 A5 c5 l5 m5 _ (au hw0 bel) (bg.below (aa H1) bel) (bg.below kz bel)).mono ?_; rintro e w' ⟨A6, c6, l6, m6, rfl, og, hb6⟩; have kz := bg.below (bg.below kz bel) hb6; have hbw := ay (w := W0) bel hb6; have hsw := hbw.size; obtain ⟨hc, hfz⟩ := az hbw) | (go_at_call 107; refine ((aa HO) _).mono ?_; rintro e w' ⟨A7, c7, l7, m7, rfl, Au, yf⟩; have kz := bg.below (bg.below kz bel) yf; have og := bg.below (bg.below og bel) yf; have hbw := ay (w := W0) bel yf; have hsw := hbw.size; obtain ⟨hc, hfz⟩ := az hbw))
 all_goals
  have hblk : w'.heap[w.heap.size + 1]? = some (.cells #[.slice none 0 0, .bool false, .slice none 0 0, .bool false] 52 (0, 0)) := (hbw.block _ q1).trans NR.out
  have jd := Lib.hid hblk
  have gp : Below w.heap.size w w' := au hw0 hbw
  have hfi := (og)
  have hfj := (Au)
  clear hblk
  go_wp2_with fail
  exact bodyPost_ret (v := (Value.agg #[.slice A6 l6.length c6, .bool m6, .slice A7 l7.length c7, .bool m7])) (by simp [results, Tryz.results56, go_sem, hc, jq, jo, lh, lv, q1]) rfl
   ⟨A6, c6, l6, m6, A7, c7, l7, m7, rfl, Dp ▸ hfi.upto jd.out (qy _ _ _ _ _ _ _ _) (ig _ _ _ _ _ _), hden ▸ hfj.upto jd.out (qy _ _ _ _ _ _ _ _) (ig _ _ _ _ _ _), gp.grown (ig _ _ _ _ _ _) gp.size (fun k hk => by injection hk with hk; omega)⟩

set_option maxHeartbeats 16000000 in
theorem att (A1 : Option Addr) (c1 : Nat) (l1 : List Nat) (m1 : Bool) (A2 : Option Addr) (c2 : Nat) (l2 : List Nat) (m2 : Bool) (z1 : Int) (p q : Rat) (w : World) 
  (hi : ∀ W, Calls Tryz.prog 72 #[.int .i64 1] W fun e w' => QR W p e w') (hd : ∀ (A7 : Option Addr) (c7 : Nat) (l7 : List Nat) (m7 : Bool) (A8 : Option Addr) (c8 : Nat) (l8 : List Nat) (m8 : Bool) (W : World), Below w.heap.size w W → bg W A7 c7 l7 m7 p.num → bg W A8 c8 l8 m8 (p.den : Int) → Calls Tryz.prog 47 #[(Value.agg #[.slice A7 l7.length c7, .bool m7, .slice A8 l8.length c8, .bool m8]), (Value.agg #[.slice A1 l1.length c1, .bool m1, .slice A2 l2.length c2, .bool m2])] W fun e w' => QR W q e w') :
  Calls Tryz.prog 80 #[(Value.agg #[.slice A1 l1.length c1, .bool m1, .slice A2 l2.length c2, .bool m2])] w fun e w' => QR w q e w' := by
 have HI := hide hi
 have HD := hide hd
 clear hi hd
 go_enter Tryz.func80, Tryz.ntmps80
 go_upto_region 1 with fail
 obtain ⟨n0, n1, hsz, hw0⟩ := jm w (.cells #[.slice A1 l1.length c1, .bool m1, .slice A2 l2.length c2, .bool m2] 52) (.cells #[.slice none 0 0, .bool false, .slice none 0 0, .bool false] 52)
 generalize ((w.alloc (.cells #[.slice A1 l1.length c1, .bool m1, .slice A2 l2.length c2, .bool m2] 52)).alloc (.cells #[.slice none 0 0, .bool false, .slice none 0 0, .bool false] 52)) = W0 at *
 have jl : W0.cell? ⟨w.heap.size, 0, none⟩ = some (.slice A1 l1.length c1) := ag n0 0
 have jk : W0.cell? ⟨w.heap.size, 1, none⟩ = some (.bool m1) := ag n0 1
 have jy : W0.cell? ⟨w.heap.size, 2, none⟩ = some (.slice A2 l2.length c2) := ag n0 2
 have ky : W0.cell? ⟨w.heap.size, 3, none⟩ = some (.bool m2) := ag n0 3
 have q0 : w.heap.size < W0.heap.size := by omega
 have jq : W0.cell? ⟨w.heap.size + 1, 0, none⟩ = some (.slice none 0 0) := ag n1 0
 have jo : W0.cell? ⟨w.heap.size + 1, 1, none⟩ = some (.bool false) := ag n1 1
 have lh : W0.cell? ⟨w.heap.size + 1, 2, none⟩ = some (.slice none 0 0) := ag n1 2
 have lv : W0.cell? ⟨w.heap.size + 1, 3, none⟩ = some (.bool false) := ag n1 3
 have q1 : w.heap.size + 1 < W0.heap.size := by omega
 have Lm := ah n1 0
 have Ll := ah n1 1
 have adr := ah n1 2
 have adq := ah n1 3
 have NR := Lib.hid n1
 clear hsz n0 n1
 go_upto_region 1 with fail
 have KEEP := hide (show ∀ X, Below W0.heap.size W0 X → X.cell? ⟨w.heap.size, 0, none⟩ = some (.slice A1 l1.length c1) ∧ X.cell? ⟨w.heap.size, 1, none⟩ = some (.bool m1) ∧ X.cell? ⟨w.heap.size, 2, none⟩ = some (.slice A2 l2.length c2) ∧ X.cell? ⟨w.heap.size, 3, none⟩ = some (.bool m2) from fun X hB => ⟨ai hB q0 jl, ai hB q0 jk, ai hB q0 jy, ai hB q0 ky⟩)
 go_region_held3 (fun w' => w'.cell? ⟨w.heap.size, 0, none⟩ = some (.slice A1 l1.length c1) ∧ w'.cell? ⟨w.heap.size, 1, none⟩ = some (.bool m1) ∧ w'.cell? ⟨w.heap.size, 2, none⟩ = some (.slice A2 l2.length c2) ∧ w'.cell? ⟨w.heap.size, 3, none⟩ = some (.bool m2)) (first | with_reducible exact ⟨(fu _ _ _ _ _ _ om).trans (ai hbw q0 jl), (fu _ _ _ _ _ _ om).trans (ai hbw q0 jk), (fu _ _ _ _ _ _ om).trans (ai hbw q0 jy), (fu _ _ _ _ _ _ om).trans (ai hbw q0 ky)⟩ | with_reducible exact (aa KEEP) _ bel) (first | (go_at_call_of 72 (Value.int .i64 1); refine ((aa HI) _).mono ?_; rintro e w' ⟨A5, c5, l5, m5, A6, c6, l6, m6, rfl, kz, og, hb5⟩; have hbw := ay (w := W0) bel hb5; have hsw := hbw.size; obtain ⟨hc, hfz⟩ := az hbw) | (go_at_call_of 47 (Value.agg #[.slice A5 l5.length c5, .bool m5, .slice A6 l6.length c6, .bool m6]); refine ((aa HD) A5 c5 l5 m5 A6 c6 l6 m6 _ (au hw0 bel) (bg.below kz bel) (bg.below og bel)).mono ?_; rintro e w' ⟨A7, c7, l7, m7, A8, c8, l8, m8, rfl, Au, wh, yf⟩; have kz := bg.below (bg.below kz bel) yf; have og := bg.below (bg.below og bel) yf; have hbw := ay (w := W0) bel yf; have hsw := hbw.size; obtain ⟨hc, hfz⟩ := az hbw))
 all_goals
  have hblk : w'.heap[w.heap.size + 1]? = some (.cells #[.slice none 0 0, .bool false, .slice none 0 0, .bool false] 52 (0, 0)) := (hbw.block _ q1).trans NR.out
  have jd := Lib.hid hblk
  have gp : Below w.heap.size w w' := au hw0 hbw
  have hfi := (Au)
  have hfj := (wh)
  clear hblk
  go_wp2_with fail
  exact bodyPost_ret (v := (Value.agg #[.slice A7 l7.length c7, .bool m7, .slice A8 l8.length c8, .bool m8])) (by simp [results, Tryz.results80, go_sem, hc, jq, jo, lh, lv, q1]) rfl
   ⟨A7, c7, l7, m7, A8, c8, l8, m8, rfl, hfi.upto jd.out (qy _ _ _ _ _ _ _ _) (ig _ _ _ _ _ _), hfj.upto jd.out (qy _ _ _ _ _ _ _ _) (ig _ _ _ _ _ _), gp.grown (ig _ _ _ _ _ _) gp.size (fun k hk => by injection hk with hk; omega)⟩

theorem Wd.Rn (n : Int) : n = (Rat.divInt n 1).num ∧ (1 : Int) = ((Rat.divInt n 1).den : Int) := ⟨(Wd.Vv n).1.symm, by rw [(Wd.Vv n).2]; rfl⟩
theorem Vy (K : Nat) (A1 : Option Addr) (c1 : Nat) (l1 : List Nat) (m1 : Bool) (A2 : Option Addr) (c2 : Nat) (l2 : List Nat) (m2 : Bool) (x : Rat) (w : World) (h : QV w A1 c1 l1 m1 A2 c2 l2 m2 x) (sx : Wd.xy di K x) (hK : 4 * K + 4 ≤ 35184372088832) :
  Calls Tryz.prog 56 #[(Value.agg #[.slice A1 l1.length c1, .bool m1, .slice A2 l2.length c2, .bool m2])] w fun e w' => QR w (Rat.divInt (x.num / (x.den : Int)) 1) e w' := by
 have hx := x.den_nz
 exact als A1 c1 l1 m1 A2 c2 l2 m2 x.num (x.den : Int) _ x _ w h.num (fun W hW => Dm A1 c1 l1 m1 A2 c2 l2 m2 x W (h.below hW))
  (fun A7 c7 l7 m7 A8 c8 l8 m8 W _ f g => alk A7 c7 l7 m7 _ A8 c8 l8 m8 _ K W f g om sx.1 (by have := f.len sx.1; omega) (by have := g.len sx.2; omega) om)
  Nu (Wd.Rn _).1 (Wd.Rn _).2
theorem ash (K : Nat) (A1 : Option Addr) (c1 : Nat) (l1 : List Nat) (m1 : Bool) (A2 : Option Addr) (c2 : Nat) (l2 : List Nat) (m2 : Bool) (x : Rat) (w : World) (h : QV w A1 c1 l1 m1 A2 c2 l2 m2 x) (sx : Wd.xy di K x) (h1 : 1 ≤ K) (hK : 4 * K + 4 ≤ 35184372088832) (h0 : x.num ≠ 0) :
  Calls Tryz.prog 80 #[(Value.agg #[.slice A1 l1.length c1, .bool m1, .slice A2 l2.length c2, .bool m2])] w fun e w' => QR w (Rat.divInt 1 1 / x) e w' := by
 have s1 : Wd.xy di K (Rat.divInt 1 1) := by
  have e : 1 < di ^ K := Nat.one_lt_pow om zx
  unfold Wd.xy Wd.Sz
  rw [← (Wd.Rn 1).1, ← (Wd.Rn 1).2]
  exact ⟨e, e⟩
 exact att A1 c1 l1 m1 A2 c2 l2 m2 0 (Rat.divInt 1 1) (Rat.divInt 1 1 / x) w (fun W => Xf 1 _ W om om (Wd.Rn 1).1 (Wd.Rn 1).2)
  (fun A7 c7 l7 m7 A8 c8 l8 m8 W hW f g => aei K A7 c7 l7 m7 A8 c8 l8 m8 A1 c1 l1 m1 A2 c2 l2 m2 _ x W (QV.of f g) (h.below hW) s1 sx hK h0)
end Go.Proofs.YtpjgoogeokbaaaaGreatDoor
namespace Go.Proofs.YtpjgoogeokbaaaaGreatDoor
open Go.RowKit

structure Kw (Wp W : World) (b : Nat) : Prop where
 old : Wp.heap.size ≤ b
 zero : W.heap[b]? = some (.cells #[.slice none 0 0, .bool false, .slice none 0 0, .bool false] 52 (0, 0))
theorem Kw.lt {Wp W : World} {b : Nat} (h : Kw Wp W b) : b < W.heap.size := lt_of_block h.zero
theorem Kw.drew {Wp W : World} {b : Nat} (h : Kw Wp W b) : Kw Wp W.drew b := ⟨h.old, h.zero⟩
theorem Kw.below {Wp W w' : World} {b : Nat} (h : Kw Wp W b) (hb : Below W.heap.size W w') : Kw Wp w' b := ⟨h.old, (hb.block _ h.lt).trans h.zero⟩
theorem Kw.new {Wp W : World} {b : Nat} (hb : Below Wp.heap.size Wp W) (e : b = W.heap.size) : Kw Wp (W.alloc (.cells #[.slice none 0 0, .bool false, .slice none 0 0, .bool false] 52 (0, 0))) b := by
 subst e; exact ⟨hb.size, heap_alloc_new W _⟩
theorem Kw.alloc {Wp W : World} {b : Nat} {o : Obj} (h : Kw Wp W b) : Kw Wp (W.alloc o) b := ⟨h.old, (Below.heap_alloc W _ b h.lt).trans h.zero⟩
structure arc (Wp W : World) (b c : Nat) : Prop where
 one : Kw Wp W b
 two : Kw Wp W c
 ne : b ≠ c
theorem arc.Sq {Wp W : World} {b c : Nat} (h : Kw Wp W b) (e : c = W.heap.size) : arc Wp (W.alloc (.cells #[.slice none 0 0, .bool false, .slice none 0 0, .bool false] 52 (0, 0))) b c := by
 have hl := h.lt
 have ho := h.old
 subst e
 exact ⟨h.alloc, ⟨by omega, heap_alloc_new W _⟩, by omega⟩
theorem arc.Sr {Wp W : World} {b c : Nat} (h : Kw Wp W c) (e : b = W.heap.size) : arc Wp (W.alloc (.cells #[.slice none 0 0, .bool false, .slice none 0 0, .bool false] 52 (0, 0))) b c := by
 have hl := h.lt
 have ho := h.old
 subst e
 exact ⟨⟨by omega, heap_alloc_new W _⟩, h.alloc, by omega⟩
theorem QV.upto {w w' : World} {g : Nat} {Ct : Option Addr} {c1a : Nat} {Cn : List Nat} {m1a : Bool} {Cs : Option Addr} {Cr : Nat} {Cm : List Nat} {m1b : Bool} {x1 : Rat} {T : TypeId} {cs : Array Value} (h : QV w Ct c1a Cn m1a Cs Cr Cm m1b x1) (hg : w.heap[g]? = some (.cells cs T (0, 0))) (hn : adz cs) (hgr : w.grownBy w' (some g)) : QV w' Ct c1a Cn m1a Cs Cr Cm m1b x1 := by
 obtain ⟨d, h2, h3⟩ := h.den
 exact ⟨h.num.upto hg hn hgr, d, h2.upto hg hn hgr, h3⟩
theorem QV.alloc {W : World} {o : Obj} {Ct : Option Addr} {c1a : Nat} {Cn : List Nat} {m1a : Bool} {Cs : Option Addr} {Cr : Nat} {Cm : List Nat} {m1b : Bool} {x1 : Rat} (h1 : QV W Ct c1a Cn m1a Cs Cr Cm m1b x1) : QV (W.alloc o) Ct c1a Cn m1a Cs Cr Cm m1b x1 := h1.below ((Below.refl _ _).alloc (Nat.le_refl _) _)
def vo (w : World) (b : Nat) (x : Rat) : Prop := ∃ A c l m A' c' l' m', w.heap[b]? = some (.cells #[.slice A (List.length l) c, .bool m, .slice A' (List.length l') c', .bool m'] 52 (0, 0)) ∧ QV w A c l m A' c' l' m' x
theorem vo.below {w w' : World} {b : Nat} {x : Rat} (h : vo w b x) (hb : Below w.heap.size w w') : vo w' b x := by
 obtain ⟨A, c, l, m, A', c', l', m', h1, h2⟩ := h
 exact ⟨A, c, l, m, A', c', l', m', (hb.block _ (lt_of_block h1)).trans h1, h2.below hb⟩
theorem vo.new {W : World} {b : Nat} {Ct : Option Addr} {c1a : Nat} {Cn : List Nat} {m1a : Bool} {Cs : Option Addr} {Cr : Nat} {Cm : List Nat} {m1b : Bool} {x1 : Rat} (h1 : QV W Ct c1a Cn m1a Cs Cr Cm m1b x1) (e : b = W.heap.size) : vo (W.alloc (.cells #[.slice Ct Cn.length c1a, .bool m1a, .slice Cs Cm.length Cr, .bool m1b] 52)) b x1 := by
 subst e; exact ⟨_, _, _, _, _, _, _, _, heap_alloc_new W _, h1.alloc⟩
theorem vo.alloc {W : World} {b : Nat} {x : Rat} {o : Obj} (h : vo W b x) : vo (W.alloc o) b x := h.below ((Below.refl _ _).alloc (Nat.le_refl _) _)
theorem Kw.facts {Wp W : World} {b : Nat} (h : Kw Wp W b) : (W.cell? ⟨b, 0, none⟩ = some (.slice none 0 0) ∧ W.cell? ⟨b, 1, none⟩ = some (.bool false) ∧ W.cell? ⟨b, 2, none⟩ = some (.slice none 0 0) ∧ W.cell? ⟨b, 3, none⟩ = some (.bool false)) ∧
  (W.frozen? ⟨b, 0, none⟩ = false ∧ W.frozen? ⟨b, 1, none⟩ = false ∧ W.frozen? ⟨b, 2, none⟩ = false ∧ W.frozen? ⟨b, 3, none⟩ = false) ∧
  ((∀ o, (W.alloc o).cell? ⟨b, 0, none⟩ = some (.slice none 0 0)) ∧ (∀ o, (W.alloc o).cell? ⟨b, 1, none⟩ = some (.bool false)) ∧ (∀ o, (W.alloc o).cell? ⟨b, 2, none⟩ = some (.slice none 0 0)) ∧ (∀ o, (W.alloc o).cell? ⟨b, 3, none⟩ = some (.bool false))) ∧
  ((∀ o, (W.alloc o).frozen? ⟨b, 0, none⟩ = false) ∧ (∀ o, (W.alloc o).frozen? ⟨b, 1, none⟩ = false) ∧ (∀ o, (W.alloc o).frozen? ⟨b, 2, none⟩ = false) ∧ (∀ o, (W.alloc o).frozen? ⟨b, 3, none⟩ = false)) ∧
  ¬ (b = W.heap.size) ∧ ¬ (W.heap.size = b) :=
 ⟨⟨ag h.zero 0, ag h.zero 1, ag h.zero 2, ag h.zero 3⟩, ⟨ah h.zero 0, ah h.zero 1, ah h.zero 2, ah h.zero 3⟩,
  ⟨fun o => ag (h.alloc (o := o)).zero 0, fun o => ag (h.alloc (o := o)).zero 1, fun o => ag (h.alloc (o := o)).zero 2, fun o => ag (h.alloc (o := o)).zero 3⟩,
  ⟨fun o => ah (h.alloc (o := o)).zero 0, fun o => ah (h.alloc (o := o)).zero 1, fun o => ah (h.alloc (o := o)).zero 2, fun o => ah (h.alloc (o := o)).zero 3⟩, by have := h.lt; omega, by have := h.lt; omega⟩
theorem Yy {W : World} {b : Nat} {a0 a1 a2 a3 u0 u1 u2 u3 : Value} {T : TypeId} (h : W.heap[b]? = some (.cells #[a0, a1, a2, a3] T (0, 0))) : ((((W.setCell ⟨b, 0, none⟩ u0).setCell ⟨b, 1, none⟩ u1).setCell ⟨b, 2, none⟩ u2).setCell ⟨b, 3, none⟩ u3).heap[b]? = some (.cells #[u0, u1, u2, u3] T (0, 0)) := by
 simp [World.setCell, Array.getElem?_modify, h]
end Go.Proofs.YtpjgoogeokbaaaaGreatDoor
namespace Go.Proofs.YtpjgoogeokbaaaaGreatDoor
open Go.RowKit

set_option maxHeartbeats 2000000 in
theorem asu (A1 : Option Addr) (c1 : Nat) (l1 : List Nat) (m1 : Bool) (A2 : Option Addr) (c2 : Nat) (l2 : List Nat) (m2 : Bool) (q : Rat) (w : World) (h : QV w A1 c1 l1 m1 A2 c2 l2 m2 q) :
  Calls Tryz.prog 94 #[.agg #[.slice A1 l1.length c1, .bool m1, .slice A2 l2.length c2, .bool m2]] w fun e w' => bvb w q e w' := by
 have pz := hide (fun W (hW : Below w.heap.size w W) => Sd A1 c1 l1 m1 q.num W (h.num.below hW))
 have HS2 := hide (fun A c l m W (f : bg W A c l m (q.den : Int)) => Sd A c l m (q.den : Int) W f)
 have HD := hide (fun W (hW : Below w.heap.size w W) => Dm A1 c1 l1 m1 A2 c2 l2 m2 q W (h.below hW))
 have ht : (Wd.fits q → Wd.told q = ⟨q.num, q.den, 0⟩) ∧ (¬ Wd.fits q → Wd.told q = ⟨0, 0, 3⟩) := ⟨fun h => if_pos h, fun h => if_neg h⟩
 have hfi : Wd.fits q ↔ q.num.natAbs ≤ 1000000000000 ∧ q.den ≤ 1000000000000 := Iff.rfl
 have HT := hide (And.intro ht hfi)
 clear h ht hfi
 go_enter Tryz.func94, Tryz.ntmps94
 go_wp2_with fail
 obtain ⟨n0, n1, hsz, hw0⟩ := jm w (.cells #[.slice A1 l1.length c1, .bool m1, .slice A2 l2.length c2, .bool m2] 52) (.cells #[.int .i64 0, .int .i64 0] 23)
 generalize ((w.alloc (.cells #[.slice A1 l1.length c1, .bool m1, .slice A2 l2.length c2, .bool m2] 52)).alloc (.cells #[.int .i64 0, .int .i64 0] 23)) = W0 at *
 have k0 : W0.cell? ⟨w.heap.size, 0, none⟩ = some (.slice A1 l1.length c1) := ag n0 0
 have k1 : W0.cell? ⟨w.heap.size, 1, none⟩ = some (.bool m1) := ag n0 1
 have k2 : W0.cell? ⟨w.heap.size, 2, none⟩ = some (.slice A2 l2.length c2) := ag n0 2
 have k3 : W0.cell? ⟨w.heap.size, 3, none⟩ = some (.bool m2) := ag n0 3
 have p0 : W0.cell? ⟨w.heap.size + 1, 0, none⟩ = some (.int .i64 0) := ag n1 0
 have p1 : W0.cell? ⟨w.heap.size + 1, 1, none⟩ = some (.int .i64 0) := ag n1 1
 have v0 := ah n1 0; have v1 := ah n1 1
 have q0 := lt_of_block n0; have q1 := lt_of_block n1
 clear n0 n1 hsz
 refine ((aa pz) _ hw0).mono ?_
 rintro e W1 ⟨x1, ok1, rfl, hok1, hx1, hb1⟩
 obtain ⟨hc1, hf1⟩ := az hb1
 have hw1 := au hw0 hb1
 have OK1 := Lib.hid hok1; have X1 := hide hx1; have HB1 := hide hb1; have HW1 := hide hw1
 clear hok1 hx1 hb1 hw1
 go_wp2_with fail
 refine ((aa HD) _ (aa HW1)).mono ?_
 rintro e W2 ⟨A9, c9, l9, m9, rfl, f9, hb2⟩
 have F9 := hide f9
 clear f9
 have hb2' := au (aa HB1) hb2
 obtain ⟨hc2, hf2⟩ := az hb2'
 have hw2 := au hw0 hb2'
 have HB2 := hide hb2'; have HW2 := hide hw2
 clear hb2 hb2' hw2 hc1 hf1
 go_wp2_with fail
 refine ((aa HS2) A9 c9 l9 m9 _ (aa F9)).mono ?_
 rintro e W3 ⟨x2, ok2, rfl, hok2, hx2, hb3⟩
 have Oq := au (aa HB2) hb3
 obtain ⟨hc3, hf3⟩ := az Oq
 have hw3 := au hw0 Oq
 have OK2 := Lib.hid hok2; have X2 := hide hx2; have HW3 := hide hw3
 have hg9 : ∀ u0 u1 : Value, Below w.heap.size w ((W3.setCell ⟨w.heap.size + 1, 0, none⟩ u0).setCell ⟨w.heap.size + 1, 1, none⟩ u1) := fun u0 u1 => hw3.grown (fq _ _ _ _) hw3.size (fun k hk => by injection hk with hk; omega)
 have HG9 := hide hg9
 clear hok2 hx2 hb3 Oq hw3 hc2 hf2 hg9 pz HS2 HD HB1 HB2 HW1 HW2
 cases ok1 <;> cases ok2
 ·
  have hn : ¬ Wd.fits q := fun h => by have := (aa HT).2.1 h; have h2 := of_decide_eq_false OK1.out.symm; omega
  have HN := Lib.hid ((aa HT).1.2 hn)
  clear hn
  go_wp2_with fail
  exact bodyPost_ret (v := .tuple #[.agg #[.int .i64 0, .int .i64 0], .bool false]) (by simp [results, Tryz.results94, go_sem, hc3, p0, p1, q1]) rfl ⟨0, 0, false, rfl, (aa HG9) _ _, .inr ⟨rfl, HN.out⟩⟩
 ·
  have hn : ¬ Wd.fits q := fun h => by have := (aa HT).2.1 h; have h2 := of_decide_eq_false OK1.out.symm; omega
  have HN := Lib.hid ((aa HT).1.2 hn)
  clear hn
  go_wp2_with fail
  exact bodyPost_ret (v := .tuple #[.agg #[.int .i64 0, .int .i64 0], .bool false]) (by simp [results, Tryz.results94, go_sem, hc3, p0, p1, q1]) rfl ⟨0, 0, false, rfl, (aa HG9) _ _, .inr ⟨rfl, HN.out⟩⟩
 ·
  have hn : ¬ Wd.fits q := fun h => by have := (aa HT).2.1 h; have h2 := of_decide_eq_false OK2.out.symm; omega
  have HN := Lib.hid ((aa HT).1.2 hn)
  clear hn
  go_wp2_with fail
  exact bodyPost_ret (v := .tuple #[.agg #[.int .i64 0, .int .i64 0], .bool false]) (by simp [results, Tryz.results94, go_sem, hc3, p0, p1, q1]) rfl ⟨0, 0, false, rfl, (aa HG9) _ _, .inr ⟨rfl, HN.out⟩⟩
 ·
  have e1 := (aa X1) rfl
  have e2 := (aa X2) rfl
  subst e1 e2
  by_cases hfit : Wd.fits q
  ·
   have HN := Lib.hid ((aa HT).1.1 hfit)
   obtain ⟨a1, a2⟩ := (aa HT).2.1 hfit
   have d1 : decide (q.num < -1000000000000) = false := decide_eq_false om
   have d2 : decide (1000000000000 < q.num) = false := decide_eq_false om
   have d3 : decide ((1000000000000 : Int) < (q.den : Int)) = false := decide_eq_false om
   clear hfit
   go_wp2_with fail
   all_goals first | omega | skip
   exact bodyPost_ret (v := .tuple #[.agg #[.int .i64 q.num, .int .i64 q.den], .bool true]) (by simp [results, Tryz.results94, go_sem, hc3, p0, p1, q1]) rfl ⟨q.num, q.den, true, rfl, (aa HG9) _ _, .inl ⟨rfl, HN.out⟩⟩
  ·
   have HN := Lib.hid ((aa HT).1.2 hfit)
   have hor : q.num < -1000000000000 ∨ 1000000000000 < q.num ∨ (1000000000000 : Int) < (q.den : Int) := by
    have h1 := (aa HT).2.2
    by_cases a : q.num < -1000000000000
    ·
     exact .inl a
    by_cases b : 1000000000000 < q.num
    ·
     exact .inr (.inl b)
    by_cases c : (1000000000000 : Int) < (q.den : Int)
    ·
     exact .inr (.inr c)
    exact absurd (h1 ⟨by omega, by omega⟩) hfit
   clear hfit
   go_wp2_with fail
   all_goals first | omega | skip
   all_goals exact bodyPost_ret (v := .tuple #[.agg #[.int .i64 0, .int .i64 0], .bool false]) (by simp [results, Tryz.results94, go_sem, hc3, p0, p1, q1]) rfl ⟨0, 0, false, rfl, (aa HG9) _ _, .inr ⟨rfl, HN.out⟩⟩
end Go.Proofs.YtpjgoogeokbaaaaGreatDoor
namespace Go.Proofs.YtpjgoogeokbaaaaGreatDoor
open Go.RowKit

set_option maxHeartbeats 2000000 in
theorem Gn (A1 : Option Addr) (c1 : Nat) (l1 : List Nat) (m1 : Bool) (A2 : Option Addr) (c2 : Nat) (l2 : List Nat) (m2 : Bool) (q : Rat) (w : World) (h : QV w A1 c1 l1 m1 A2 c2 l2 m2 q) :
  Calls Tryz.prog 42 #[.agg #[.slice A1 l1.length c1, .bool m1, .slice A2 l2.length c2, .bool m2]] w fun e w' => Bz w (Wd.told q) e w' := by
 have HR := hide (fun W (hW : Below w.heap.size w W) => asu A1 c1 l1 m1 A2 c2 l2 m2 q W (h.below hW))
 clear h
 go_enter Tryz.func42, Tryz.ntmps42
 go_wp2_with fail
 obtain ⟨n0, n1, hsz, hw0⟩ := jm w (.cells #[.slice A1 l1.length c1, .bool m1, .slice A2 l2.length c2, .bool m2] 52) (.cells #[.int .i64 0, .int .i64 0] 23)
 generalize ((w.alloc (.cells #[.slice A1 l1.length c1, .bool m1, .slice A2 l2.length c2, .bool m2] 52)).alloc (.cells #[.int .i64 0, .int .i64 0] 23)) = W0 at *
 have p0 : W0.cell? ⟨w.heap.size + 1, 0, none⟩ = some (.int .i64 0) := ag n1 0
 have p1 : W0.cell? ⟨w.heap.size + 1, 1, none⟩ = some (.int .i64 0) := ag n1 1
 have v0 := ah n1 0; have v1 := ah n1 1
 have q1 := lt_of_block n1
 clear n0 n1 hsz
 refine ((aa HR) _ hw0).mono ?_
 rintro e W1 ⟨n, d, ok, rfl, hb, hor⟩
 rcases hor with ⟨rfl, ht⟩ | ⟨rfl, ht⟩
 ·
  have Uz := Lib.hid ht
  clear ht
  have hbA := hb.alloc hb.size (.cells #[.int .i64 n, .int .i64 d] 23)
  obtain ⟨hc, hf⟩ := az hbA
  obtain ⟨hc', hf'⟩ := az hb
  have hwA := au hw0 hbA
  have HWA := hide hwA
  clear hbA hb hwA
  go_wp2_with fail
  exact bodyPost_ret (v := .tuple #[.agg #[.int .i64 n, .int .i64 d], .int .i64 0]) (by simp [results, Tryz.results42, go_sem, hc, hc', p0, p1, q1]) rfl
   ⟨by rw [Uz.out], (aa HWA).grown (fq _ _ _ _) (aa HWA).size (fun k hk => by injection hk with hk; omega)⟩
 ·
  have Uz := Lib.hid ht
  clear ht
  have hbA := hb.alloc hb.size (.cells #[.int .i64 n, .int .i64 d] 23)
  obtain ⟨hc, hf⟩ := az hbA
  obtain ⟨hc', hf'⟩ := az hb
  have hwA := au hw0 hbA
  have HWA := hide hwA
  clear hbA hb hwA
  go_wp2_with fail
  exact bodyPost_ret (v := .tuple #[.agg #[.int .i64 0, .int .i64 0], .int .i64 3]) (by simp [results, Tryz.results42, go_sem, hc, hc', p0, p1, q1]) rfl
   ⟨by rw [Uz.out], (aa HWA).grown (fq _ _ _ _) (aa HWA).size (fun k hk => by injection hk with hk; omega)⟩
end Go.Proofs.YtpjgoogeokbaaaaGreatDoor
namespace Go.Proofs.YtpjgoogeokbaaaaGreatDoor
open Go.RowKit

theorem aqr {w w' : World} {b : Nat} {q : Rat} (h : vo w b q) (hb : Below w.heap.size w w') : vo w' b q := vo.below h hb
theorem bhl {w W : World} {B b : Nat} {q : Rat} {Ph : Option Addr} {Ow : Nat} {Od : List Nat} {m2a : Bool} {Pg : Option Addr} {Ov : Nat} {Oc : List Nat} {m2b : Bool} {x2 : Rat} (hq : vo W b q) (hv : QV W Ph Ow Od m2a Pg Ov Oc m2b x2) (hb : Below B w W) (hB : B ≤ b) (hBW : B ≤ W.heap.size) : vo ((((W.setCell ⟨b, 0, none⟩ (.slice Ph Od.length Ow)).setCell ⟨b, 1, none⟩ (.bool m2a)).setCell ⟨b, 2, none⟩ (.slice Pg Oc.length Ov)).setCell ⟨b, 3, none⟩ (.bool m2b)) b x2 ∧ Below B w ((((W.setCell ⟨b, 0, none⟩ (.slice Ph Od.length Ow)).setCell ⟨b, 1, none⟩ (.bool m2a)).setCell ⟨b, 2, none⟩ (.slice Pg Oc.length Ov)).setCell ⟨b, 3, none⟩ (.bool m2b)) := by
 obtain ⟨A, c, l, m, A', c', l', m', h1, h2⟩ := hq
 have hg := ig W b (.slice Ph Od.length Ow) (.bool m2a) (.slice Pg Oc.length Ov) (.bool m2b)
 exact ⟨⟨_, _, _, _, _, _, _, _, Yy h1, hv.upto h1 (qy _ _ _ _ _ _ _ _) hg⟩, hb.grown hg hBW (fun k hk => by injection hk with hk; omega)⟩
theorem inv_eq (x : Rat) : Rat.divInt 1 1 / x = x⁻¹ := by
 rw [Rat.div_def, show Rat.divInt 1 1 = (1 : Rat) from rfl, Rat.one_mul]
end Go.Proofs.YtpjgoogeokbaaaaGreatDoor
namespace Go.Proofs.YtpjgoogeokbaaaaGreatDoor
open Go.RowKit

def QVR (w : World) (q : Rat) (e : Ending) (w' : World) : Prop := ∃ A1 c1 l1 m1 A2 c2 l2 m2, e = .returned (Value.agg #[.slice A1 (List.length l1) c1, .bool m1, .slice A2 (List.length l2) c2, .bool m2]) ∧ QV w' A1 c1 l1 m1 A2 c2 l2 m2 (q) ∧ Below w.heap.size w w'
theorem axx (n : Int) (W : World) (b1 : -9223372036854775808 ≤ n) (b2 : n ≤ 9223372036854775807) :
  Calls Tryz.prog 72 #[.int .i64 n] W fun e w' => QR W (Rat.divInt (n) 1) e w' :=
 Xf n _ W b1 b2 (Wd.yg n).1.symm (Wd.yg n).2.symm
end Go.Proofs.YtpjgoogeokbaaaaGreatDoor
namespace Go.Proofs.YtpjgoogeokbaaaaGreatDoor
open Go.RowKit

namespace Wd
def qpow (x : Rat) : Nat → Rat
 | 0 => Rat.divInt 1 1
 | n + 1 => qpow x n * x
theorem amf {B K : Nat} {n d : Int} (hd : d ≠ 0) (hn : Sz B K n) (hdd : Sz B K d) : xy B K (Rat.divInt n d) := by
 obtain ⟨h1, h2⟩ := Hw n d hd
 exact ⟨by rw [h1]; exact hn.tdiv _, by rw [h2]; exact hdd.tdiv _⟩
theorem xy.mono' {B K L : Nat} {x : Rat} (hB : 1 < B) (h : xy B K x) (hk : K ≤ L) : xy B L x := ⟨h.1.mono hB hk, h.2.mono hB hk⟩
theorem ame {K : Nat} {x : Rat} (h : xy di K x) : ∀ n : Nat, xy di (K * n + 1) (qpow x n)
 | 0 => by
  have h1 : Sz di 1 1 := by unfold Sz; rw [Nat.pow_one, fo]; decide
  rw [Nat.mul_zero, Nat.zero_add]
  exact amf om h1 h1
 | n + 1 => by
  have ih := ame h n
  rw [qpow, aoy, Nat.mul_succ, Nat.add_right_comm]
  have d1 := (qpow x n).den_nz; have d2 := x.den_nz
  exact amf (Int.mul_ne_zero om om) (ih.1.mul h.1) (ih.2.mul h.2)
end Wd

set_option maxHeartbeats 16000000 in
theorem aht (A1 : Option Addr) (c1 : Nat) (l1 : List Nat) (m1 : Bool) (A2 : Option Addr) (c2 : Nat) (l2 : List Nat) (m2 : Bool) (x : Rat) (n K : Nat) (w : World) (h1 : QV w A1 c1 l1 m1 A2 c2 l2 m2 (x)) (sx : Wd.xy di K x) (hK : 4 * (K * n + 1 + K) + 4 ≤ 35184372088832) (hn : n ≤ 9223372036854775806) :
  Calls Tryz.prog 54 #[(Value.agg #[.slice A1 l1.length c1, .bool m1, .slice A2 l2.length c2, .bool m2]), .int .i64 n] w fun e w' => QVR w (Wd.qpow x n) e w' := by
 have HX := hide h1; have HSZ := hide sx; have HK := hide hK
 have HO := hide (fun W => axx 1 W om om)
 have d0 : decide ((n : Int) < 0) = false := decide_eq_false om
 clear h1 sx hK
 go_enter Tryz.func54, Tryz.ntmps54
 go_upto_region 1 with fail
 obtain ⟨nx, nr, hsz, hw0⟩ := jm w (.cells #[.slice A1 l1.length c1, .bool m1, .slice A2 l2.length c2, .bool m2] 52) (.cells #[.slice none 0 0, .bool false, .slice none 0 0, .bool false] 52)
 generalize ((w.alloc (.cells #[.slice A1 l1.length c1, .bool m1, .slice A2 l2.length c2, .bool m2] 52)).alloc (.cells #[.slice none 0 0, .bool false, .slice none 0 0, .bool false] 52)) = W0 at *
 have hq := lt_of_block nr
 clear hsz
 go_wp2_with fail
 refine ((aa HO) _).mono ?_
 rintro e W1 ⟨A5, c5, l5, m5, A6, c6, l6, m6, rfl, g1, g2, hb⟩
 replace nx := (hb.block _ (lt_of_block nx)).trans nx
 replace nr := (hb.block _ (lt_of_block nr)).trans nr
 replace hq := Nat.lt_of_lt_of_le hq hb.size
 replace hw0 := au hw0 hb
 clear hb
 go_upto_region 4 with fail
 have hbx := vo.new (QV.of g1 g2) rfl
 have hb := je (Below.refl W1.heap.size W1) (.cells #[.slice A5 l5.length c5, .bool m5, .slice A6 l6.length c6, .bool m6] 52)
 clear g1 g2
 obtain ⟨bx, Xx⟩ : ∃ b, b = W1.heap.size := ⟨_, rfl⟩
 rw [← Xx] at hbx ⊢
 have hbB : w.heap.size + 1 < bx := by rw [Xx]; exact hq
 generalize W1.alloc (.cells #[.slice A5 l5.length c5, .bool m5, .slice A6 l6.length c6, .bool m6] 52) = W2 at *
 replace nx := (hb.block _ (lt_of_block nx)).trans nx
 replace nr := (hb.block _ (lt_of_block nr)).trans nr
 replace hq := Nat.lt_of_lt_of_le hq hb.size
 replace hw0 := au hw0 hb
 clear hb Xx
 have HW0 := hide hw0; have NX := hide nx; have NR := hide nr; have HQ := hide hq
 clear hw0 nx nr hq
 go_wp2_with fail
 go_loopw [6] (fun iv wr => ∃ k : Nat, k ≤ n ∧ iv = .int .i64 (k : Int) ∧ vo wr bx (Wd.qpow x k) ∧ Hid (Below (w.heap.size + 2) W2 wr)) (fun iv _ => n - (intOf iv).toNat)
 case atStart => exact ⟨0, Nat.zero_le _, by first | rfl | go_num, by first | exact hbx | exact hbx.below (Below.refl _ _).drew, by first | exact hide (Below.refl _ _) | exact hide (Below.refl _ _).drew⟩
 case round =>
  obtain ⟨k, hk, rfl, hbq, hgr⟩ := hrel
  have hwr : Below w.heap.size w wr := (aa HW0).trans ((aa hgr).mono om)
  have hq0 := aa HQ
  have hgs := (aa hgr).size
  by_cases hlt : k < n
  ·
   have hs1 := Wd.ame (aa HSZ) k
   have hm1 : K * k + 1 ≤ K * n + 1 + K := by have := Nat.mul_le_mul_left K (show k ≤ n by omega); omega
   have zs1 := hs1.mono' zx hm1
   have zs2 := (aa HSZ).mono' zx (show K ≤ K * n + 1 + K by omega)
   obtain ⟨y, hy⟩ : ∃ y, y = Wd.qpow x k := ⟨_, rfl⟩
   have hnext : Wd.qpow x (k + 1) = y * x := by rw [hy]; rfl
   have HNX := Lib.hid hnext
   rw [← hy] at hbq zs1
   have hk4 := aa HK
   have HM : Hid (∀ (A3 : Option Addr) (c3 : Nat) (l3 : List Nat) (m3 : Bool) (A4 : Option Addr) (c4 : Nat) (l4 : List Nat) (m4 : Bool) (A1 : Option Addr) (c1 : Nat) (l1 : List Nat) (m1 : Bool) (A2 : Option Addr) (c2 : Nat) (l2 : List Nat) (m2 : Bool) W, QV W A3 c3 l3 m3 A4 c4 l4 m4 (y) → QV W A1 c1 l1 m1 A2 c2 l2 m2 (x) → Calls Tryz.prog 45 #[(Value.agg #[.slice A3 l3.length c3, .bool m3, .slice A4 l4.length c4, .bool m4]), (Value.agg #[.slice A1 l1.length c1, .bool m1, .slice A2 l2.length c2, .bool m2])] W fun e w' => QR W (y * x) e w') := fun A3 c3 l3 m3 A4 c4 l4 m4 A1 c1 l1 m1 A2 c2 l2 m2 W g3 g1 => aeh (K * n + 1 + K) A3 c3 l3 m3 A4 c4 l4 m4 A1 c1 l1 m1 A2 c2 l2 m2 y x W g3 g1 zs1 zs2 hk4
   obtain ⟨A3, c3, l3, m3, A4, c4, l4, m4, j1, f1⟩ := hbq
   have jx := ((aa hgr).block w.heap.size om).trans (aa NX)
   have Xp : wr.cell? ⟨bx, 0, none⟩ = some (.slice A3 l3.length c3) := ag j1 0
   have Xc := ah j1 0
   have Xo : wr.cell? ⟨bx, 1, none⟩ = some (.bool m3) := ag j1 1
   have Xb := ah j1 1
   have Xn : wr.cell? ⟨bx, 2, none⟩ = some (.slice A4 l4.length c4) := ag j1 2
   have Xa := ah j1 2
   have azj : wr.cell? ⟨bx, 3, none⟩ = some (.bool m4) := ag j1 3
   have axk := ah j1 3
   have qx := lt_of_block j1
   have btq : wr.cell? ⟨w.heap.size, 0, none⟩ = some (.slice A1 l1.length c1) := ag jx 0
   have btp : wr.cell? ⟨w.heap.size, 1, none⟩ = some (.bool m1) := ag jx 1
   have bto : wr.cell? ⟨w.heap.size, 2, none⟩ = some (.slice A2 l2.length c2) := ag jx 2
   have kw_3 : wr.cell? ⟨w.heap.size, 3, none⟩ = some (.bool m2) := ag jx 3
   have HXW := hide ((aa HX).below hwr)
   have d1 : decide ((k : Int) < (n : Int)) = true := decide_eq_true om
   have d2 : decide (k < n) = true := decide_eq_true hlt
   have J1 := hide j1; have F1 := hide f1
   clear hs1 hm1 zs1 zs2 hy hnext hk4 j1 f1 jx
   go_wp2_with fail
   refine ((aa HM) A3 c3 l3 m3 A4 c4 l4 m4 A1 c1 l1 m1 A2 c2 l2 m2 _ (aa F1) (aa HXW)).mono ?_
   rintro e w' ⟨A7, c7, l7, m7, A8, c8, l8, m8, rfl, g7, g8, hb⟩
   have hst := bhl (aqr ⟨_, _, _, _, _, _, _, _, aa J1, aa F1⟩ hb) (QV.of g7 g8) ((aa hgr).trans (hb.mono om)) om (by have := hb.size; omega)
   obtain ⟨hc, hfz⟩ := az hb
   replace Xp := (hc _ _ qx).trans Xp
   replace Xc := (hfz _ _ qx).trans Xc
   replace Xo := (hc _ _ qx).trans Xo
   replace Xb := (hfz _ _ qx).trans Xb
   replace Xn := (hc _ _ qx).trans Xn
   replace Xa := (hfz _ _ qx).trans Xa
   replace azj := (hc _ _ qx).trans azj
   replace axk := (hfz _ _ qx).trans axk
   clear g7 g8 hb hc hfz HM
   go_wp2_with fail
   go_roundw
   case rel => exact ⟨k + 1, by omega, by first | rfl | go_num, HNX.out ▸ hst.1, hide hst.2⟩
   case measure => simp [intOf] <;> omega
  ·
   obtain rfl : k = n := by omega
   obtain ⟨A3, c3, l3, m3, A4, c4, l4, m4, j1, f1⟩ := hbq
   have jr := ((aa hgr).block (w.heap.size + 1) om).trans (aa NR)
   have Xp : wr.cell? ⟨bx, 0, none⟩ = some (.slice A3 l3.length c3) := ag j1 0
   have Xc := ah j1 0
   have Xo : wr.cell? ⟨bx, 1, none⟩ = some (.bool m3) := ag j1 1
   have Xb := ah j1 1
   have Xn : wr.cell? ⟨bx, 2, none⟩ = some (.slice A4 l4.length c4) := ag j1 2
   have Xa := ah j1 2
   have azj : wr.cell? ⟨bx, 3, none⟩ = some (.bool m4) := ag j1 3
   have axk := ah j1 3
   have qx := lt_of_block j1
   have r0 : wr.cell? ⟨w.heap.size + 1, 0, none⟩ = some (.slice none 0 0) := ag jr 0
   have fr0 := ah jr 0
   have r1 : wr.cell? ⟨w.heap.size + 1, 1, none⟩ = some (.bool false) := ag jr 1
   have fr1 := ah jr 1
   have r2 : wr.cell? ⟨w.heap.size + 1, 2, none⟩ = some (.slice none 0 0) := ag jr 2
   have fr2 := ah jr 2
   have r3 : wr.cell? ⟨w.heap.size + 1, 3, none⟩ = some (.bool false) := ag jr 3
   have fr3 := ah jr 3
   have jd := Lib.hid jr
   have qr := lt_of_block jr
   have F1 := hide f1
   have d1 : decide ((k : Int) < (k : Int)) = false := decide_eq_false om
   have d2 : decide (k < k) = false := decide_eq_false om
   clear j1 f1 jr hlt hk
   go_wp2_with fail
   exact bodyPost_ret (v := (Value.agg #[.slice A3 l3.length c3, .bool m3, .slice A4 l4.length c4, .bool m4])) (by simp [results, Tryz.results54, go_sem, r0, r1, r2, r3, qr]) rfl
    ⟨A3, c3, l3, m3, A4, c4, l4, m4, rfl, (aa F1).upto jd.out (qy _ _ _ _ _ _ _ _) (ig _ _ _ _ _ _), hwr.grown (ig _ _ _ _ _ _) hwr.size (fun k hk => by injection hk with hk; omega)⟩

end Go.Proofs.YtpjgoogeokbaaaaGreatDoor
namespace Go.Proofs.YtpjgoogeokbaaaaGreatDoor
open Go.RowKit

noncomputable def aiq (x : Rat) (k : Int) : Rat := if k < 0 then (x⁻¹) ^ (-k).toNat else x ^ k.toNat
noncomputable def aop (n d k : Int) : Wd.Told := if Wd.nu n d ∧ -60 ≤ k ∧ k ≤ 60 then (if n = 0 ∧ k < 0 then ⟨0, 0, 4⟩ else Wd.told (aiq (Wd.qR n d) k)) else ⟨0, 0, 1⟩
theorem ain (x : Rat) (n : Nat) : Wd.qpow x n = x ^ n := by
 induction n with
 | zero => rw [Rat.pow_zero]; rfl
 | succ n ih => rw [Wd.qpow, ih, Rat.pow_succ]
set_option maxHeartbeats 16000000 in
theorem ayo (n d k : Int) (w : World) (hT : rz w) (ok : ¬ Wd.nu n d) :
  Calls Tryz.prog 12 #[.agg #[.int .i64 n, .int .i64 d], .int .i64 k] w fun e w' => Bz w (⟨0, 0, 1⟩) e w' := by
 have HV := hide (fun W (hW : Below w.heap.size w W) => Ah n d W (hT.below hW))
 rw [show Cz n d = 1 from if_neg ok] at HV
 clear ok hT
 go_enter Tryz.func12, Tryz.ntmps12
 go_upto_region 1 with fail
 obtain ⟨np, n0, hsz, hw0⟩ := jm w (.cells #[.int .i64 n, .int .i64 d] 23) (.cells #[.int .i64 0, .int .i64 0] 23)
 generalize ((w.alloc (.cells #[.int .i64 n, .int .i64 d] 23)).alloc (.cells #[.int .i64 0, .int .i64 0] 23)) = W0 at *
 have p0 : W0.cell? ⟨w.heap.size, 0, none⟩ = some (.int .i64 n) := ag np 0
 have p1 : W0.cell? ⟨w.heap.size, 1, none⟩ = some (.int .i64 d) := ag np 1
 have r0 : W0.cell? ⟨w.heap.size + 1, 0, none⟩ = some (.int .i64 0) := ag n0 0
 have r1 : W0.cell? ⟨w.heap.size + 1, 1, none⟩ = some (.int .i64 0) := ag n0 1
 have f0 := ah n0 0; have f1 := ah n0 1
 have qp := lt_of_block np
 have q0 := lt_of_block n0
 clear np n0 hsz
 go_wp2_with fail
 refine ((aa HV) _ (by first | exact hw0 | exact hw0.drew)).mono ?_
 rintro e W1 ⟨rfl, hb⟩
 obtain ⟨hc, hfz⟩ := az hb
 replace p0 := (hc _ _ qp).trans p0
 replace p1 := (hc _ _ qp).trans p1
 replace r0 := (hc _ _ q0).trans r0
 replace r1 := (hc _ _ q0).trans r1
 replace f0 := (hfz _ _ q0).trans f0
 replace f1 := (hfz _ _ q0).trans f1
 replace qp := Nat.lt_of_lt_of_le qp hb.size
 replace q0 := Nat.lt_of_lt_of_le q0 hb.size
 replace hw0 := au hw0 hb
 clear hc hfz
 clear hb
 go_wp2_with fail
 exact bodyPost_ret (v := .tuple #[.agg #[.int .i64 0, .int .i64 0], .int .i64 1]) (by simp [results, Tryz.results12, go_sem, r0, r1, q0]) rfl
  ⟨rfl, hw0.grown (fq _ _ _ _) hw0.size (fun k hk => by injection hk with hk; omega)⟩
set_option maxHeartbeats 16000000 in
theorem bgp (n d k : Int) (w : World) (hT : rz w) (ok : Wd.nu n d) (hk : k < -60) :
  Calls Tryz.prog 12 #[.agg #[.int .i64 n, .int .i64 d], .int .i64 k] w fun e w' => Bz w (⟨0, 0, 1⟩) e w' := by
 have HV := hide (fun W (hW : Below w.heap.size w W) => Ah n d W (hT.below hW))
 rw [show Cz n d = 0 from if_pos ok] at HV
 have dk1 : decide (k < -60) = true := decide_eq_true om
 have dk2 : decide (60 < k) = false := decide_eq_false om
 clear ok hT hk
 go_enter Tryz.func12, Tryz.ntmps12
 go_upto_region 1 with fail
 obtain ⟨np, n0, hsz, hw0⟩ := jm w (.cells #[.int .i64 n, .int .i64 d] 23) (.cells #[.int .i64 0, .int .i64 0] 23)
 generalize ((w.alloc (.cells #[.int .i64 n, .int .i64 d] 23)).alloc (.cells #[.int .i64 0, .int .i64 0] 23)) = W0 at *
 have p0 : W0.cell? ⟨w.heap.size, 0, none⟩ = some (.int .i64 n) := ag np 0
 have p1 : W0.cell? ⟨w.heap.size, 1, none⟩ = some (.int .i64 d) := ag np 1
 have r0 : W0.cell? ⟨w.heap.size + 1, 0, none⟩ = some (.int .i64 0) := ag n0 0
 have r1 : W0.cell? ⟨w.heap.size + 1, 1, none⟩ = some (.int .i64 0) := ag n0 1
 have f0 := ah n0 0; have f1 := ah n0 1
 have qp := lt_of_block np
 have q0 := lt_of_block n0
 clear np n0 hsz
 go_wp2_with fail
 refine ((aa HV) _ (by first | exact hw0 | exact hw0.drew)).mono ?_
 rintro e W1 ⟨rfl, hb⟩
 obtain ⟨hc, hfz⟩ := az hb
 replace p0 := (hc _ _ qp).trans p0
 replace p1 := (hc _ _ qp).trans p1
 replace r0 := (hc _ _ q0).trans r0
 replace r1 := (hc _ _ q0).trans r1
 replace f0 := (hfz _ _ q0).trans f0
 replace f1 := (hfz _ _ q0).trans f1
 replace qp := Nat.lt_of_lt_of_le qp hb.size
 replace q0 := Nat.lt_of_lt_of_le q0 hb.size
 replace hw0 := au hw0 hb
 clear hc hfz
 clear hb
 go_wp2_with fail
 exact bodyPost_ret (v := .tuple #[.agg #[.int .i64 0, .int .i64 0], .int .i64 1]) (by simp [results, Tryz.results12, go_sem, r0, r1, q0]) rfl
  ⟨rfl, hw0.grown (fq _ _ _ _) hw0.size (fun k hk => by injection hk with hk; omega)⟩
set_option maxHeartbeats 16000000 in
theorem bgq (n d k : Int) (w : World) (hT : rz w) (ok : Wd.nu n d) (hk : 60 < k) :
  Calls Tryz.prog 12 #[.agg #[.int .i64 n, .int .i64 d], .int .i64 k] w fun e w' => Bz w (⟨0, 0, 1⟩) e w' := by
 have HV := hide (fun W (hW : Below w.heap.size w W) => Ah n d W (hT.below hW))
 rw [show Cz n d = 0 from if_pos ok] at HV
 have dk1 : decide (k < -60) = false := decide_eq_false om
 have dk2 : decide (60 < k) = true := decide_eq_true om
 clear ok hT hk
 go_enter Tryz.func12, Tryz.ntmps12
 go_upto_region 1 with fail
 obtain ⟨np, n0, hsz, hw0⟩ := jm w (.cells #[.int .i64 n, .int .i64 d] 23) (.cells #[.int .i64 0, .int .i64 0] 23)
 generalize ((w.alloc (.cells #[.int .i64 n, .int .i64 d] 23)).alloc (.cells #[.int .i64 0, .int .i64 0] 23)) = W0 at *
 have p0 : W0.cell? ⟨w.heap.size, 0, none⟩ = some (.int .i64 n) := ag np 0
 have p1 : W0.cell? ⟨w.heap.size, 1, none⟩ = some (.int .i64 d) := ag np 1
 have r0 : W0.cell? ⟨w.heap.size + 1, 0, none⟩ = some (.int .i64 0) := ag n0 0
 have r1 : W0.cell? ⟨w.heap.size + 1, 1, none⟩ = some (.int .i64 0) := ag n0 1
 have f0 := ah n0 0; have f1 := ah n0 1
 have qp := lt_of_block np
 have q0 := lt_of_block n0
 clear np n0 hsz
 go_wp2_with fail
 refine ((aa HV) _ (by first | exact hw0 | exact hw0.drew)).mono ?_
 rintro e W1 ⟨rfl, hb⟩
 obtain ⟨hc, hfz⟩ := az hb
 replace p0 := (hc _ _ qp).trans p0
 replace p1 := (hc _ _ qp).trans p1
 replace r0 := (hc _ _ q0).trans r0
 replace r1 := (hc _ _ q0).trans r1
 replace f0 := (hfz _ _ q0).trans f0
 replace f1 := (hfz _ _ q0).trans f1
 replace qp := Nat.lt_of_lt_of_le qp hb.size
 replace q0 := Nat.lt_of_lt_of_le q0 hb.size
 replace hw0 := au hw0 hb
 clear hc hfz
 clear hb
 go_wp2_with fail
 exact bodyPost_ret (v := .tuple #[.agg #[.int .i64 0, .int .i64 0], .int .i64 1]) (by simp [results, Tryz.results12, go_sem, r0, r1, q0]) rfl
  ⟨rfl, hw0.grown (fq _ _ _ _) hw0.size (fun k hk => by injection hk with hk; omega)⟩
set_option maxHeartbeats 16000000 in
theorem auc (n d k : Int) (w : World) (hT : rz w) (ok : Wd.nu n d) (h1 : -60 ≤ k) (h2 : k < 0) (hn : n = 0) :
  Calls Tryz.prog 12 #[.agg #[.int .i64 n, .int .i64 d], .int .i64 k] w fun e w' => Bz w (⟨0, 0, 4⟩) e w' := by
 have HV := hide (fun W (hW : Below w.heap.size w W) => Ah n d W (hT.below hW))
 rw [show Cz n d = 0 from if_pos ok] at HV
 have dk1 : decide (k < -60) = false := decide_eq_false om
 have dk2 : decide (60 < k) = false := decide_eq_false om
 have dk3 : decide (k < 0) = true := decide_eq_true h2
 subst hn
 clear ok hT h1 h2
 go_enter Tryz.func12, Tryz.ntmps12
 go_upto_region 1 with fail
 obtain ⟨np, n0, hsz, hw0⟩ := jm w (.cells #[.int .i64 0, .int .i64 d] 23) (.cells #[.int .i64 0, .int .i64 0] 23)
 generalize ((w.alloc (.cells #[.int .i64 0, .int .i64 d] 23)).alloc (.cells #[.int .i64 0, .int .i64 0] 23)) = W0 at *
 have p0 : W0.cell? ⟨w.heap.size, 0, none⟩ = some (.int .i64 0) := ag np 0
 have p1 : W0.cell? ⟨w.heap.size, 1, none⟩ = some (.int .i64 d) := ag np 1
 have r0 : W0.cell? ⟨w.heap.size + 1, 0, none⟩ = some (.int .i64 0) := ag n0 0
 have r1 : W0.cell? ⟨w.heap.size + 1, 1, none⟩ = some (.int .i64 0) := ag n0 1
 have f0 := ah n0 0; have f1 := ah n0 1
 have qp := lt_of_block np
 have q0 := lt_of_block n0
 clear np n0 hsz
 go_wp2_with fail
 refine ((aa HV) _ (by first | exact hw0 | exact hw0.drew)).mono ?_
 rintro e W1 ⟨rfl, hb⟩
 obtain ⟨hc, hfz⟩ := az hb
 replace p0 := (hc _ _ qp).trans p0
 replace p1 := (hc _ _ qp).trans p1
 replace r0 := (hc _ _ q0).trans r0
 replace r1 := (hc _ _ q0).trans r1
 replace f0 := (hfz _ _ q0).trans f0
 replace f1 := (hfz _ _ q0).trans f1
 replace qp := Nat.lt_of_lt_of_le qp hb.size
 replace q0 := Nat.lt_of_lt_of_le q0 hb.size
 replace hw0 := au hw0 hb
 clear hc hfz
 clear hb
 go_wp2_with fail
 exact bodyPost_ret (v := .tuple #[.agg #[.int .i64 0, .int .i64 0], .int .i64 4]) (by simp [results, Tryz.results12, go_sem, r0, r1, q0]) rfl
  ⟨rfl, hw0.grown (fq _ _ _ _) hw0.size (fun k hk => by injection hk with hk; omega)⟩
set_option maxHeartbeats 16000000 in
theorem bgo (n d : Int) (w : World) (hT : rz w) (m : Nat) (hm : m ≤ 60) (ok : Wd.nu n d)  :
  Calls Tryz.prog 12 #[.agg #[.int .i64 n, .int .i64 d], .int .i64 ((m : Int))] w fun e w' => Bz w (Wd.told ((Wd.qR n d) ^ m)) e w' := by
 have HV := hide (fun W (hW : Below w.heap.size w W) => Ah n d W (hT.below hW))
 rw [show Cz n d = 0 from if_pos ok] at HV
 have dk1 : decide ((m : Int) < -60) = false := decide_eq_false om
 have dk2 : decide (60 < (m : Int)) = false := decide_eq_false om
 have dk4 : decide (60 < m) = false := decide_eq_false om
 have dk3 : decide ((m : Int) < 0) = false := decide_eq_false om
 have Dp : (Wd.qR n d).num = n := (Wd.Cf ok).1
 have He : Hid (∀ W, Calls Tryz.prog 50 #[.agg #[.int .i64 n, .int .i64 d]] W fun e w' => Gr W (Wd.qR n d).num ((Wd.qR n d).den : Int) e w') := fun W => by
  have h := Ex n d W (Jy ok).1 (Jy ok).2.1 (Jy ok).2.2.1 (Jy ok).2.2.2.1
  rw [(Wd.Cf ok).1, (Wd.Cf ok).2]
  exact h
 have hsz := Fb ok
 obtain ⟨x, hx⟩ : ∃ z, z = Wd.qR n d := ⟨_, rfl⟩
 rw [← hx] at Dp hsz He ⊢
 have Jj := hide (fun Eu zw Ct c1a Cn Et zu Cs Cr Cm W (h : IQ W Eu zw Ct c1a Cn Et zu Cs Cr Cm x) => aml Eu zw Ct c1a Cn Et zu Cs Cr Cm x m 1 W h hsz (by unfold lim; omega) (by unfold lim; omega) om)
 obtain ⟨y, hy⟩ : ∃ y, y = x ^ m := ⟨_, rfl⟩
 rw [← hy] at Jj ⊢
 clear ok hT hm Dp hsz hx hy 
 cases dn : (n == 0)
 all_goals
  go_enter Tryz.func12, Tryz.ntmps12
  go_upto_region 1 with fail
  obtain ⟨np, n0, hsz, hw0⟩ := jm w (.cells #[.int .i64 n, .int .i64 d] 23) (.cells #[.int .i64 0, .int .i64 0] 23)
  generalize ((w.alloc (.cells #[.int .i64 n, .int .i64 d] 23)).alloc (.cells #[.int .i64 0, .int .i64 0] 23)) = W0 at *
  have p0 : W0.cell? ⟨w.heap.size, 0, none⟩ = some (.int .i64 n) := ag np 0
  have p1 : W0.cell? ⟨w.heap.size, 1, none⟩ = some (.int .i64 d) := ag np 1
  have r0 : W0.cell? ⟨w.heap.size + 1, 0, none⟩ = some (.int .i64 0) := ag n0 0
  have r1 : W0.cell? ⟨w.heap.size + 1, 1, none⟩ = some (.int .i64 0) := ag n0 1
  have f0 := ah n0 0; have f1 := ah n0 1
  have qp := lt_of_block np
  have q0 := lt_of_block n0
  clear np n0 hsz
  go_wp2_with fail
  refine ((aa HV) _ (by first | exact hw0 | exact hw0.drew)).mono ?_
  rintro e W1 ⟨rfl, hb⟩
  obtain ⟨hc, hfz⟩ := az hb
  replace p0 := (hc _ _ qp).trans p0
  replace p1 := (hc _ _ qp).trans p1
  replace r0 := (hc _ _ q0).trans r0
  replace r1 := (hc _ _ q0).trans r1
  replace f0 := (hfz _ _ q0).trans f0
  replace f1 := (hfz _ _ q0).trans f1
  replace qp := Nat.lt_of_lt_of_le qp hb.size
  replace q0 := Nat.lt_of_lt_of_le q0 hb.size
  replace hw0 := au hw0 hb
  clear hc hfz
  clear hb
  go_wp2_with fail
  refine ((aa He) _).mono ?_
  rintro e W2 ⟨Eu, zw, Ct, c1a, Cn, Et, zu, Cs, Cr, Cm, rfl, g1, g2, hb⟩
  obtain ⟨hc, hfz⟩ := az hb
  replace p0 := (hc _ _ qp).trans p0
  replace p1 := (hc _ _ qp).trans p1
  replace r0 := (hc _ _ q0).trans r0
  replace r1 := (hc _ _ q0).trans r1
  replace f0 := (hfz _ _ q0).trans f0
  replace f1 := (hfz _ _ q0).trans f1
  replace qp := Nat.lt_of_lt_of_le qp hb.size
  replace q0 := Nat.lt_of_lt_of_le q0 hb.size
  replace hw0 := au hw0 hb
  clear hc hfz
  have I1 := hide (IQ.mk g1 g2)
  clear hb g1 g2 He
  go_wp2_with fail
  refine ((aa Jj) Eu zw Ct c1a Cn Et zu Cs Cr Cm _ (by first | exact aa I1 | exact (aa I1).below (Below.refl _ _).drew)).mono ?_
  rintro e W3 ⟨Wi, Lv, Ph, Ow, Od, Wh, Lu, Pg, Ov, Oc, rfl, g1, g2, hb⟩
  have Dy := hide (Xh Wi Lv Ph Ow Od _ Wh Lu Pg Ov Oc _ W3 g1 g2 y rfl rfl)
  obtain ⟨hc, hfz⟩ := az hb
  replace p0 := (hc _ _ qp).trans p0
  replace p1 := (hc _ _ qp).trans p1
  replace r0 := (hc _ _ q0).trans r0
  replace r1 := (hc _ _ q0).trans r1
  replace f0 := (hfz _ _ q0).trans f0
  replace f1 := (hfz _ _ q0).trans f1
  replace qp := Nat.lt_of_lt_of_le qp hb.size
  replace q0 := Nat.lt_of_lt_of_le q0 hb.size
  replace hw0 := au hw0 hb
  clear hc hfz
  clear hb g1 g2 Jj I1
  go_wp2_with fail
  refine (aa Dy).mono ?_
  rintro e W5 ⟨rfl, hb⟩
  obtain ⟨hc, hfz⟩ := az hb
  replace p0 := (hc _ _ qp).trans p0
  replace p1 := (hc _ _ qp).trans p1
  replace r0 := (hc _ _ q0).trans r0
  replace r1 := (hc _ _ q0).trans r1
  replace f0 := (hfz _ _ q0).trans f0
  replace f1 := (hfz _ _ q0).trans f1
  replace qp := Nat.lt_of_lt_of_le qp hb.size
  replace q0 := Nat.lt_of_lt_of_le q0 hb.size
  replace hw0 := au hw0 hb
  clear hc hfz
  clear hb
  go_wp2_with fail
  exact bodyPost_ret (v := .tuple #[.agg #[.int .i64 (Wd.told y).n, .int .i64 (Wd.told y).d], .int .i64 (Wd.told y).e]) (by simp [results, Tryz.results12, go_sem, r0, r1, q0]) rfl
   ⟨rfl, hw0.grown (fq _ _ _ _) hw0.size (fun k hk => by injection hk with hk; omega)⟩
set_option maxHeartbeats 16000000 in
theorem ayn (n d : Int) (w : World) (hT : rz w) (m : Nat) (hm : m ≤ 60) (ok : Wd.nu n d) (hp : 0 < m) (hn : n ≠ 0) :
  Calls Tryz.prog 12 #[.agg #[.int .i64 n, .int .i64 d], .int .i64 (-(m : Int))] w fun e w' => Bz w (Wd.told ((Wd.qR n d)⁻¹ ^ m)) e w' := by
 have HV := hide (fun W (hW : Below w.heap.size w W) => Ah n d W (hT.below hW))
 rw [show Cz n d = 0 from if_pos ok] at HV
 have dk1 : decide (-(m : Int) < -60) = false := decide_eq_false om
 have dk2 : decide (60 < -(m : Int)) = false := decide_eq_false om
 have dn : (n == 0) = false := beq_eq_false_iff_ne.2 hn
 have dk4 : decide (60 < m) = false := decide_eq_false om
 have dk7 : decide ((60 : Int) < (m : Int)) = false := decide_eq_false om
 have dk8 : decide ((m : Int) < -60) = false := decide_eq_false om
 have dk3 : decide (-(m : Int) < 0) = true := decide_eq_true om
 have dk5 : decide ((0 : Int) < (m : Int)) = true := decide_eq_true om
 have dk6 : decide (0 < m) = true := decide_eq_true hp
 have Dp : (Wd.qR n d).num = n := (Wd.Cf ok).1
 have He : Hid (∀ W, Calls Tryz.prog 50 #[.agg #[.int .i64 n, .int .i64 d]] W fun e w' => Gr W (Wd.qR n d).num ((Wd.qR n d).den : Int) e w') := fun W => by
  have h := Ex n d W (Jy ok).1 (Jy ok).2.1 (Jy ok).2.2.1 (Jy ok).2.2.2.1
  rw [(Wd.Cf ok).1, (Wd.Cf ok).2]
  exact h
 have hsz := Fb ok
 obtain ⟨x, hx⟩ : ∃ z, z = Wd.qR n d := ⟨_, rfl⟩
 rw [← hx] at Dp hsz He ⊢
 have Jj := hide (fun Eu zw Ct c1a Cn Et zu Cs Cr Cm W (h : IQ W Eu zw Ct c1a Cn Et zu Cs Cr Cm x) => ayi Eu zw Ct c1a Cn Et zu Cs Cr Cm x m 1 W h hsz (by rw [Dp]; exact hn) hp (by unfold lim; omega) (by unfold lim; omega) om)
 obtain ⟨y, hy⟩ : ∃ y, y = x⁻¹ ^ m := ⟨_, rfl⟩
 rw [← hy] at Jj ⊢
 clear ok hT hm Dp hsz hx hy hp hn
 go_enter Tryz.func12, Tryz.ntmps12
 go_upto_region 1 with fail
 obtain ⟨np, n0, hsz, hw0⟩ := jm w (.cells #[.int .i64 n, .int .i64 d] 23) (.cells #[.int .i64 0, .int .i64 0] 23)
 generalize ((w.alloc (.cells #[.int .i64 n, .int .i64 d] 23)).alloc (.cells #[.int .i64 0, .int .i64 0] 23)) = W0 at *
 have p0 : W0.cell? ⟨w.heap.size, 0, none⟩ = some (.int .i64 n) := ag np 0
 have p1 : W0.cell? ⟨w.heap.size, 1, none⟩ = some (.int .i64 d) := ag np 1
 have r0 : W0.cell? ⟨w.heap.size + 1, 0, none⟩ = some (.int .i64 0) := ag n0 0
 have r1 : W0.cell? ⟨w.heap.size + 1, 1, none⟩ = some (.int .i64 0) := ag n0 1
 have f0 := ah n0 0; have f1 := ah n0 1
 have qp := lt_of_block np
 have q0 := lt_of_block n0
 clear np n0 hsz
 go_wp2_with fail
 refine ((aa HV) _ (by first | exact hw0 | exact hw0.drew)).mono ?_
 rintro e W1 ⟨rfl, hb⟩
 obtain ⟨hc, hfz⟩ := az hb
 replace p0 := (hc _ _ qp).trans p0
 replace p1 := (hc _ _ qp).trans p1
 replace r0 := (hc _ _ q0).trans r0
 replace r1 := (hc _ _ q0).trans r1
 replace f0 := (hfz _ _ q0).trans f0
 replace f1 := (hfz _ _ q0).trans f1
 replace qp := Nat.lt_of_lt_of_le qp hb.size
 replace q0 := Nat.lt_of_lt_of_le q0 hb.size
 replace hw0 := au hw0 hb
 clear hc hfz
 clear hb
 go_wp2_with fail
 refine ((aa He) _).mono ?_
 rintro e W2 ⟨Eu, zw, Ct, c1a, Cn, Et, zu, Cs, Cr, Cm, rfl, g1, g2, hb⟩
 obtain ⟨hc, hfz⟩ := az hb
 replace p0 := (hc _ _ qp).trans p0
 replace p1 := (hc _ _ qp).trans p1
 replace r0 := (hc _ _ q0).trans r0
 replace r1 := (hc _ _ q0).trans r1
 replace f0 := (hfz _ _ q0).trans f0
 replace f1 := (hfz _ _ q0).trans f1
 replace qp := Nat.lt_of_lt_of_le qp hb.size
 replace q0 := Nat.lt_of_lt_of_le q0 hb.size
 replace hw0 := au hw0 hb
 clear hc hfz
 have I1 := hide (IQ.mk g1 g2)
 clear hb g1 g2 He
 go_wp2_with fail
 refine ((aa Jj) Eu zw Ct c1a Cn Et zu Cs Cr Cm _ (by first | exact aa I1 | exact (aa I1).below (Below.refl _ _).drew)).mono ?_
 rintro e W3 ⟨Wi, Lv, Ph, Ow, Od, Wh, Lu, Pg, Ov, Oc, rfl, g1, g2, hb⟩
 have Dy := hide (Xh Wi Lv Ph Ow Od _ Wh Lu Pg Ov Oc _ W3 g1 g2 y rfl rfl)
 obtain ⟨hc, hfz⟩ := az hb
 replace p0 := (hc _ _ qp).trans p0
 replace p1 := (hc _ _ qp).trans p1
 replace r0 := (hc _ _ q0).trans r0
 replace r1 := (hc _ _ q0).trans r1
 replace f0 := (hfz _ _ q0).trans f0
 replace f1 := (hfz _ _ q0).trans f1
 replace qp := Nat.lt_of_lt_of_le qp hb.size
 replace q0 := Nat.lt_of_lt_of_le q0 hb.size
 replace hw0 := au hw0 hb
 clear hc hfz
 clear hb g1 g2 Jj I1
 go_wp2_with fail
 refine (aa Dy).mono ?_
 rintro e W5 ⟨rfl, hb⟩
 obtain ⟨hc, hfz⟩ := az hb
 replace p0 := (hc _ _ qp).trans p0
 replace p1 := (hc _ _ qp).trans p1
 replace r0 := (hc _ _ q0).trans r0
 replace r1 := (hc _ _ q0).trans r1
 replace f0 := (hfz _ _ q0).trans f0
 replace f1 := (hfz _ _ q0).trans f1
 replace qp := Nat.lt_of_lt_of_le qp hb.size
 replace q0 := Nat.lt_of_lt_of_le q0 hb.size
 replace hw0 := au hw0 hb
 clear hc hfz
 clear hb
 go_wp2_with fail
 exact bodyPost_ret (v := .tuple #[.agg #[.int .i64 (Wd.told y).n, .int .i64 (Wd.told y).d], .int .i64 (Wd.told y).e]) (by simp [results, Tryz.results12, go_sem, r0, r1, q0]) rfl
  ⟨rfl, hw0.grown (fq _ _ _ _) hw0.size (fun k hk => by injection hk with hk; omega)⟩
theorem ayp (n d k : Int) (w : World) (hT : rz w) :
  Calls Tryz.prog 12 #[.agg #[.int .i64 n, .int .i64 d], .int .i64 k] w fun e w' => Bz w (aop n d k) e w' := by
 unfold aop
 by_cases ok : Wd.nu n d
 ·
  by_cases h1 : k < -60
  ·
   rw [if_neg om]; exact bgp n d k w hT ok h1
  by_cases h2 : 60 < k
  ·
   rw [if_neg om]; exact bgq n d k w hT ok h2
  rw [if_pos ⟨ok, by omega, by omega⟩]
  by_cases h3 : k < 0
  ·
   by_cases h4 : n = 0
   ·
    rw [if_pos ⟨h4, h3⟩]; exact auc n d k w hT ok om h3 h4
   ·
    rw [if_neg (fun h => h4 h.1)]
    unfold aiq
    rw [if_pos h3]
    obtain ⟨m, hm⟩ := Int.eq_ofNat_of_zero_le (show 0 ≤ -k by omega)
    obtain rfl : k = -(m : Int) := by omega
    rw [Int.neg_neg, Int.toNat_natCast]
    exact ayn n d w hT m om ok om h4
  ·
   rw [if_neg (fun h => h3 h.2)]
   unfold aiq
   rw [if_neg h3]
   obtain ⟨m, rfl⟩ := Int.eq_ofNat_of_zero_le (show 0 ≤ k by omega)
   rw [Int.toNat_natCast]
   exact bgo n d w hT m om ok
 ·
  rw [if_neg (fun h => ok h.1)]; exact ayo n d k w hT ok

end Go.Proofs.YtpjgoogeokbaaaaGreatDoor
namespace Go.Proofs.YtpjgoogeokbaaaaGreatDoor
open Go.RowKit

theorem ayb {B K : Nat} {q : Rat} (h : Wd.xy B K q) (h0 : q.num ≠ 0) : Wd.xy B K (q⁻¹) := by
 have hp := Wd.Uk q h0
 by_cases hn : q.num < 0
 ·
  exact ⟨by rw [(hp.1 hn).1]; exact h.2.neg, by rw [(hp.1 hn).2]; exact h.1.neg⟩
 ·
  exact ⟨by rw [(hp.2 hn).1]; exact h.2, by rw [(hp.2 hn).2]; exact h.1⟩
set_option maxHeartbeats 16000000 in
theorem axq (A1 : Option Addr) (c1 : Nat) (l1 : List Nat) (m1 : Bool) (A2 : Option Addr) (c2 : Nat) (l2 : List Nat) (m2 : Bool) (x : Rat) (n K : Nat) (w : World) (h1 : QV w A1 c1 l1 m1 A2 c2 l2 m2 (x)) (sx : Wd.xy di K x) (h0 : x.num ≠ 0) (hp : 0 < n) (hK1 : 1 ≤ K) (hK : 4 * (K * n + 1 + K) + 4 ≤ 35184372088832) (hn : n ≤ 9223372036854775806) :
  Calls Tryz.prog 54 #[(Value.agg #[.slice A1 l1.length c1, .bool m1, .slice A2 l2.length c2, .bool m2]), .int .i64 (-(n : Int))] w fun e w' => QVR w (Wd.qpow (x⁻¹) n) e w' := by
 have HIV : Hid (∀ W, QV W A1 c1 l1 m1 A2 c2 l2 m2 (x) → Calls Tryz.prog 80 #[(Value.agg #[.slice A1 l1.length c1, .bool m1, .slice A2 l2.length c2, .bool m2])] W fun e w' => QR W (x⁻¹) e w') := fun W f => by
  have := ash K A1 c1 l1 m1 A2 c2 l2 m2 _ W f sx hK1 om h0
  rwa [inv_eq] at this
 have Jj : Hid (∀ (A3 : Option Addr) (c3 : Nat) (l3 : List Nat) (m3 : Bool) (A4 : Option Addr) (c4 : Nat) (l4 : List Nat) (m4 : Bool) W, QV W A3 c3 l3 m3 A4 c4 l4 m4 (x⁻¹) → Calls Tryz.prog 54 #[(Value.agg #[.slice A3 l3.length c3, .bool m3, .slice A4 l4.length c4, .bool m4]), .int .i64 (n : Int)] W fun e w' => QVR W (Wd.qpow (x⁻¹) n) e w') := fun A3 c3 l3 m3 A4 c4 l4 m4 W f => aht A3 c3 l3 m3 A4 c4 l4 m4 _ n K W f (ayb sx h0) hK hn
 have HH := hide h1
 have d0 : decide (-(n : Int) < 0) = true := decide_eq_true om
 have d1 : decide ((0 : Int) < (n : Int)) = true := decide_eq_true om
 have d2 : decide (0 < n) = true := decide_eq_true hp
 have e1 : IntKind.i64.wrap (n : Int) = (n : Int) := IntWalk.i64_in _ om
 have e2 : wrap64 (n : Int) = (n : Int) := IntWalk.wrap64_in _ om
 clear h1 sx h0 hp hK hK1 hn
 go_enter Tryz.func54, Tryz.ntmps54
 go_upto_region 1 with fail
 obtain ⟨n0, nr, hsz, hw0⟩ := jm w (.cells #[.slice A1 l1.length c1, .bool m1, .slice A2 l2.length c2, .bool m2] 52) (.cells #[.slice none 0 0, .bool false, .slice none 0 0, .bool false] 52)
 generalize ((w.alloc (.cells #[.slice A1 l1.length c1, .bool m1, .slice A2 l2.length c2, .bool m2] 52)).alloc (.cells #[.slice none 0 0, .bool false, .slice none 0 0, .bool false] 52)) = V at *
 have k0 : V.cell? ⟨w.heap.size, 0, none⟩ = some (.slice A1 l1.length c1) := ag n0 0
 have k1 : V.cell? ⟨w.heap.size, 1, none⟩ = some (.bool m1) := ag n0 1
 have k2 : V.cell? ⟨w.heap.size, 2, none⟩ = some (.slice A2 l2.length c2) := ag n0 2
 have k3 : V.cell? ⟨w.heap.size, 3, none⟩ = some (.bool m2) := ag n0 3
 have q0 := lt_of_block n0
 have qr := lt_of_block nr
 have F1 := hide ((aa HH).below hw0)
 clear n0 hsz HH
 go_wp2_with fail
 refine ((aa HIV) _ (by first | exact aa F1 | exact (aa F1).below (Below.refl _ _).drew)).mono ?_
 rintro e W2 ⟨A5, c5, l5, m5, A6, c6, l6, m6, rfl, g1, g2, hb⟩
 have hw2 := au hw0 hb
 have j2 := (hb.block _ (by simpa using qr)).trans nr
 have qr2 := lt_of_block j2
 have I2 := hide (QV.of g1 g2); have HW2 := hide hw2; have J2 := hide j2
 clear g1 g2 hb hw0 nr qr q0 hw2 j2 F1 HIV k0 k1 k2 k3
 go_wp2_with fail
 refine ((aa Jj) A5 c5 l5 m5 A6 c6 l6 m6 _ (by first | exact aa I2 | exact (aa I2).below (Below.refl _ _).drew)).mono ?_
 rintro e W3 ⟨A7, c7, l7, m7, A8, c8, l8, m8, rfl, g7, hb⟩
 have hw3 := au (aa HW2) hb
 have j3 := (hb.block _ (by simpa using qr2)).trans (aa J2)
 have r0 : W3.cell? ⟨w.heap.size + 1, 0, none⟩ = some (.slice none 0 0) := ag j3 0
 have fr0 := ah j3 0
 have r1 : W3.cell? ⟨w.heap.size + 1, 1, none⟩ = some (.bool false) := ag j3 1
 have fr1 := ah j3 1
 have r2 : W3.cell? ⟨w.heap.size + 1, 2, none⟩ = some (.slice none 0 0) := ag j3 2
 have fr2 := ah j3 2
 have r3 : W3.cell? ⟨w.heap.size + 1, 3, none⟩ = some (.bool false) := ag j3 3
 have fr3 := ah j3 3
 have qr := lt_of_block j3
 have I3 := hide g7; have jd := Lib.hid j3; have HW9 := hide hw3
 clear g7 hb hw3 j3 Jj I2 HW2 J2
 go_wp2_with fail
 exact bodyPost_ret (v := (Value.agg #[.slice A7 l7.length c7, .bool m7, .slice A8 l8.length c8, .bool m8])) (by simp [results, Tryz.results54, go_sem, r0, r1, r2, r3, qr]) rfl
  ⟨A7, c7, l7, m7, A8, c8, l8, m8, rfl, (aa I3).upto jd.out (qy _ _ _ _ _ _ _ _) (ig _ _ _ _ _ _), (aa HW9).grown (ig _ _ _ _ _ _) (aa HW9).size (fun k hk => by injection hk with hk; omega)⟩

end Go.Proofs.YtpjgoogeokbaaaaGreatDoor
namespace Go.Proofs.YtpjgoogeokbaaaaGreatDoor
open Go.RowKit

set_option maxHeartbeats 16000000 in
theorem bfm (n d k : Int) (w : World) (hT : rz w) (ok : ¬ Wd.nu n d) :
  Calls Tryz.prog 13 #[.agg #[.int .i64 n, .int .i64 d], .int .i64 k] w fun e w' => Bz w (⟨0, 0, 1⟩) e w' := by
 have HV := hide (fun W (hW : Below w.heap.size w W) => Cc n d W)
 rw [decide_eq_false ok] at HV
 clear ok hT
 go_enter Tryz.func13, Tryz.ntmps13
 go_upto_region 1 with fail
 obtain ⟨np, n0, hsz, hw0⟩ := jm w (.cells #[.int .i64 n, .int .i64 d] 23) (.cells #[.int .i64 0, .int .i64 0] 23)
 generalize ((w.alloc (.cells #[.int .i64 n, .int .i64 d] 23)).alloc (.cells #[.int .i64 0, .int .i64 0] 23)) = W0 at *
 have p0 : W0.cell? ⟨w.heap.size, 0, none⟩ = some (.int .i64 n) := ag np 0
 have p1 : W0.cell? ⟨w.heap.size, 1, none⟩ = some (.int .i64 d) := ag np 1
 have r0 : W0.cell? ⟨w.heap.size + 1, 0, none⟩ = some (.int .i64 0) := ag n0 0
 have r1 : W0.cell? ⟨w.heap.size + 1, 1, none⟩ = some (.int .i64 0) := ag n0 1
 have f0 := ah n0 0; have f1 := ah n0 1
 have qp := lt_of_block np
 have q0 := lt_of_block n0
 clear np n0 hsz
 go_wp2_with fail
 refine ((aa HV) _ (by first | exact hw0 | exact hw0.drew)).mono ?_
 rintro e W1 ⟨rfl, hb⟩
 obtain ⟨hc, hfz⟩ := az hb
 replace p0 := (hc _ _ qp).trans p0
 replace p1 := (hc _ _ qp).trans p1
 replace r0 := (hc _ _ q0).trans r0
 replace r1 := (hc _ _ q0).trans r1
 replace f0 := (hfz _ _ q0).trans f0
 replace f1 := (hfz _ _ q0).trans f1
 replace qp := Nat.lt_of_lt_of_le qp hb.size
 replace q0 := Nat.lt_of_lt_of_le q0 hb.size
 replace hw0 := au hw0 hb
 clear hc hfz
 clear hb
 go_wp2_with fail
 exact bodyPost_ret (v := .tuple #[.agg #[.int .i64 0, .int .i64 0], .int .i64 1]) (by simp [results, Tryz.results13, go_sem, r0, r1, q0]) rfl
  ⟨rfl, hw0.grown (fq _ _ _ _) hw0.size (fun k hk => by injection hk with hk; omega)⟩
set_option maxHeartbeats 16000000 in
theorem bhs (n d k : Int) (w : World) (hT : rz w) (ok : Wd.nu n d) (hk : k < -60) :
  Calls Tryz.prog 13 #[.agg #[.int .i64 n, .int .i64 d], .int .i64 k] w fun e w' => Bz w (⟨0, 0, 1⟩) e w' := by
 have HV := hide (fun W (hW : Below w.heap.size w W) => Cc n d W)
 rw [decide_eq_true ok] at HV
 have dk1 : decide (k < -60) = true := decide_eq_true om
 have dk2 : decide (60 < k) = false := decide_eq_false om
 clear ok hT hk
 go_enter Tryz.func13, Tryz.ntmps13
 go_upto_region 1 with fail
 obtain ⟨np, n0, hsz, hw0⟩ := jm w (.cells #[.int .i64 n, .int .i64 d] 23) (.cells #[.int .i64 0, .int .i64 0] 23)
 generalize ((w.alloc (.cells #[.int .i64 n, .int .i64 d] 23)).alloc (.cells #[.int .i64 0, .int .i64 0] 23)) = W0 at *
 have p0 : W0.cell? ⟨w.heap.size, 0, none⟩ = some (.int .i64 n) := ag np 0
 have p1 : W0.cell? ⟨w.heap.size, 1, none⟩ = some (.int .i64 d) := ag np 1
 have r0 : W0.cell? ⟨w.heap.size + 1, 0, none⟩ = some (.int .i64 0) := ag n0 0
 have r1 : W0.cell? ⟨w.heap.size + 1, 1, none⟩ = some (.int .i64 0) := ag n0 1
 have f0 := ah n0 0; have f1 := ah n0 1
 have qp := lt_of_block np
 have q0 := lt_of_block n0
 clear np n0 hsz
 go_wp2_with fail
 refine ((aa HV) _ (by first | exact hw0 | exact hw0.drew)).mono ?_
 rintro e W1 ⟨rfl, hb⟩
 obtain ⟨hc, hfz⟩ := az hb
 replace p0 := (hc _ _ qp).trans p0
 replace p1 := (hc _ _ qp).trans p1
 replace r0 := (hc _ _ q0).trans r0
 replace r1 := (hc _ _ q0).trans r1
 replace f0 := (hfz _ _ q0).trans f0
 replace f1 := (hfz _ _ q0).trans f1
 replace qp := Nat.lt_of_lt_of_le qp hb.size
 replace q0 := Nat.lt_of_lt_of_le q0 hb.size
 replace hw0 := au hw0 hb
 clear hc hfz
 clear hb
 go_wp2_with fail
 exact bodyPost_ret (v := .tuple #[.agg #[.int .i64 0, .int .i64 0], .int .i64 1]) (by simp [results, Tryz.results13, go_sem, r0, r1, q0]) rfl
  ⟨rfl, hw0.grown (fq _ _ _ _) hw0.size (fun k hk => by injection hk with hk; omega)⟩
set_option maxHeartbeats 16000000 in
theorem bht (n d k : Int) (w : World) (hT : rz w) (ok : Wd.nu n d) (hk : 60 < k) :
  Calls Tryz.prog 13 #[.agg #[.int .i64 n, .int .i64 d], .int .i64 k] w fun e w' => Bz w (⟨0, 0, 1⟩) e w' := by
 have HV := hide (fun W (hW : Below w.heap.size w W) => Cc n d W)
 rw [decide_eq_true ok] at HV
 have dk1 : decide (k < -60) = false := decide_eq_false om
 have dk2 : decide (60 < k) = true := decide_eq_true om
 clear ok hT hk
 go_enter Tryz.func13, Tryz.ntmps13
 go_upto_region 1 with fail
 obtain ⟨np, n0, hsz, hw0⟩ := jm w (.cells #[.int .i64 n, .int .i64 d] 23) (.cells #[.int .i64 0, .int .i64 0] 23)
 generalize ((w.alloc (.cells #[.int .i64 n, .int .i64 d] 23)).alloc (.cells #[.int .i64 0, .int .i64 0] 23)) = W0 at *
 have p0 : W0.cell? ⟨w.heap.size, 0, none⟩ = some (.int .i64 n) := ag np 0
 have p1 : W0.cell? ⟨w.heap.size, 1, none⟩ = some (.int .i64 d) := ag np 1
 have r0 : W0.cell? ⟨w.heap.size + 1, 0, none⟩ = some (.int .i64 0) := ag n0 0
 have r1 : W0.cell? ⟨w.heap.size + 1, 1, none⟩ = some (.int .i64 0) := ag n0 1
 have f0 := ah n0 0; have f1 := ah n0 1
 have qp := lt_of_block np
 have q0 := lt_of_block n0
 clear np n0 hsz
 go_wp2_with fail
 refine ((aa HV) _ (by first | exact hw0 | exact hw0.drew)).mono ?_
 rintro e W1 ⟨rfl, hb⟩
 obtain ⟨hc, hfz⟩ := az hb
 replace p0 := (hc _ _ qp).trans p0
 replace p1 := (hc _ _ qp).trans p1
 replace r0 := (hc _ _ q0).trans r0
 replace r1 := (hc _ _ q0).trans r1
 replace f0 := (hfz _ _ q0).trans f0
 replace f1 := (hfz _ _ q0).trans f1
 replace qp := Nat.lt_of_lt_of_le qp hb.size
 replace q0 := Nat.lt_of_lt_of_le q0 hb.size
 replace hw0 := au hw0 hb
 clear hc hfz
 clear hb
 go_wp2_with fail
 exact bodyPost_ret (v := .tuple #[.agg #[.int .i64 0, .int .i64 0], .int .i64 1]) (by simp [results, Tryz.results13, go_sem, r0, r1, q0]) rfl
  ⟨rfl, hw0.grown (fq _ _ _ _) hw0.size (fun k hk => by injection hk with hk; omega)⟩
set_option maxHeartbeats 16000000 in
theorem axp (n d k : Int) (w : World) (hT : rz w) (ok : Wd.nu n d) (h1 : -60 ≤ k) (h2 : k < 0) (hn : n = 0) :
  Calls Tryz.prog 13 #[.agg #[.int .i64 n, .int .i64 d], .int .i64 k] w fun e w' => Bz w (⟨0, 0, 4⟩) e w' := by
 have HV := hide (fun W (hW : Below w.heap.size w W) => Cc n d W)
 rw [decide_eq_true ok] at HV
 have dk1 : decide (k < -60) = false := decide_eq_false om
 have dk2 : decide (60 < k) = false := decide_eq_false om
 have dk3 : decide (k < 0) = true := decide_eq_true h2
 subst hn
 clear ok hT h1 h2
 go_enter Tryz.func13, Tryz.ntmps13
 go_upto_region 1 with fail
 obtain ⟨np, n0, hsz, hw0⟩ := jm w (.cells #[.int .i64 0, .int .i64 d] 23) (.cells #[.int .i64 0, .int .i64 0] 23)
 generalize ((w.alloc (.cells #[.int .i64 0, .int .i64 d] 23)).alloc (.cells #[.int .i64 0, .int .i64 0] 23)) = W0 at *
 have p0 : W0.cell? ⟨w.heap.size, 0, none⟩ = some (.int .i64 0) := ag np 0
 have p1 : W0.cell? ⟨w.heap.size, 1, none⟩ = some (.int .i64 d) := ag np 1
 have r0 : W0.cell? ⟨w.heap.size + 1, 0, none⟩ = some (.int .i64 0) := ag n0 0
 have r1 : W0.cell? ⟨w.heap.size + 1, 1, none⟩ = some (.int .i64 0) := ag n0 1
 have f0 := ah n0 0; have f1 := ah n0 1
 have qp := lt_of_block np
 have q0 := lt_of_block n0
 clear np n0 hsz
 go_wp2_with fail
 refine ((aa HV) _ (by first | exact hw0 | exact hw0.drew)).mono ?_
 rintro e W1 ⟨rfl, hb⟩
 obtain ⟨hc, hfz⟩ := az hb
 replace p0 := (hc _ _ qp).trans p0
 replace p1 := (hc _ _ qp).trans p1
 replace r0 := (hc _ _ q0).trans r0
 replace r1 := (hc _ _ q0).trans r1
 replace f0 := (hfz _ _ q0).trans f0
 replace f1 := (hfz _ _ q0).trans f1
 replace qp := Nat.lt_of_lt_of_le qp hb.size
 replace q0 := Nat.lt_of_lt_of_le q0 hb.size
 replace hw0 := au hw0 hb
 clear hc hfz
 clear hb
 go_wp2_with fail
 exact bodyPost_ret (v := .tuple #[.agg #[.int .i64 0, .int .i64 0], .int .i64 4]) (by simp [results, Tryz.results13, go_sem, r0, r1, q0]) rfl
  ⟨rfl, hw0.grown (fq _ _ _ _) hw0.size (fun k hk => by injection hk with hk; omega)⟩
set_option maxHeartbeats 16000000 in
theorem bhr (n d : Int) (w : World) (hT : rz w) (m : Nat) (hm : m ≤ 60) (ok : Wd.nu n d)  :
  Calls Tryz.prog 13 #[.agg #[.int .i64 n, .int .i64 d], .int .i64 ((m : Int))] w fun e w' => Bz w (Wd.told ((Wd.qR n d) ^ m)) e w' := by
 have HV := hide (fun W (hW : Below w.heap.size w W) => Cc n d W)
 rw [decide_eq_true ok] at HV
 have dk1 : decide ((m : Int) < -60) = false := decide_eq_false om
 have dk2 : decide (60 < (m : Int)) = false := decide_eq_false om
 have dk4 : decide (60 < m) = false := decide_eq_false om
 have dk3 : decide ((m : Int) < 0) = false := decide_eq_false om
 have Dp : (Wd.qR n d).num = n := (Wd.Cf ok).1
 have He := hide (fun W => Zg ok W)
 have hsz := adh ok
 obtain ⟨x, hx⟩ : ∃ z, z = Wd.qR n d := ⟨_, rfl⟩
 rw [← hx] at Dp hsz He ⊢
 have Jj := hide (fun A1 c1 l1 m1 A2 c2 l2 m2 W (h : QV W A1 c1 l1 m1 A2 c2 l2 m2 x) => aht A1 c1 l1 m1 A2 c2 l2 m2 x m 2 W h hsz om om)
 rw [← ain]
 obtain ⟨y, hy⟩ : ∃ y, y = Wd.qpow (x) m := ⟨_, rfl⟩
 rw [← hy] at Jj ⊢
 clear ok hT hm Dp hsz hx hy 
 cases dn : (n == 0)
 all_goals
  go_enter Tryz.func13, Tryz.ntmps13
  go_upto_region 1 with fail
  obtain ⟨np, n0, hsz, hw0⟩ := jm w (.cells #[.int .i64 n, .int .i64 d] 23) (.cells #[.int .i64 0, .int .i64 0] 23)
  generalize ((w.alloc (.cells #[.int .i64 n, .int .i64 d] 23)).alloc (.cells #[.int .i64 0, .int .i64 0] 23)) = W0 at *
  have p0 : W0.cell? ⟨w.heap.size, 0, none⟩ = some (.int .i64 n) := ag np 0
  have p1 : W0.cell? ⟨w.heap.size, 1, none⟩ = some (.int .i64 d) := ag np 1
  have r0 : W0.cell? ⟨w.heap.size + 1, 0, none⟩ = some (.int .i64 0) := ag n0 0
  have r1 : W0.cell? ⟨w.heap.size + 1, 1, none⟩ = some (.int .i64 0) := ag n0 1
  have f0 := ah n0 0; have f1 := ah n0 1
  have qp := lt_of_block np
  have q0 := lt_of_block n0
  clear np n0 hsz
  go_wp2_with fail
  refine ((aa HV) _ (by first | exact hw0 | exact hw0.drew)).mono ?_
  rintro e W1 ⟨rfl, hb⟩
  obtain ⟨hc, hfz⟩ := az hb
  replace p0 := (hc _ _ qp).trans p0
  replace p1 := (hc _ _ qp).trans p1
  replace r0 := (hc _ _ q0).trans r0
  replace r1 := (hc _ _ q0).trans r1
  replace f0 := (hfz _ _ q0).trans f0
  replace f1 := (hfz _ _ q0).trans f1
  replace qp := Nat.lt_of_lt_of_le qp hb.size
  replace q0 := Nat.lt_of_lt_of_le q0 hb.size
  replace hw0 := au hw0 hb
  clear hc hfz
  clear hb
  go_wp2_with fail
  refine ((aa He) _).mono ?_
  rintro e W2 ⟨A1, c1, l1, m1, A2, c2, l2, m2, rfl, g1, g2, hb⟩
  obtain ⟨hc, hfz⟩ := az hb
  replace p0 := (hc _ _ qp).trans p0
  replace p1 := (hc _ _ qp).trans p1
  replace r0 := (hc _ _ q0).trans r0
  replace r1 := (hc _ _ q0).trans r1
  replace f0 := (hfz _ _ q0).trans f0
  replace f1 := (hfz _ _ q0).trans f1
  replace qp := Nat.lt_of_lt_of_le qp hb.size
  replace q0 := Nat.lt_of_lt_of_le q0 hb.size
  replace hw0 := au hw0 hb
  clear hc hfz
  have I1 := hide (QV.of g1 g2)
  clear hb g1 g2 He
  go_wp2_with fail
  refine ((aa Jj) A1 c1 l1 m1 A2 c2 l2 m2 _ (by first | exact aa I1 | exact (aa I1).below (Below.refl _ _).drew)).mono ?_
  rintro e W3 ⟨A3, c3, l3, m3, A4, c4, l4, m4, rfl, g3, hb⟩
  have Dy := hide (Gn A3 c3 l3 m3 A4 c4 l4 m4 y W3 g3)
  obtain ⟨hc, hfz⟩ := az hb
  replace p0 := (hc _ _ qp).trans p0
  replace p1 := (hc _ _ qp).trans p1
  replace r0 := (hc _ _ q0).trans r0
  replace r1 := (hc _ _ q0).trans r1
  replace f0 := (hfz _ _ q0).trans f0
  replace f1 := (hfz _ _ q0).trans f1
  replace qp := Nat.lt_of_lt_of_le qp hb.size
  replace q0 := Nat.lt_of_lt_of_le q0 hb.size
  replace hw0 := au hw0 hb
  clear hc hfz
  clear hb g3 Jj I1
  go_wp2_with fail
  refine (aa Dy).mono ?_
  rintro e W5 ⟨rfl, hb⟩
  obtain ⟨hc, hfz⟩ := az hb
  replace p0 := (hc _ _ qp).trans p0
  replace p1 := (hc _ _ qp).trans p1
  replace r0 := (hc _ _ q0).trans r0
  replace r1 := (hc _ _ q0).trans r1
  replace f0 := (hfz _ _ q0).trans f0
  replace f1 := (hfz _ _ q0).trans f1
  replace qp := Nat.lt_of_lt_of_le qp hb.size
  replace q0 := Nat.lt_of_lt_of_le q0 hb.size
  replace hw0 := au hw0 hb
  clear hc hfz
  clear hb
  go_wp2_with fail
  exact bodyPost_ret (v := .tuple #[.agg #[.int .i64 (Wd.told y).n, .int .i64 (Wd.told y).d], .int .i64 (Wd.told y).e]) (by simp [results, Tryz.results13, go_sem, r0, r1, q0]) rfl
   ⟨rfl, hw0.grown (fq _ _ _ _) hw0.size (fun k hk => by injection hk with hk; omega)⟩
set_option maxHeartbeats 16000000 in
theorem bfl (n d : Int) (w : World) (hT : rz w) (m : Nat) (hm : m ≤ 60) (ok : Wd.nu n d) (hp : 0 < m) (hn : n ≠ 0) :
  Calls Tryz.prog 13 #[.agg #[.int .i64 n, .int .i64 d], .int .i64 (-(m : Int))] w fun e w' => Bz w (Wd.told ((Wd.qR n d)⁻¹ ^ m)) e w' := by
 have HV := hide (fun W (hW : Below w.heap.size w W) => Cc n d W)
 rw [decide_eq_true ok] at HV
 have dk1 : decide (-(m : Int) < -60) = false := decide_eq_false om
 have dk2 : decide (60 < -(m : Int)) = false := decide_eq_false om
 have dn : (n == 0) = false := beq_eq_false_iff_ne.2 hn
 have dk4 : decide (60 < m) = false := decide_eq_false om
 have dk7 : decide ((60 : Int) < (m : Int)) = false := decide_eq_false om
 have dk8 : decide ((m : Int) < -60) = false := decide_eq_false om
 have dk3 : decide (-(m : Int) < 0) = true := decide_eq_true om
 have dk5 : decide ((0 : Int) < (m : Int)) = true := decide_eq_true om
 have dk6 : decide (0 < m) = true := decide_eq_true hp
 have Dp : (Wd.qR n d).num = n := (Wd.Cf ok).1
 have He := hide (fun W => Zg ok W)
 have hsz := adh ok
 obtain ⟨x, hx⟩ : ∃ z, z = Wd.qR n d := ⟨_, rfl⟩
 rw [← hx] at Dp hsz He ⊢
 have Jj := hide (fun A1 c1 l1 m1 A2 c2 l2 m2 W (h : QV W A1 c1 l1 m1 A2 c2 l2 m2 x) => axq A1 c1 l1 m1 A2 c2 l2 m2 x m 2 W h hsz (by rw [Dp]; exact hn) hp om om om)
 rw [← ain]
 obtain ⟨y, hy⟩ : ∃ y, y = Wd.qpow (x⁻¹) m := ⟨_, rfl⟩
 rw [← hy] at Jj ⊢
 clear ok hT hm Dp hsz hx hy hp hn
 go_enter Tryz.func13, Tryz.ntmps13
 go_upto_region 1 with fail
 obtain ⟨np, n0, hsz, hw0⟩ := jm w (.cells #[.int .i64 n, .int .i64 d] 23) (.cells #[.int .i64 0, .int .i64 0] 23)
 generalize ((w.alloc (.cells #[.int .i64 n, .int .i64 d] 23)).alloc (.cells #[.int .i64 0, .int .i64 0] 23)) = W0 at *
 have p0 : W0.cell? ⟨w.heap.size, 0, none⟩ = some (.int .i64 n) := ag np 0
 have p1 : W0.cell? ⟨w.heap.size, 1, none⟩ = some (.int .i64 d) := ag np 1
 have r0 : W0.cell? ⟨w.heap.size + 1, 0, none⟩ = some (.int .i64 0) := ag n0 0
 have r1 : W0.cell? ⟨w.heap.size + 1, 1, none⟩ = some (.int .i64 0) := ag n0 1
 have f0 := ah n0 0; have f1 := ah n0 1
 have qp := lt_of_block np
 have q0 := lt_of_block n0
 clear np n0 hsz
 go_wp2_with fail
 refine ((aa HV) _ (by first | exact hw0 | exact hw0.drew)).mono ?_
 rintro e W1 ⟨rfl, hb⟩
 obtain ⟨hc, hfz⟩ := az hb
 replace p0 := (hc _ _ qp).trans p0
 replace p1 := (hc _ _ qp).trans p1
 replace r0 := (hc _ _ q0).trans r0
 replace r1 := (hc _ _ q0).trans r1
 replace f0 := (hfz _ _ q0).trans f0
 replace f1 := (hfz _ _ q0).trans f1
 replace qp := Nat.lt_of_lt_of_le qp hb.size
 replace q0 := Nat.lt_of_lt_of_le q0 hb.size
 replace hw0 := au hw0 hb
 clear hc hfz
 clear hb
 go_wp2_with fail
 refine ((aa He) _).mono ?_
 rintro e W2 ⟨A1, c1, l1, m1, A2, c2, l2, m2, rfl, g1, g2, hb⟩
 obtain ⟨hc, hfz⟩ := az hb
 replace p0 := (hc _ _ qp).trans p0
 replace p1 := (hc _ _ qp).trans p1
 replace r0 := (hc _ _ q0).trans r0
 replace r1 := (hc _ _ q0).trans r1
 replace f0 := (hfz _ _ q0).trans f0
 replace f1 := (hfz _ _ q0).trans f1
 replace qp := Nat.lt_of_lt_of_le qp hb.size
 replace q0 := Nat.lt_of_lt_of_le q0 hb.size
 replace hw0 := au hw0 hb
 clear hc hfz
 have I1 := hide (QV.of g1 g2)
 clear hb g1 g2 He
 go_wp2_with fail
 refine ((aa Jj) A1 c1 l1 m1 A2 c2 l2 m2 _ (by first | exact aa I1 | exact (aa I1).below (Below.refl _ _).drew)).mono ?_
 rintro e W3 ⟨A3, c3, l3, m3, A4, c4, l4, m4, rfl, g3, hb⟩
 have Dy := hide (Gn A3 c3 l3 m3 A4 c4 l4 m4 y W3 g3)
 obtain ⟨hc, hfz⟩ := az hb
 replace p0 := (hc _ _ qp).trans p0
 replace p1 := (hc _ _ qp).trans p1
 replace r0 := (hc _ _ q0).trans r0
 replace r1 := (hc _ _ q0).trans r1
 replace f0 := (hfz _ _ q0).trans f0
 replace f1 := (hfz _ _ q0).trans f1
 replace qp := Nat.lt_of_lt_of_le qp hb.size
 replace q0 := Nat.lt_of_lt_of_le q0 hb.size
 replace hw0 := au hw0 hb
 clear hc hfz
 clear hb g3 Jj I1
 go_wp2_with fail
 refine (aa Dy).mono ?_
 rintro e W5 ⟨rfl, hb⟩
 obtain ⟨hc, hfz⟩ := az hb
 replace p0 := (hc _ _ qp).trans p0
 replace p1 := (hc _ _ qp).trans p1
 replace r0 := (hc _ _ q0).trans r0
 replace r1 := (hc _ _ q0).trans r1
 replace f0 := (hfz _ _ q0).trans f0
 replace f1 := (hfz _ _ q0).trans f1
 replace qp := Nat.lt_of_lt_of_le qp hb.size
 replace q0 := Nat.lt_of_lt_of_le q0 hb.size
 replace hw0 := au hw0 hb
 clear hc hfz
 clear hb
 go_wp2_with fail
 exact bodyPost_ret (v := .tuple #[.agg #[.int .i64 (Wd.told y).n, .int .i64 (Wd.told y).d], .int .i64 (Wd.told y).e]) (by simp [results, Tryz.results13, go_sem, r0, r1, q0]) rfl
  ⟨rfl, hw0.grown (fq _ _ _ _) hw0.size (fun k hk => by injection hk with hk; omega)⟩
theorem bfn (n d k : Int) (w : World) (hT : rz w) :
  Calls Tryz.prog 13 #[.agg #[.int .i64 n, .int .i64 d], .int .i64 k] w fun e w' => Bz w (aop n d k) e w' := by
 unfold aop
 by_cases ok : Wd.nu n d
 ·
  by_cases h1 : k < -60
  ·
   rw [if_neg om]; exact bhs n d k w hT ok h1
  by_cases h2 : 60 < k
  ·
   rw [if_neg om]; exact bht n d k w hT ok h2
  rw [if_pos ⟨ok, by omega, by omega⟩]
  by_cases h3 : k < 0
  ·
   by_cases h4 : n = 0
   ·
    rw [if_pos ⟨h4, h3⟩]; exact axp n d k w hT ok om h3 h4
   ·
    rw [if_neg (fun h => h4 h.1)]
    unfold aiq
    rw [if_pos h3]
    obtain ⟨m, hm⟩ := Int.eq_ofNat_of_zero_le (show 0 ≤ -k by omega)
    obtain rfl : k = -(m : Int) := by omega
    rw [Int.neg_neg, Int.toNat_natCast]
    exact bfl n d w hT m om ok om h4
  ·
   rw [if_neg (fun h => h3 h.2)]
   unfold aiq
   rw [if_neg h3]
   obtain ⟨m, rfl⟩ := Int.eq_ofNat_of_zero_le (show 0 ≤ k by omega)
   rw [Int.toNat_natCast]
   exact bhr n d w hT m om ok
 ·
  rw [if_neg (fun h => ok h.1)]; exact bfm n d k w hT ok

end Go.Proofs.YtpjgoogeokbaaaaGreatDoor
