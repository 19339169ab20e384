/- Texts beneath a law of layer 1. -/
import Derived.Test.YtjdnmdlnaoedoaaGreatDoorCs13
set_option maxRecDepth 100000
namespace Go.Proofs.YtjdnmdlnaoedoaaGreatDoor
open Go.RowKit

theorem aqo {a b : Int} (hb : 0 < b) (ha : 0 ≤ a) : a / b = ((a.natAbs / b.natAbs : Nat) : Int) := by
 obtain ⟨n, rfl⟩ := Int.eq_ofNat_of_zero_le ha
 obtain ⟨m, rfl⟩ := Int.eq_ofNat_of_zero_le (Int.le_of_lt hb)
 simp
theorem aek {a b : Int} (hb : 0 < b) (ha : a < 0) : (a.natAbs % b.natAbs = 0 → a / b = -((a.natAbs / b.natAbs : Nat) : Int)) ∧ (a.natAbs % b.natAbs ≠ 0 → a / b = -((a.natAbs / b.natAbs + 1 : Nat) : Int)) := by
 obtain ⟨m, rfl⟩ := Int.eq_ofNat_of_zero_le (Int.le_of_lt hb)
 obtain ⟨n, hn⟩ : ∃ n : Nat, a = -(n : Int) := ⟨a.natAbs, by omega⟩
 subst hn
 have e1 : (-(n : Int)).natAbs = n := by omega
 have e2 : ((m : Nat) : Int).natAbs = m := by omega
 rw [e1, e2]
 have hm : 0 < m := by omega
 have Cm := Nat.mod_add_div n m
 have hlt := Nat.mod_lt n hm
 constructor
 ·
  intro h0
  refine ((Int.ediv_emod_unique (r := 0) hb).2 ⟨?_, by omega, hb⟩).1
  rw [h0, Nat.zero_add] at Cm
  rw [Int.mul_neg, ← Int.natCast_mul, Cm]; omega
 ·
  intro h0
  refine ((Int.ediv_emod_unique (r := (m : Int) - ((n % m : Nat) : Int)) hb).2 ⟨?_, by omega, by omega⟩).1
  rw [Int.mul_neg, ← Int.natCast_mul, Nat.mul_add, Nat.mul_one]
  generalize m * (n / m) = t at *
  omega
theorem asn (w : World) : si (w.alloc (.cells #[.int .u32 1] 156)) (some ⟨w.heap.size, 0, none⟩) 1 [1] 1 := by
 have hz : ZB .u32 (w.alloc (.cells #[.int .u32 1] 156)) w.heap.size 156 [1] := heap_alloc_new w _
 exact ⟨hz.Fh _ hz.lt, by simp, by omega, by intro x hx; rw [List.mem_singleton] at hx; subst hx; exact Bc, .inr (by simp), by simp [Wd.val]⟩

set_option maxHeartbeats 4000000 in
theorem anv (A1 : Option Addr) (c1 : Nat) (l1 : List Nat) (m1 : Bool) (z1 : Int) (A2 : Option Addr) (c2 : Nat) (l2 : List Nat) (m2 : Bool) (z2 : Int) (K : Nat) (w : World) (h1 : je w A1 c1 l1 m1 z1) (h2 : je w A2 c2 l2 m2 z2) (hb : 0 < z2) (hK : Wd.Sz dm K z1) (hk : l1.length + 1 ≤ 35184372088832) (hk2 : l2.length + 1 ≤ 35184372088832) (hk3 : K + 3 ≤ 35184372088832) (ha : 0 ≤ z1) :
  Calls Tryz.prog 128 #[(Value.agg #[.slice A1 l1.length c1, .bool m1]), (Value.agg #[.slice A2 l2.length c2, .bool m2])] w fun e w' => Bl w (z1 / z2) e w' := by
 obtain rfl : m1 = false := by rw [h1.sign]; exact decide_eq_false om
 obtain rfl : m2 = false := by rw [h2.sign]; exact decide_eq_false om
 have hv := aqo hb ha
 have HP := hide (fun W (hW : Below w.heap.size w W) => Fw A1 A2 c1 c2 l1 l2 z1.natAbs z2.natAbs W (h1.nat.below hW) (h2.nat.below hW) om om om)
 obtain ⟨p, hp⟩ : ∃ p, p = z1.natAbs / z2.natAbs := ⟨_, rfl⟩
 obtain ⟨r, hr⟩ : ∃ r, r = z1.natAbs % z2.natAbs := ⟨_, rfl⟩
 obtain ⟨z, hz⟩ : ∃ z, z = z1 / z2 := ⟨_, rfl⟩
 have hpK : p + 1 < dm ^ (K + 1) := by
  rw [hp]
  have e1 := Nat.div_le_self z1.natAbs z2.natAbs
  have e2 : dm ^ K < dm ^ (K + 1) := Nat.pow_lt_pow_right Bc om
  have e3 : z1.natAbs < dm ^ K := hK
  omega
 rw [← hp, ← hr] at HP
 rw [← hp] at hv
 rw [← hz] at hv ⊢
 have HV := Lib.hid hv; have HPK := hide hpK
 clear h1 h2 hb ha hp hr hz hv hK hpK
 go_enter Tryz.func128, Tryz.ntmps128
 go_upto_region 1 with fail
 obtain ⟨n0, n1, n2, hsz, hw0⟩ := pz w (.cells #[.slice A1 l1.length c1, .bool false] 61) (.cells #[.slice A2 l2.length c2, .bool false] 61) (.cells #[.slice none 0 0, .bool false] 61)
 generalize (((w.alloc (.cells #[.slice A1 l1.length c1, .bool false] 61)).alloc (.cells #[.slice A2 l2.length c2, .bool false] 61)).alloc (.cells #[.slice none 0 0, .bool false] 61)) = W0 at *
 have k0 : W0.cell? ⟨w.heap.size, 0, none⟩ = some (.slice A1 l1.length c1) := ah n0 0
 have k1 : W0.cell? ⟨w.heap.size, 1, none⟩ = some (.bool false) := ah n0 1
 have k2 : W0.cell? ⟨w.heap.size + 1, 0, none⟩ = some (.slice A2 l2.length c2) := ah n1 0
 have k3 : W0.cell? ⟨w.heap.size + 1, 1, none⟩ = some (.bool false) := ah n1 1
 have q0 := lt_of_block n0; have q1 := lt_of_block n1; have q2 := lt_of_block n2
 have r0 : W0.cell? ⟨w.heap.size + 1 + 1, 0, none⟩ = some (.slice none 0 0) := ah n2 0
 have r1 : W0.cell? ⟨w.heap.size + 1 + 1, 1, none⟩ = some (.bool false) := ah n2 1
 have f0 := az n2 0; have f1 := az n2 1
 have NR := Lib.hid n2
 clear n0 n1 n2 hsz
 go_wp2_with fail
 refine ((aa HP) _ hw0).mono ?_
 rintro e W1 ⟨A5, c5, l5, A6, c6, l6, rfl, g5, g6, hb⟩
 have hl6 := g6.Gz
 clear hl6
 have bcl := g5.uu; have bck := g5.cap2; have bcj := g6.uu; have bci := g6.cap2
 obtain ⟨hc, hfz⟩ := dz hb
 replace k1 := (hc _ _ q0).trans k1
 replace k3 := (hc _ _ q1).trans k3
 replace r0 := (hc _ _ q2).trans r0
 replace r1 := (hc _ _ q2).trans r1
 replace f0 := (hfz _ _ q2).trans f0
 replace f1 := (hfz _ _ q2).trans f1
 replace NR := Lib.hid ((hb.block _ q2).trans NR.out)
 replace hw0 := bz hw0 hb
 replace q0 := Nat.lt_of_lt_of_le q0 hb.size
 replace q1 := Nat.lt_of_lt_of_le q1 hb.size
 replace q2 := Nat.lt_of_lt_of_le q2 hb.size
 have G5 := hide g5
 clear g5 g6 hb hc hfz k0 k2
 go_wp2_with fail
 have hsg := Au A5 c5 l5 p false W1 (aa G5)
 have Iu := hide hsg
 clear hsg
 refine (aa Iu).mono ?_
 rintro e w' ⟨A8, c8, l8, m8, rfl, g8, hb⟩
 obtain ⟨hc, hfz⟩ := dz hb
 have hblk := (hb.block _ q2).trans NR.out
 have mr := Lib.hid hblk
 have ku := bz hw0 hb
 have e9 : (if (false : Bool) = true then -((p : Nat) : Int) else ((p : Nat) : Int)) = z := by rw [HV.out]; rfl
 rw [e9] at g8
 have G8 := hide g8
 clear hb hblk e9 g8
 go_wp2_with fail
 exact bodyPost_ret (v := .agg #[.slice A8 l8.length c8, .bool m8]) (by simp [results, Tryz.results128, go_sem, hc, r0, r1, q2]) rfl
  ⟨A8, c8, l8, m8, rfl, (aa G8).upto mr.out (Es _ _ _ _) (nk _ _ _ _), ku.grown (nk _ _ _ _) ku.size (fun k hk => by injection hk with hk; omega)⟩

set_option maxHeartbeats 4000000 in
theorem anw (A1 : Option Addr) (c1 : Nat) (l1 : List Nat) (m1 : Bool) (z1 : Int) (A2 : Option Addr) (c2 : Nat) (l2 : List Nat) (m2 : Bool) (z2 : Int) (K : Nat) (w : World) (h1 : je w A1 c1 l1 m1 z1) (h2 : je w A2 c2 l2 m2 z2) (hb : 0 < z2) (hK : Wd.Sz dm K z1) (hk : l1.length + 1 ≤ 35184372088832) (hk2 : l2.length + 1 ≤ 35184372088832) (hk3 : K + 3 ≤ 35184372088832) (ha : z1 < 0) (h0 : z1.natAbs % z2.natAbs = 0) :
  Calls Tryz.prog 128 #[(Value.agg #[.slice A1 l1.length c1, .bool m1]), (Value.agg #[.slice A2 l2.length c2, .bool m2])] w fun e w' => Bl w (z1 / z2) e w' := by
 obtain rfl : m1 = true := by rw [h1.sign]; exact decide_eq_true ha
 obtain rfl : m2 = false := by rw [h2.sign]; exact decide_eq_false om
 have hv := (aek hb ha).1 h0
 have HP := hide (fun W (hW : Below w.heap.size w W) => Fw A1 A2 c1 c2 l1 l2 z1.natAbs z2.natAbs W (h1.nat.below hW) (h2.nat.below hW) om om om)
 obtain ⟨p, hp⟩ : ∃ p, p = z1.natAbs / z2.natAbs := ⟨_, rfl⟩
 obtain ⟨r, hr⟩ : ∃ r, r = z1.natAbs % z2.natAbs := ⟨_, rfl⟩
 obtain ⟨z, hz⟩ : ∃ z, z = z1 / z2 := ⟨_, rfl⟩
 have hpK : p + 1 < dm ^ (K + 1) := by
  rw [hp]
  have e1 := Nat.div_le_self z1.natAbs z2.natAbs
  have e2 : dm ^ K < dm ^ (K + 1) := Nat.pow_lt_pow_right Bc om
  have e3 : z1.natAbs < dm ^ K := hK
  omega
 rw [← hp, ← hr] at HP
 rw [← hp] at hv
 rw [← hz] at hv ⊢
 have HV := Lib.hid hv; have HPK := hide hpK
 rw [← hr] at h0
 have H0 := hide h0
 clear h0
 clear h1 h2 hb ha hp hr hz hv hK hpK
 go_enter Tryz.func128, Tryz.ntmps128
 go_upto_region 1 with fail
 obtain ⟨n0, n1, n2, hsz, hw0⟩ := pz w (.cells #[.slice A1 l1.length c1, .bool true] 61) (.cells #[.slice A2 l2.length c2, .bool false] 61) (.cells #[.slice none 0 0, .bool false] 61)
 generalize (((w.alloc (.cells #[.slice A1 l1.length c1, .bool true] 61)).alloc (.cells #[.slice A2 l2.length c2, .bool false] 61)).alloc (.cells #[.slice none 0 0, .bool false] 61)) = W0 at *
 have k0 : W0.cell? ⟨w.heap.size, 0, none⟩ = some (.slice A1 l1.length c1) := ah n0 0
 have k1 : W0.cell? ⟨w.heap.size, 1, none⟩ = some (.bool true) := ah n0 1
 have k2 : W0.cell? ⟨w.heap.size + 1, 0, none⟩ = some (.slice A2 l2.length c2) := ah n1 0
 have k3 : W0.cell? ⟨w.heap.size + 1, 1, none⟩ = some (.bool false) := ah n1 1
 have q0 := lt_of_block n0; have q1 := lt_of_block n1; have q2 := lt_of_block n2
 have r0 : W0.cell? ⟨w.heap.size + 1 + 1, 0, none⟩ = some (.slice none 0 0) := ah n2 0
 have r1 : W0.cell? ⟨w.heap.size + 1 + 1, 1, none⟩ = some (.bool false) := ah n2 1
 have f0 := az n2 0; have f1 := az n2 1
 have NR := Lib.hid n2
 clear n0 n1 n2 hsz
 go_wp2_with fail
 refine ((aa HP) _ hw0).mono ?_
 rintro e W1 ⟨A5, c5, l5, A6, c6, l6, rfl, g5, g6, hb⟩
 have hl6 := g6.Gz
 replace hl6 := hl6.1 (aa H0)
 have bcl := g5.uu; have bck := g5.cap2; have bcj := g6.uu; have bci := g6.cap2
 obtain ⟨hc, hfz⟩ := dz hb
 replace k1 := (hc _ _ q0).trans k1
 replace k3 := (hc _ _ q1).trans k3
 replace r0 := (hc _ _ q2).trans r0
 replace r1 := (hc _ _ q2).trans r1
 replace f0 := (hfz _ _ q2).trans f0
 replace f1 := (hfz _ _ q2).trans f1
 replace NR := Lib.hid ((hb.block _ q2).trans NR.out)
 replace hw0 := bz hw0 hb
 replace q0 := Nat.lt_of_lt_of_le q0 hb.size
 replace q1 := Nat.lt_of_lt_of_le q1 hb.size
 replace q2 := Nat.lt_of_lt_of_le q2 hb.size
 have G5 := hide g5
 clear g5 g6 hb hc hfz k0 k2
 go_wp2_with fail
 have hsg := Au A5 c5 l5 p true W1 (aa G5)
 have Iu := hide hsg
 clear hsg
 refine (aa Iu).mono ?_
 rintro e w' ⟨A8, c8, l8, m8, rfl, g8, hb⟩
 obtain ⟨hc, hfz⟩ := dz hb
 have hblk := (hb.block _ q2).trans NR.out
 have mr := Lib.hid hblk
 have ku := bz hw0 hb
 have e9 : (if (true : Bool) = true then -((p : Nat) : Int) else ((p : Nat) : Int)) = z := by rw [HV.out]; rfl
 rw [e9] at g8
 have G8 := hide g8
 clear hb hblk e9 g8
 go_wp2_with fail
 exact bodyPost_ret (v := .agg #[.slice A8 l8.length c8, .bool m8]) (by simp [results, Tryz.results128, go_sem, hc, r0, r1, q2]) rfl
  ⟨A8, c8, l8, m8, rfl, (aa G8).upto mr.out (Es _ _ _ _) (nk _ _ _ _), ku.grown (nk _ _ _ _) ku.size (fun k hk => by injection hk with hk; omega)⟩

set_option maxHeartbeats 4000000 in
theorem anx (A1 : Option Addr) (c1 : Nat) (l1 : List Nat) (m1 : Bool) (z1 : Int) (A2 : Option Addr) (c2 : Nat) (l2 : List Nat) (m2 : Bool) (z2 : Int) (K : Nat) (w : World) (h1 : je w A1 c1 l1 m1 z1) (h2 : je w A2 c2 l2 m2 z2) (hb : 0 < z2) (hK : Wd.Sz dm K z1) (hk : l1.length + 1 ≤ 35184372088832) (hk2 : l2.length + 1 ≤ 35184372088832) (hk3 : K + 3 ≤ 35184372088832) (ha : z1 < 0) (h0 : z1.natAbs % z2.natAbs ≠ 0) :
  Calls Tryz.prog 128 #[(Value.agg #[.slice A1 l1.length c1, .bool m1]), (Value.agg #[.slice A2 l2.length c2, .bool m2])] w fun e w' => Bl w (z1 / z2) e w' := by
 obtain rfl : m1 = true := by rw [h1.sign]; exact decide_eq_true ha
 obtain rfl : m2 = false := by rw [h2.sign]; exact decide_eq_false om
 have hv := (aek hb ha).2 h0
 have HP := hide (fun W (hW : Below w.heap.size w W) => Fw A1 A2 c1 c2 l1 l2 z1.natAbs z2.natAbs W (h1.nat.below hW) (h2.nat.below hW) om om om)
 obtain ⟨p, hp⟩ : ∃ p, p = z1.natAbs / z2.natAbs := ⟨_, rfl⟩
 obtain ⟨r, hr⟩ : ∃ r, r = z1.natAbs % z2.natAbs := ⟨_, rfl⟩
 obtain ⟨z, hz⟩ : ∃ z, z = z1 / z2 := ⟨_, rfl⟩
 have hpK : p + 1 < dm ^ (K + 1) := by
  rw [hp]
  have e1 := Nat.div_le_self z1.natAbs z2.natAbs
  have e2 : dm ^ K < dm ^ (K + 1) := Nat.pow_lt_pow_right Bc om
  have e3 : z1.natAbs < dm ^ K := hK
  omega
 rw [← hp, ← hr] at HP
 rw [← hp] at hv
 rw [← hz] at hv ⊢
 have HV := Lib.hid hv; have HPK := hide hpK
 rw [← hr] at h0
 have H0 := hide h0
 clear h0
 clear h1 h2 hb ha hp hr hz hv hK hpK
 go_enter Tryz.func128, Tryz.ntmps128
 go_upto_region 1 with fail
 obtain ⟨n0, n1, n2, hsz, hw0⟩ := pz w (.cells #[.slice A1 l1.length c1, .bool true] 61) (.cells #[.slice A2 l2.length c2, .bool false] 61) (.cells #[.slice none 0 0, .bool false] 61)
 generalize (((w.alloc (.cells #[.slice A1 l1.length c1, .bool true] 61)).alloc (.cells #[.slice A2 l2.length c2, .bool false] 61)).alloc (.cells #[.slice none 0 0, .bool false] 61)) = W0 at *
 have k0 : W0.cell? ⟨w.heap.size, 0, none⟩ = some (.slice A1 l1.length c1) := ah n0 0
 have k1 : W0.cell? ⟨w.heap.size, 1, none⟩ = some (.bool true) := ah n0 1
 have k2 : W0.cell? ⟨w.heap.size + 1, 0, none⟩ = some (.slice A2 l2.length c2) := ah n1 0
 have k3 : W0.cell? ⟨w.heap.size + 1, 1, none⟩ = some (.bool false) := ah n1 1
 have q0 := lt_of_block n0; have q1 := lt_of_block n1; have q2 := lt_of_block n2
 have r0 : W0.cell? ⟨w.heap.size + 1 + 1, 0, none⟩ = some (.slice none 0 0) := ah n2 0
 have r1 : W0.cell? ⟨w.heap.size + 1 + 1, 1, none⟩ = some (.bool false) := ah n2 1
 have f0 := az n2 0; have f1 := az n2 1
 have NR := Lib.hid n2
 clear n0 n1 n2 hsz
 go_wp2_with fail
 refine ((aa HP) _ hw0).mono ?_
 rintro e W1 ⟨A5, c5, l5, A6, c6, l6, rfl, g5, g6, hb⟩
 have hl6 := g6.Gz
 replace hl6 : ¬ l6.length = 0 := fun e => (aa H0) (hl6.2 e)
 have hl7 : decide ((0 : Int) < (l6.length : Int)) = true := decide_eq_true om
 have hl8 : decide (0 < l6.length) = true := decide_eq_true om
 have bcl := g5.uu; have bck := g5.cap2; have bcj := g6.uu; have bci := g6.cap2
 obtain ⟨hc, hfz⟩ := dz hb
 replace k1 := (hc _ _ q0).trans k1
 replace k3 := (hc _ _ q1).trans k3
 replace r0 := (hc _ _ q2).trans r0
 replace r1 := (hc _ _ q2).trans r1
 replace f0 := (hfz _ _ q2).trans f0
 replace f1 := (hfz _ _ q2).trans f1
 replace NR := Lib.hid ((hb.block _ q2).trans NR.out)
 replace hw0 := bz hw0 hb
 replace q0 := Nat.lt_of_lt_of_le q0 hb.size
 replace q1 := Nat.lt_of_lt_of_le q1 hb.size
 replace q2 := Nat.lt_of_lt_of_le q2 hb.size
 have G5 := hide g5
 clear g5 g6 hb hc hfz k0 k2
 go_wp2_with fail
 have hpl := adp A5 (some ⟨W1.heap.size, 0, none⟩) c5 1 l5 [1] p 1 (W1.alloc (.cells #[.int .u32 1] 156)) ((aa G5).below ((Below.refl _ _).alloc (Nat.le_refl _) _)) (asn W1) (by have := (aa G5).len (k := K + 1) (by have := aa HPK; omega); omega) (by simp)
 refine hpl.mono ?_
 rintro e W2 ⟨A7, c7, l7, rfl, g7, hb⟩
 replace hb := bz ((Below.refl W1.heap.size W1).alloc (Nat.le_refl _) _) hb
 obtain ⟨hc, hfz⟩ := dz hb
 replace k1 := (hc _ _ q0).trans k1
 replace k3 := (hc _ _ q1).trans k3
 replace r0 := (hc _ _ q2).trans r0
 replace r1 := (hc _ _ q2).trans r1
 replace f0 := (hfz _ _ q2).trans f0
 replace f1 := (hfz _ _ q2).trans f1
 replace NR := Lib.hid ((hb.block _ q2).trans NR.out)
 replace hw0 := bz hw0 hb
 replace q2 := Nat.lt_of_lt_of_le q2 hb.size
 have bpg := g7.uu; have bpf := g7.cap2
 have G7 := hide g7
 clear g7 hb hc hfz hpl
 go_wp2_with fail
 have hsg := Au A7 c7 l7 (p + 1) true W2 (aa G7)
 have Iu := hide hsg
 clear hsg
 refine (aa Iu).mono ?_
 rintro e w' ⟨A8, c8, l8, m8, rfl, g8, hb⟩
 obtain ⟨hc, hfz⟩ := dz hb
 have hblk := (hb.block _ q2).trans NR.out
 have mr := Lib.hid hblk
 have ku := bz hw0 hb
 have e9 : (if (true : Bool) = true then -(((p + 1) : Nat) : Int) else (((p + 1) : Nat) : Int)) = z := by rw [HV.out]; rfl
 rw [e9] at g8
 have G8 := hide g8
 clear hb hblk e9 g8
 go_wp2_with fail
 exact bodyPost_ret (v := .agg #[.slice A8 l8.length c8, .bool m8]) (by simp [results, Tryz.results128, go_sem, hc, r0, r1, q2]) rfl
  ⟨A8, c8, l8, m8, rfl, (aa G8).upto mr.out (Es _ _ _ _) (nk _ _ _ _), ku.grown (nk _ _ _ _) ku.size (fun k hk => by injection hk with hk; omega)⟩

theorem aja (A1 : Option Addr) (c1 : Nat) (l1 : List Nat) (m1 : Bool) (z1 : Int) (A2 : Option Addr) (c2 : Nat) (l2 : List Nat) (m2 : Bool) (z2 : Int) (K : Nat) (w : World) (h1 : je w A1 c1 l1 m1 z1) (h2 : je w A2 c2 l2 m2 z2) (hb : 0 < z2) (hK : Wd.Sz dm K z1) (hk : l1.length + 1 ≤ 35184372088832) (hk2 : l2.length + 1 ≤ 35184372088832) (hk3 : K + 3 ≤ 35184372088832) :
  Calls Tryz.prog 128 #[(Value.agg #[.slice A1 l1.length c1, .bool m1]), (Value.agg #[.slice A2 l2.length c2, .bool m2])] w fun e w' => Bl w (z1 / z2) e w' := by
 by_cases ha : 0 ≤ z1
 ·
  exact anv A1 c1 l1 m1 z1 A2 c2 l2 m2 z2 K w h1 h2 hb hK hk hk2 hk3 ha
 ·
  by_cases h0 : z1.natAbs % z2.natAbs = 0
  ·
   exact anw A1 c1 l1 m1 z1 A2 c2 l2 m2 z2 K w h1 h2 hb hK hk hk2 hk3 om h0
  ·
   exact anx A1 c1 l1 m1 z1 A2 c2 l2 m2 z2 K w h1 h2 hb hK hk hk2 hk3 om h0

end Go.Proofs.YtjdnmdlnaoedoaaGreatDoor
namespace Go.Proofs.YtjdnmdlnaoedoaaGreatDoor
open Go.RowKit

end Go.Proofs.YtjdnmdlnaoedoaaGreatDoor
namespace Go.Proofs.YtjdnmdlnaoedoaaGreatDoor
open Go.RowKit

set_option maxHeartbeats 2000000 in
theorem afq (n : Int) (q : Rat) (w : World) (b1 : -9223372036854775808 ≤ n) (b2 : n ≤ 9223372036854775807) (hn : n = q.num) (hd : (1 : Int) = (q.den : Int)) :
  Calls Tryz.prog 80 #[.int .i64 n] w fun e w' => QR w q e w' := by
 have Xh := hide (fun W => (Tv n W b1 b2).mono (fun e w' h => h.1))
 have HO2 := hide Tu
 have HN := Lib.hid hn; have HD := Lib.hid hd
 clear b1 b2 hn hd
 go_enter Tryz.func80, Tryz.ntmps80
 go_wp2_with fail
 obtain ⟨n0, hsz, hw0⟩ := acv w (.cells #[.slice none 0 0, .bool false, .slice none 0 0, .bool false] 63)
 generalize (w.alloc (.cells #[.slice none 0 0, .bool false, .slice none 0 0, .bool false] 63)) = W0 at *
 have p0 : W0.cell? ⟨w.heap.size, 0, none⟩ = some (.slice none 0 0) := ah n0 0
 have p1 : W0.cell? ⟨w.heap.size, 1, none⟩ = some (.bool false) := ah n0 1
 have p2 : W0.cell? ⟨w.heap.size, 2, none⟩ = some (.slice none 0 0) := ah n0 2
 have p3 : W0.cell? ⟨w.heap.size, 3, none⟩ = some (.bool false) := ah n0 3
 have v0 := az n0 0; have v1 := az n0 1; have v2 := az n0 2; have v3 := az n0 3
 have q0 := lt_of_block n0
 have NR := Lib.hid n0
 clear n0 hsz
 refine ((aa Xh) _).mono ?_
 rintro e W1 ⟨A1, c1, l1, m1, rfl, f1, hb1⟩
 have F1 := hide f1; have HB1 := hide hb1
 clear f1 hb1
 go_wp2_with fail
 refine ((aa HO2) _).mono ?_
 rintro e W2 ⟨A2, c2, l2, m2, rfl, f2, hb2⟩
 have F1' := hide ((aa F1).below hb2)
 have hb2' := bz (aa HB1) hb2
 obtain ⟨hc, hfz⟩ := dz hb2'
 have hblk := (hb2'.block _ q0).trans NR.out
 have mr := Lib.hid hblk
 have F2 := hide f2; have ku := bz hw0 hb2'
 have Tg := hide ku
 clear f2 hb2 hb2' hblk ku
 go_wp2_with fail
 exact bodyPost_ret (v := .agg #[.slice A1 l1.length c1, .bool m1, .slice A2 l2.length c2, .bool m2]) (by simp [results, Tryz.results80, go_sem, hc, p0, p1, p2, p3, q0]) rfl
  ⟨A1, c1, l1, m1, A2, c2, l2, m2, rfl, HN.out ▸ (aa F1').upto mr.out (Bt _ _ _ _ _ _ _ _) (qg _ _ _ _ _ _), HD.out ▸ (aa F2).upto mr.out (Bt _ _ _ _ _ _ _ _) (qg _ _ _ _ _ _), (aa Tg).grown (qg _ _ _ _ _ _) (aa Tg).size (fun k hk => by injection hk with hk; omega)⟩

end Go.Proofs.YtjdnmdlnaoedoaaGreatDoor
namespace Go.Proofs.YtjdnmdlnaoedoaaGreatDoor
open Go.RowKit

set_option maxHeartbeats 16000000 in
theorem ajf (A1 : Option Addr) (c1 : Nat) (l1 : List Nat) (m1 : Bool) (A2 : Option Addr) (c2 : Nat) (l2 : List Nat) (m2 : Bool) (z1 b1 n : Int) (p q : Rat) (w : World) (f1 : je w A1 c1 l1 m1 z1)
  (hd1 : ∀ W, Below w.heap.size w W → Calls Tryz.prog 117 #[(Value.agg #[.slice A1 l1.length c1, .bool m1, .slice A2 l2.length c2, .bool m2])] W fun e w' => Bl W b1 e w') (hf : ∀ (A7 : Option Addr) (c7 : Nat) (l7 : List Nat) (m7 : Bool) (A8 : Option Addr) (c8 : Nat) (l8 : List Nat) (m8 : Bool) (W : World), Below w.heap.size w W → je W A7 c7 l7 m7 z1 → je W A8 c8 l8 m8 b1 → Calls Tryz.prog 128 #[(Value.agg #[.slice A7 l7.length c7, .bool m7]), (Value.agg #[.slice A8 l8.length c8, .bool m8])] W fun e w' => Bl W n e w') (ho : ∀ W, Calls Tryz.prog 129 #[] W fun e w' => Bl W 1 e w') (acz : n = q.num) (hden : (1 : Int) = (q.den : Int)) :
  Calls Tryz.prog 63 #[(Value.agg #[.slice A1 l1.length c1, .bool m1, .slice A2 l2.length c2, .bool m2])] w fun e w' => QR w q e w' := by
 have H1 := hide f1
 clear f1
 have HD1 := hide hd1
 have HF := hide hf
 have HO := hide ho
 clear hd1 hf ho
 go_enter Tryz.func63, Tryz.ntmps63
 go_upto_region 1 with fail
 obtain ⟨n0, n1, hsz, hw0⟩ := wy w (.cells #[.slice A1 l1.length c1, .bool m1, .slice A2 l2.length c2, .bool m2] 63) (.cells #[.slice none 0 0, .bool false, .slice none 0 0, .bool false] 63)
 generalize ((w.alloc (.cells #[.slice A1 l1.length c1, .bool m1, .slice A2 l2.length c2, .bool m2] 63)).alloc (.cells #[.slice none 0 0, .bool false, .slice none 0 0, .bool false] 63)) = W0 at *
 have yu : W0.cell? ⟨w.heap.size, 0, none⟩ = some (.slice A1 l1.length c1) := ah n0 0
 have yo : W0.cell? ⟨w.heap.size, 1, none⟩ = some (.bool m1) := ah n0 1
 have Ba : W0.cell? ⟨w.heap.size, 2, none⟩ = some (.slice A2 l2.length c2) := ah n0 2
 have Cf : W0.cell? ⟨w.heap.size, 3, none⟩ = some (.bool m2) := ah n0 3
 have q0 : w.heap.size < W0.heap.size := by omega
 have Am : W0.cell? ⟨w.heap.size + 1, 0, none⟩ = some (.slice none 0 0) := ah n1 0
 have Al : W0.cell? ⟨w.heap.size + 1, 1, none⟩ = some (.bool false) := ah n1 1
 have Ey : W0.cell? ⟨w.heap.size + 1, 2, none⟩ = some (.slice none 0 0) := ah n1 2
 have Mh : W0.cell? ⟨w.heap.size + 1, 3, none⟩ = some (.bool false) := ah n1 3
 have q1 : w.heap.size + 1 < W0.heap.size := by omega
 have Nu := az n1 0
 have Nt := az n1 1
 have aic := az n1 2
 have aib := az n1 3
 have NR := Lib.hid n1
 clear hsz n0 n1
 replace H1 := hide ((aa H1).below hw0)
 go_upto_region 1 with fail
 have KEEP := hide (show ∀ X, Below W0.heap.size W0 X → X.cell? ⟨w.heap.size, 0, none⟩ = some (.slice A1 l1.length c1) ∧ X.cell? ⟨w.heap.size, 1, none⟩ = some (.bool m1) ∧ X.cell? ⟨w.heap.size, 2, none⟩ = some (.slice A2 l2.length c2) ∧ X.cell? ⟨w.heap.size, 3, none⟩ = some (.bool m2) from fun X hB => ⟨iq hB q0 yu, iq hB q0 yo, iq hB q0 Ba, iq hB q0 Cf⟩)
 go_region_held3 (fun w' => w'.cell? ⟨w.heap.size, 0, none⟩ = some (.slice A1 l1.length c1) ∧ w'.cell? ⟨w.heap.size, 1, none⟩ = some (.bool m1) ∧ w'.cell? ⟨w.heap.size, 2, none⟩ = some (.slice A2 l2.length c2) ∧ w'.cell? ⟨w.heap.size, 3, none⟩ = some (.bool m2)) (first | with_reducible exact ⟨(Fz _ _ _ _ _ _ om).trans (iq hbw q0 yu), (Fz _ _ _ _ _ _ om).trans (iq hbw q0 yo), (Fz _ _ _ _ _ _ om).trans (iq hbw q0 Ba), (Fz _ _ _ _ _ _ om).trans (iq hbw q0 Cf)⟩ | with_reducible exact (aa KEEP) _ bel) (first | (go_at_call_of 117 (Value.agg #[.slice A1 l1.length c1, .bool m1, .slice A2 l2.length c2, .bool m2]); refine ((aa HD1) _ (bz hw0 bel)).mono ?_; rintro e w' ⟨A5, c5, l5, m5, rfl, zo, hb5⟩; have hbw := df (w := W0) bel hb5; have hsw := hbw.size; obtain ⟨hc, hfz⟩ := dz hbw) | (go_at_call_of 128 (Value.agg #[.slice A1 l1.length c1, .bool m1]); refine ((aa HF) A1 c1 l1 m1 A5 c5 l5 m5 _ (bz hw0 bel) (je.below (aa H1) bel) (je.below zo bel)).mono ?_; rintro e w' ⟨A6, c6, l6, m6, rfl, Cu, hb6⟩; have zo := je.below (je.below zo bel) hb6; have hbw := df (w := W0) bel hb6; have hsw := hbw.size; obtain ⟨hc, hfz⟩ := dz hbw) | (go_at_call 129; refine ((aa HO) _).mono ?_; rintro e w' ⟨A7, c7, l7, m7, rfl, hf7, Nj⟩; have zo := je.below (je.below zo bel) Nj; have Cu := je.below (je.below Cu bel) Nj; have hbw := df (w := W0) bel Nj; have hsw := hbw.size; obtain ⟨hc, hfz⟩ := dz hbw))
 all_goals
  have hblk : w'.heap[w.heap.size + 1]? = some (.cells #[.slice none 0 0, .bool false, .slice none 0 0, .bool false] 63 (0, 0)) := (hbw.block _ q1).trans NR.out
  have mr := Lib.hid hblk
  have ku : Below w.heap.size w w' := bz hw0 hbw
  have hfi := (Cu)
  have hfj := (hf7)
  clear hblk
  go_wp2_with fail
  exact bodyPost_ret (v := (Value.agg #[.slice A6 l6.length c6, .bool m6, .slice A7 l7.length c7, .bool m7])) (by simp [results, Tryz.results63, go_sem, hc, Am, Al, Ey, Mh, q1]) rfl
   ⟨A6, c6, l6, m6, A7, c7, l7, m7, rfl, acz ▸ hfi.upto mr.out (Bt _ _ _ _ _ _ _ _) (qg _ _ _ _ _ _), hden ▸ hfj.upto mr.out (Bt _ _ _ _ _ _ _ _) (qg _ _ _ _ _ _), ku.grown (qg _ _ _ _ _ _) ku.size (fun k hk => by injection hk with hk; omega)⟩

set_option maxHeartbeats 16000000 in
theorem ape (A1 : Option Addr) (c1 : Nat) (l1 : List Nat) (m1 : Bool) (A2 : Option Addr) (c2 : Nat) (l2 : List Nat) (m2 : Bool) (z1 : Int) (p q : Rat) (w : World) 
  (hi : ∀ W, Calls Tryz.prog 80 #[.int .i64 1] W fun e w' => QR W p e w') (hd : ∀ (A7 : Option Addr) (c7 : Nat) (l7 : List Nat) (m7 : Bool) (A8 : Option Addr) (c8 : Nat) (l8 : List Nat) (m8 : Bool) (W : World), Below w.heap.size w W → je W A7 c7 l7 m7 p.num → je W A8 c8 l8 m8 (p.den : Int) → Calls Tryz.prog 54 #[(Value.agg #[.slice A7 l7.length c7, .bool m7, .slice A8 l8.length c8, .bool m8]), (Value.agg #[.slice A1 l1.length c1, .bool m1, .slice A2 l2.length c2, .bool m2])] W fun e w' => QR W q e w') :
  Calls Tryz.prog 75 #[(Value.agg #[.slice A1 l1.length c1, .bool m1, .slice A2 l2.length c2, .bool m2])] w fun e w' => QR w q e w' := by
 have HI := hide hi
 have HD := hide hd
 clear hi hd
 go_enter Tryz.func75, Tryz.ntmps75
 go_upto_region 1 with fail
 obtain ⟨n0, n1, hsz, hw0⟩ := wy w (.cells #[.slice A1 l1.length c1, .bool m1, .slice A2 l2.length c2, .bool m2] 63) (.cells #[.slice none 0 0, .bool false, .slice none 0 0, .bool false] 63)
 generalize ((w.alloc (.cells #[.slice A1 l1.length c1, .bool m1, .slice A2 l2.length c2, .bool m2] 63)).alloc (.cells #[.slice none 0 0, .bool false, .slice none 0 0, .bool false] 63)) = W0 at *
 have yu : W0.cell? ⟨w.heap.size, 0, none⟩ = some (.slice A1 l1.length c1) := ah n0 0
 have yo : W0.cell? ⟨w.heap.size, 1, none⟩ = some (.bool m1) := ah n0 1
 have Ba : W0.cell? ⟨w.heap.size, 2, none⟩ = some (.slice A2 l2.length c2) := ah n0 2
 have Cf : W0.cell? ⟨w.heap.size, 3, none⟩ = some (.bool m2) := ah n0 3
 have q0 : w.heap.size < W0.heap.size := by omega
 have Am : W0.cell? ⟨w.heap.size + 1, 0, none⟩ = some (.slice none 0 0) := ah n1 0
 have Al : W0.cell? ⟨w.heap.size + 1, 1, none⟩ = some (.bool false) := ah n1 1
 have Ey : W0.cell? ⟨w.heap.size + 1, 2, none⟩ = some (.slice none 0 0) := ah n1 2
 have Mh : W0.cell? ⟨w.heap.size + 1, 3, none⟩ = some (.bool false) := ah n1 3
 have q1 : w.heap.size + 1 < W0.heap.size := by omega
 have Nu := az n1 0
 have Nt := az n1 1
 have aic := az n1 2
 have aib := az n1 3
 have NR := Lib.hid n1
 clear hsz n0 n1
 go_upto_region 1 with fail
 have KEEP := hide (show ∀ X, Below W0.heap.size W0 X → X.cell? ⟨w.heap.size, 0, none⟩ = some (.slice A1 l1.length c1) ∧ X.cell? ⟨w.heap.size, 1, none⟩ = some (.bool m1) ∧ X.cell? ⟨w.heap.size, 2, none⟩ = some (.slice A2 l2.length c2) ∧ X.cell? ⟨w.heap.size, 3, none⟩ = some (.bool m2) from fun X hB => ⟨iq hB q0 yu, iq hB q0 yo, iq hB q0 Ba, iq hB q0 Cf⟩)
 go_region_held3 (fun w' => w'.cell? ⟨w.heap.size, 0, none⟩ = some (.slice A1 l1.length c1) ∧ w'.cell? ⟨w.heap.size, 1, none⟩ = some (.bool m1) ∧ w'.cell? ⟨w.heap.size, 2, none⟩ = some (.slice A2 l2.length c2) ∧ w'.cell? ⟨w.heap.size, 3, none⟩ = some (.bool m2)) (first | with_reducible exact ⟨(Fz _ _ _ _ _ _ om).trans (iq hbw q0 yu), (Fz _ _ _ _ _ _ om).trans (iq hbw q0 yo), (Fz _ _ _ _ _ _ om).trans (iq hbw q0 Ba), (Fz _ _ _ _ _ _ om).trans (iq hbw q0 Cf)⟩ | with_reducible exact (aa KEEP) _ bel) (first | (go_at_call_of 80 (Value.int .i64 1); refine ((aa HI) _).mono ?_; rintro e w' ⟨A5, c5, l5, m5, A6, c6, l6, m6, rfl, zo, Cu, hb5⟩; have hbw := df (w := W0) bel hb5; have hsw := hbw.size; obtain ⟨hc, hfz⟩ := dz hbw) | (go_at_call_of 54 (Value.agg #[.slice A5 l5.length c5, .bool m5, .slice A6 l6.length c6, .bool m6]); refine ((aa HD) A5 c5 l5 m5 A6 c6 l6 m6 _ (bz hw0 bel) (je.below zo bel) (je.below Cu bel)).mono ?_; rintro e w' ⟨A7, c7, l7, m7, A8, c8, l8, m8, rfl, hf7, hf8, Nj⟩; have zo := je.below (je.below zo bel) Nj; have Cu := je.below (je.below Cu bel) Nj; have hbw := df (w := W0) bel Nj; have hsw := hbw.size; obtain ⟨hc, hfz⟩ := dz hbw))
 all_goals
  have hblk : w'.heap[w.heap.size + 1]? = some (.cells #[.slice none 0 0, .bool false, .slice none 0 0, .bool false] 63 (0, 0)) := (hbw.block _ q1).trans NR.out
  have mr := Lib.hid hblk
  have ku : Below w.heap.size w w' := bz hw0 hbw
  have hfi := (hf7)
  have hfj := (hf8)
  clear hblk
  go_wp2_with fail
  exact bodyPost_ret (v := (Value.agg #[.slice A7 l7.length c7, .bool m7, .slice A8 l8.length c8, .bool m8])) (by simp [results, Tryz.results75, go_sem, hc, Am, Al, Ey, Mh, q1]) rfl
   ⟨A7, c7, l7, m7, A8, c8, l8, m8, rfl, hfi.upto mr.out (Bt _ _ _ _ _ _ _ _) (qg _ _ _ _ _ _), hfj.upto mr.out (Bt _ _ _ _ _ _ _ _) (qg _ _ _ _ _ _), ku.grown (qg _ _ _ _ _ _) ku.size (fun k hk => by injection hk with hk; omega)⟩

set_option maxHeartbeats 16000000 in
theorem alo (A1 : Option Addr) (c1 : Nat) (l1 : List Nat) (m1 : Bool) (A2 : Option Addr) (c2 : Nat) (l2 : List Nat) (m2 : Bool) (p q r : Rat) (w : World) (hn : ∀ W, Below w.heap.size w W → Calls Tryz.prog 121 #[(Value.agg #[.slice A1 l1.length c1, .bool m1, .slice A2 l2.length c2, .bool m2])] W fun e w' => QR W p e w')
  (hf : ∀ (A5 : Option Addr) (c5 : Nat) (l5 : List Nat) (m5 : Bool) (A6 : Option Addr) (c6 : Nat) (l6 : List Nat) (m6 : Bool) (W : World), je W A5 c5 l5 m5 p.num → je W A6 c6 l6 m6 (p.den : Int) → Calls Tryz.prog 63 #[(Value.agg #[.slice A5 l5.length c5, .bool m5, .slice A6 l6.length c6, .bool m6])] W fun e w' => QR W q e w') (hn2 : ∀ (A5 : Option Addr) (c5 : Nat) (l5 : List Nat) (m5 : Bool) (A6 : Option Addr) (c6 : Nat) (l6 : List Nat) (m6 : Bool) (W : World), je W A5 c5 l5 m5 q.num → je W A6 c6 l6 m6 (q.den : Int) → Calls Tryz.prog 121 #[(Value.agg #[.slice A5 l5.length c5, .bool m5, .slice A6 l6.length c6, .bool m6])] W fun e w' => QR W r e w') :
  Calls Tryz.prog 153 #[(Value.agg #[.slice A1 l1.length c1, .bool m1, .slice A2 l2.length c2, .bool m2])] w fun e w' => QR w r e w' := by
 have HN := hide hn; have HF := hide hf; have HN2 := hide hn2
 clear hn hf hn2
 go_enter Tryz.func153, Tryz.ntmps153
 go_upto_region 1 with fail
 obtain ⟨n0, n1, hsz, hw0⟩ := wy w (.cells #[.slice A1 l1.length c1, .bool m1, .slice A2 l2.length c2, .bool m2] 63) (.cells #[.slice none 0 0, .bool false, .slice none 0 0, .bool false] 63)
 generalize ((w.alloc (.cells #[.slice A1 l1.length c1, .bool m1, .slice A2 l2.length c2, .bool m2] 63)).alloc (.cells #[.slice none 0 0, .bool false, .slice none 0 0, .bool false] 63)) = W0 at *
 have k0 : W0.cell? ⟨w.heap.size, 0, none⟩ = some (.slice A1 l1.length c1) := ah n0 0
 have k1 : W0.cell? ⟨w.heap.size, 1, none⟩ = some (.bool m1) := ah n0 1
 have k2 : W0.cell? ⟨w.heap.size, 2, none⟩ = some (.slice A2 l2.length c2) := ah n0 2
 have k3 : W0.cell? ⟨w.heap.size, 3, none⟩ = some (.bool m2) := ah n0 3
 have r0 : W0.cell? ⟨w.heap.size + 1, 0, none⟩ = some (.slice none 0 0) := ah n1 0
 have f0 := az n1 0
 have r1 : W0.cell? ⟨w.heap.size + 1, 1, none⟩ = some (.bool false) := ah n1 1
 have f1 := az n1 1
 have r2 : W0.cell? ⟨w.heap.size + 1, 2, none⟩ = some (.slice none 0 0) := ah n1 2
 have f2 := az n1 2
 have r3 : W0.cell? ⟨w.heap.size + 1, 3, none⟩ = some (.bool false) := ah n1 3
 have f3 := az n1 3
 have q1 := lt_of_block n1
 have NR := Lib.hid n1
 clear n0 n1 hsz
 go_wp2_with fail
 refine ((aa HN) _ hw0).mono ?_
 rintro e W1 ⟨A5, c5, l5, m5, A6, c6, l6, m6, rfl, g5, g6, hb⟩
 have HB := hide hb
 have hf1 := (aa HF) A5 c5 l5 m5 A6 c6 l6 m6 W1 g5 g6
 have HF1 := hide hf1
 clear g5 g6 hb hf1 k0 k1 k2 k3
 go_wp2_with fail
 refine (aa HF1).mono ?_
 rintro e W2 ⟨A7, c7, l7, m7, A8, c8, l8, m8, rfl, g5, g6, hb⟩
 have HB2 := hide (bz (aa HB) hb)
 have hf1 := (aa HN2) A7 c7 l7 m7 A8 c8 l8 m8 W2 g5 g6
 have HF2 := hide hf1
 clear g5 g6 hb hf1
 go_wp2_with fail
 refine (aa HF2).mono ?_
 rintro e w' ⟨A9, c9, l9, m9, Vi, c10, l10, m10, rfl, g5, g6, hb⟩
 have hbw := bz (aa HB2) hb
 obtain ⟨hc, hfz⟩ := dz hbw
 have hblk := (hbw.block _ q1).trans NR.out
 have mr := Lib.hid hblk
 have ku := bz hw0 hbw
 have Tg := hide ku
 have G5 := hide g5; have G6 := hide g6
 clear hb hbw hblk ku g5 g6
 go_wp2_with fail
 exact bodyPost_ret (v := (Value.agg #[.slice A9 l9.length c9, .bool m9, .slice Vi l10.length c10, .bool m10])) (by simp [results, Tryz.results153, go_sem, hc, r0, r1, r2, r3, q1]) rfl
  ⟨A9, c9, l9, m9, Vi, c10, l10, m10, rfl, (aa G5).upto mr.out (Bt _ _ _ _ _ _ _ _) (qg _ _ _ _ _ _), (aa G6).upto mr.out (Bt _ _ _ _ _ _ _ _) (qg _ _ _ _ _ _), (aa Tg).grown (qg _ _ _ _ _ _) (aa Tg).size (fun k hk => by injection hk with hk; omega)⟩

theorem Wd.Si (n : Int) : n = (Rat.divInt n 1).num ∧ (1 : Int) = ((Rat.divInt n 1).den : Int) := ⟨(Wd.Xy n).1.symm, by rw [(Wd.Xy n).2]; rfl⟩
theorem Yx (K : Nat) (A1 : Option Addr) (c1 : Nat) (l1 : List Nat) (m1 : Bool) (A2 : Option Addr) (c2 : Nat) (l2 : List Nat) (m2 : Bool) (x : Rat) (w : World) (h : QV w A1 c1 l1 m1 A2 c2 l2 m2 x) (sx : Wd.za dm K x) (hK : 4 * K + 4 ≤ 35184372088832) :
  Calls Tryz.prog 63 #[(Value.agg #[.slice A1 l1.length c1, .bool m1, .slice A2 l2.length c2, .bool m2])] w fun e w' => QR w (Rat.divInt (x.num / (x.den : Int)) 1) e w' := by
 have hx := x.den_nz
 exact ajf A1 c1 l1 m1 A2 c2 l2 m2 x.num (x.den : Int) _ x _ w h.num (fun W hW => Qu A1 c1 l1 m1 A2 c2 l2 m2 x W (h.below hW))
  (fun A7 c7 l7 m7 A8 c8 l8 m8 W _ f g => aja A7 c7 l7 m7 _ A8 c8 l8 m8 _ K W f g om sx.1 (by have := f.len sx.1; omega) (by have := g.len sx.2; omega) om)
  Tu (Wd.Si _).1 (Wd.Si _).2
theorem anu (K : Nat) (A1 : Option Addr) (c1 : Nat) (l1 : List Nat) (m1 : Bool) (A2 : Option Addr) (c2 : Nat) (l2 : List Nat) (m2 : Bool) (x : Rat) (w : World) (h : QV w A1 c1 l1 m1 A2 c2 l2 m2 x) (sx : Wd.za dm K x) (h1 : 1 ≤ K) (hK : 4 * K + 4 ≤ 35184372088832) (h0 : x.num ≠ 0) :
  Calls Tryz.prog 75 #[(Value.agg #[.slice A1 l1.length c1, .bool m1, .slice A2 l2.length c2, .bool m2])] w fun e w' => QR w (Rat.divInt 1 1 / x) e w' := by
 have s1 : Wd.za dm K (Rat.divInt 1 1) := by
  have e : 1 < dm ^ K := Nat.one_lt_pow om Bc
  unfold Wd.za Wd.Sz
  rw [← (Wd.Si 1).1, ← (Wd.Si 1).2]
  exact ⟨e, e⟩
 exact ape A1 c1 l1 m1 A2 c2 l2 m2 0 (Rat.divInt 1 1) (Rat.divInt 1 1 / x) w (fun W => afq 1 _ W om om (Wd.Si 1).1 (Wd.Si 1).2)
  (fun A7 c7 l7 m7 A8 c8 l8 m8 W hW f g => adn K A7 c7 l7 m7 A8 c8 l8 m8 A1 c1 l1 m1 A2 c2 l2 m2 _ x W (QV.of f g) (h.below hW) s1 sx hK h0)
theorem ale (K : Nat) (A1 : Option Addr) (c1 : Nat) (l1 : List Nat) (m1 : Bool) (A2 : Option Addr) (c2 : Nat) (l2 : List Nat) (m2 : Bool) (x : Rat) (w : World) (h : QV w A1 c1 l1 m1 A2 c2 l2 m2 x) (sx : Wd.za dm K x) (hK : 4 * K + 4 ≤ 35184372088832) :
  Calls Tryz.prog 153 #[(Value.agg #[.slice A1 l1.length c1, .bool m1, .slice A2 l2.length c2, .bool m2])] w fun e w' => QR w (-Rat.divInt ((-x).num / ((-x).den : Int)) 1) e w' :=
 alo A1 c1 l1 m1 A2 c2 l2 m2 (-x) _ _ w (fun W hW => Qt A1 c1 l1 m1 A2 c2 l2 m2 x W (h.below hW))
  (fun A5 c5 l5 m5 A6 c6 l6 m6 W f g => Yx K A5 c5 l5 m5 A6 c6 l6 m6 (-x) W (QV.of f g) ⟨sx.1.neg, sx.2⟩ hK)
  (fun A5 c5 l5 m5 A6 c6 l6 m6 W f g => Qt A5 c5 l5 m5 A6 c6 l6 m6 _ W (QV.of f g))

end Go.Proofs.YtjdnmdlnaoedoaaGreatDoor
namespace Go.Proofs.YtjdnmdlnaoedoaaGreatDoor
open Go.RowKit

set_option maxHeartbeats 16000000 in
theorem avg (x q : Rat) (w : World) (u1 : Value) (h1 : Bu x w u1) (ha : (x.den : Int) = q.num) (hb : (1 : Int) = (q.den : Int))
  (hden : ∀ (W : World) (v0 : Value), Bu (x) W v0 → Calls Tryz.prog 117 #[v0] W (jh (Dr (x.den)) W))
  (hone : ∀ (W : World) , Calls Tryz.prog 129 #[] W (jh (Dr (1)) W)) :
  Calls Tryz.prog 72 #[u1] w (jh (Bu q) w) := by
 obtain ⟨A1, c1, l1, m1, A2, c2, l2, m2, rfl, hq1⟩ := h1
 have bgg := hide hden
 have bgf := hide hone
 have HHA := hide ha
 have HHB := hide hb
 clear hden hone ha hb
 go_enter Tryz.func72, Tryz.ntmps72
 go_upto_region 1 with fail
 have hO := (Own.bfj (Own.push (Own.nil w) (hq1.below (Below.refl _ _)) (w.heap.size) rfl) (w.heap.size + 1) (by simp only [World.size_alloc]))
 generalize (w.alloc (.cells #[.slice A1 l1.length c1, .bool m1, .slice A2 l2.length c2, .bool m2] 63)).alloc (.cells #[.slice none 0 0, .bool false, .slice none 0 0, .bool false] 63) = W0 at *
 have HO := hide hO
 clear hO
 go_upto_region 1 with fail
 refine Rg.fw 4 7 (Rg.pick [Bu (x), Dr (x.den : Int), Dr 1, Bu (q)]) (ay w [(w.heap.size + 1, 0), (w.heap.size, x)] W0) ik [] kr rfl (Rg.gm.pick ⟨Xp _, Jq _, Jq _, Xp _, trivial⟩) (ay.begin (aa HO))
  (Rg.bg (Rg.plain rfl (aco rfl (Rg.cz kr rfl) (fun W h => ay.box (List.Mem.tail _ (List.Mem.head _)) h) rfl))
   (Rg.bg (Rg.plain rfl (jf Tryz.func117 kr rfl ay.step (Rg.ax 0 kr) (fun W v0 hG h0 => aa bgg W v0 h0)))
   (Rg.bg (Rg.plain rfl (ajr Tryz.func129 kr rfl ay.step  (fun W  hG  => aa bgf W)))
   (Rg.bg (Rg.plain rfl (asx rfl (Rg.ax 1 kr) (Rg.ax 2 kr) (aa HHA) (aa HHB) rfl))
   Rg.cu)))) ?_
 intro v V1 hG1 hv hne
 clear hne
 simp only [Rg.puts, List.take_succ_cons, List.take_zero, List.drop_succ_cons, List.drop_zero, Act.put, List.setIfInBounds_toArray, List.set_cons_zero, List.set_cons_succ]
 obtain ⟨bgi, bga, bfr, bfp, bgh, bfz, bfq, bfo, e3, f3⟩ := (show Bu (q) V1 (v 3) from hv 3 (by decide))
 simp only [e3]
 have hO := hG1.1
 obtain ⟨-, _, _, _, _, _, _, _, _, hz, -⟩ := hO.box (w.heap.size + 1) (0) (List.Mem.head _)
 have Hf := ah hz 0
 have Vr := az hz 0
 have He := ah hz 1
 have Vq := az hz 1
 have Hd := ah hz 2
 have Vp := az hz 2
 have Ha := ah hz 3
 have Vo := az hz 3
 have Ho := lt_of_block hz
 clear hz
 go_wp2_with fail
 replace hO := Own.set (xs := []) (ys := [(w.heap.size, x)]) hO f3
 unfold bai at hO
 generalize (((V1.setCell ⟨w.heap.size + 1, 0, none⟩ (.slice bgi bfr.length bga)).setCell ⟨w.heap.size + 1, 1, none⟩ (.bool bfp)).setCell ⟨w.heap.size + 1, 2, none⟩ (.slice bgh bfq.length bfz)).setCell ⟨w.heap.size + 1, 3, none⟩ (.bool bfo) = U1 at *
 try clear Hf Vr He Vq Hd Vp Ha Vo hG1
 try clear e3 f3 Ho
 try clear hv
 replace HO := hide hO
 clear hO
 obtain ⟨Wq, Yw, Yu, Yn, Yp, Yv, Yr, Ym, Yo, Ca, Yq⟩ := (aa HO).box _ _ (List.Mem.head _)
 have Hf := ah Ca 0
 have He := ah Ca 1
 have Hd := ah Ca 2
 have Ha := ah Ca 3
 have Ho := lt_of_block Ca
 clear Ca Wq
 go_wp2_with fail
 exact bodyPost_ret (v := .agg #[.slice Yw Yn.length Yu, .bool Yp, .slice Yv Ym.length Yr, .bool Yo]) (by simp [results, Tryz.results72, go_sem, Hf, He, Hd, Ha, Ho]) rfl
  ⟨_, rfl, (aa HO).bel, ⟨_, _, _, _, _, _, _, _, rfl, Yq⟩⟩
set_option maxHeartbeats 16000000 in
theorem avi (x y : Rat) (o : Int) (w : World) (u1 u2 : Value) (h1 : Bu x w u1) (h2 : Bu y w u2)
  (axb : ∀ (W : World) (v0 : Value), Bu (y) W v0 → Calls Tryz.prog 117 #[v0] W (jh (Dr (y.den)) W))
  (hm1 : ∀ (W : World) (v0 v1 : Value), Dr (x.num) W v0 → Dr (y.den) W v1 → Calls Tryz.prog 120 #[v0, v1] W (jh (Dr (x.num * (y.den : Int))) W))
  (axa : ∀ (W : World) (v0 : Value), Bu (x) W v0 → Calls Tryz.prog 117 #[v0] W (jh (Dr (x.den)) W))
  (hm2 : ∀ (W : World) (v0 v1 : Value), Dr (y.num) W v0 → Dr (x.den) W v1 → Calls Tryz.prog 120 #[v0, v1] W (jh (Dr (y.num * (x.den : Int))) W))
  (hc : ∀ (W : World) (v0 v1 : Value), Dr (x.num * (y.den : Int)) W v0 → Dr (y.num * (x.den : Int)) W v1 → Calls Tryz.prog 140 #[v0, v1] W (jh (Rg.bf (.int .i64 o)) W)) :
  Calls Tryz.prog 71 #[u1, u2] w (jh (Rg.bf (.int .i64 o)) w) := by
 obtain ⟨A1, c1, l1, m1, A2, c2, l2, m2, rfl, hq1⟩ := h1
 obtain ⟨A3, c3, l3, m3, A4, c4, l4, m4, rfl, hq3⟩ := h2
 have bev := hide axb
 have blg := hide hm1
 have beu := hide axa
 have blf := hide hm2
 have HHC := hide hc
 clear axb hm1 axa hm2 hc
 go_enter Tryz.func71, Tryz.ntmps71
 go_upto_region 1 with fail
 have hO := (Own.push (Own.push (Own.nil w) (hq1.below (Below.refl _ _)) (w.heap.size) rfl) (hq3.below (by repeat (first | exact Below.refl _ _ | refine ja ?_ _))) (w.heap.size + 1) (by simp only [World.size_alloc]))
 generalize (w.alloc (.cells #[.slice A1 l1.length c1, .bool m1, .slice A2 l2.length c2, .bool m2] 63)).alloc (.cells #[.slice A3 l3.length c3, .bool m3, .slice A4 l4.length c4, .bool m4] 63) = W0 at *
 have HO := hide hO
 clear hO
 go_upto_region 1 with fail
 refine Rg.region 12 16 (Rg.pick [Rg.bf (.pointer (some ⟨w.heap.size, 0, none⟩)), Dr (x).num, Bu (y), Dr (y.den : Int), Dr (x.num * (y.den : Int)), Rg.bf (.pointer (some ⟨w.heap.size + 1, 0, none⟩)), Dr (y).num, Bu (x), Dr (x.den : Int), Dr (y.num * (x.den : Int)), Rg.bf (.int .i64 o), Rg.bf (.int .i64 o)]) (ay w [(w.heap.size + 1, y), (w.heap.size, x)] W0) ik [] kr kr rfl (Rg.gm.pick ⟨Rg.ag _, Jq _, Xp _, Jq _, Jq _, Rg.ag _, Jq _, Xp _, Jq _, Jq _, Rg.ag _, Rg.ag _, trivial⟩) (ay.start (aa HO))
  (Rg.bg (Rg.plain rfl (ajq rfl (Rg.cz kr rfl) rfl))
   (Rg.bg (Rg.plain rfl (ajp rfl (Rg.ax 0 kr) (fun W h => ay.box (List.Mem.tail _ (List.Mem.head _)) h) rfl))
   (Rg.bg (Rg.plain rfl (aco rfl (Rg.cz kr rfl) (fun W h => ay.box (List.Mem.head _) h) rfl))
   (Rg.bg (Rg.plain rfl (jf Tryz.func117 kr rfl ay.step (Rg.ax 2 kr) (fun W v0 hG h0 => aa bev W v0 h0)))
   (Rg.bg (Rg.plain rfl (iw Tryz.func120 kr rfl ay.step (Rg.ax 1 kr) (Rg.ax 3 kr) (fun W v0 v1 hG h0 h1 => aa blg W v0 v1 h0 h1)))
   (Rg.bg (Rg.plain rfl (ajq rfl (Rg.cz kr rfl) rfl))
   (Rg.bg (Rg.plain rfl (ajp rfl (Rg.ax 5 kr) (fun W h => ay.box (List.Mem.head _) h) rfl))
   (Rg.bg (Rg.plain rfl (aco rfl (Rg.cz kr rfl) (fun W h => ay.box (List.Mem.tail _ (List.Mem.head _)) h) rfl))
   (Rg.bg (Rg.plain rfl (jf Tryz.func117 kr rfl ay.step (Rg.ax 7 kr) (fun W v0 hG h0 => aa beu W v0 h0)))
   (Rg.bg (Rg.plain rfl (iw Tryz.func120 kr rfl ay.step (Rg.ax 6 kr) (Rg.ax 8 kr) (fun W v0 v1 hG h0 h1 => aa blf W v0 v1 h0 h1)))
   (Rg.bg (Rg.plain rfl (iw Tryz.func140 kr rfl ay.step (Rg.ax 4 kr) (Rg.ax 9 kr) (fun W v0 v1 hG h0 h1 => aa HHC W v0 v1 h0 h1)))
   (Rg.bg (Rg.plain rfl (og rfl (Rg.ax 10 kr)))
   Rg.cu)))))))))))) ?_
 intro v V1 hG1 hv hne
 clear hne
 simp only [Rg.puts, List.take_succ_cons, List.take_zero, List.drop_succ_cons, List.drop_zero, Act.put, List.setIfInBounds_toArray, List.set_cons_zero, List.set_cons_succ]
 have e11 : v 11 = .int .i64 o := hv 11 (by decide)
 simp only [e11]
 have hO := hG1.1
 clear hG1
 try clear e11
 try clear hv
 replace HO := hide hO
 clear hO
 have HB := hide (aa HO).bel
 clear HO
 go_wp2_with fail
 all_goals first | go_ret | skip
 exact ⟨_, rfl, aa HB, rfl⟩
theorem aik (x : Rat) (W : World) (v : Value) (h : Bu x W v) : Calls Tryz.prog 117 #[v] W (jh (Dr (x.den : Int)) W) := by
 obtain ⟨A1, c1, l1, m1, A2, c2, l2, m2, rfl, hq⟩ := h
 exact (Qu A1 c1 l1 m1 A2 c2 l2 m2 x W hq).mono (fun e w' => Vk)
theorem bfw (W : World) : Calls Tryz.prog 129 #[] W (jh (Dr 1) W) := (Tu W).mono (fun e w' => Vk)
theorem aqw {a b : Int} {K : Nat} (ha : Wd.Sz dm K a) (hb : Wd.Sz dm K b) (hK : 4 * K + 4 ≤ 35184372088832) (W : World) (v0 v1 : Value) (h0 : Dr a W v0) (h1 : Dr b W v1) : Calls Tryz.prog 120 #[v0, v1] W (jh (Dr (a * b)) W) := by
 obtain ⟨A1, c1, l1, m1, rfl, f1⟩ := h0
 obtain ⟨A2, c2, l2, m2, rfl, f2⟩ := h1
 exact (afo A1 c1 l1 m1 a A2 c2 l2 m2 b W f1 f2 (by have := f1.len ha; have := f2.len hb; omega)).mono (fun e w' => Vk)
theorem bdd {a b : Int} (W : World) (v0 v1 : Value) (h0 : Dr a W v0) (h1 : Dr b W v1) : Calls Tryz.prog 140 #[v0, v1] W (jh (Rg.bf (.int .i64 (jw (a - b)))) W) := by
 obtain ⟨A1, c1, l1, m1, rfl, f1⟩ := h0
 obtain ⟨A2, c2, l2, m2, rfl, f2⟩ := h1
 exact (asr A1 c1 l1 m1 a A2 c2 l2 m2 b W f1 f2).mono (fun e w' h => ⟨_, h.1, h.2, rfl⟩)
theorem Rf (x : Rat) (W : World) (v : Value) (h : Bu x W v) : Calls Tryz.prog 72 #[v] W (jh (Bu (Rat.divInt (x.den : Int) 1)) W) :=
 avg x _ W v h (Wd.Er _).1.symm (Wd.Er _).2.symm (fun W v h => aik x W v h) bfw
theorem Ik {x y : Rat} {K : Nat} (sx : Wd.za dm K x) (sy : Wd.za dm K y) (hK : 4 * K + 4 ≤ 35184372088832) (W : World) (v0 v1 : Value) (h0 : Bu x W v0) (h1 : Bu y W v1) : Calls Tryz.prog 71 #[v0, v1] W (jh (Rg.bf (.int .i64 (jw (x.num * (y.den : Int) - y.num * (x.den : Int))))) W) :=
 avi x y _ W v0 v1 h0 h1 (fun W v h => aik y W v h) (fun W v0 v1 h0 h1 => aqw sx.1 sy.2 hK W v0 v1 h0 h1) (fun W v h => aik x W v h) (fun W v0 v1 h0 h1 => aqw sy.1 sx.2 hK W v0 v1 h0 h1) (fun W v0 v1 h0 h1 => bdd W v0 v1 h0 h1)
theorem bfx (n : Int) (b1 : -9223372036854775808 ≤ n) (b2 : n ≤ 9223372036854775807) (W : World) : Calls Tryz.prog 80 #[.int .i64 n] W (jh (Bu (Rat.divInt n 1)) W) :=
 (afq n _ W b1 b2 (Wd.Er n).1.symm (Wd.Er n).2.symm).mono (fun e w' => Iy)
theorem afj {x y : Rat} {K : Nat} (sx : Wd.za dm K x) (sy : Wd.za dm K y) (hK : 4 * K + 4 ≤ 35184372088832)  (W : World) (v0 v1 : Value) (h0 : Bu x W v0) (h1 : Bu y W v1) : Calls Tryz.prog 50 #[v0, v1] W (jh (Bu (x + y)) W) := by
 obtain ⟨A1, c1, l1, m1, A2, c2, l2, m2, rfl, f1⟩ := h0
 obtain ⟨A3, c3, l3, m3, A4, c4, l4, m4, rfl, f2⟩ := h1
 exact (ado K A1 c1 l1 m1 A2 c2 l2 m2 A3 c3 l3 m3 A4 c4 l4 m4 x y W f1 f2 sx sy hK).mono (fun e w' => Iy)
theorem afh {x y : Rat} {K : Nat} (sx : Wd.za dm K x) (sy : Wd.za dm K y) (hK : 4 * K + 4 ≤ 35184372088832)  (W : World) (v0 v1 : Value) (h0 : Bu x W v0) (h1 : Bu y W v1) : Calls Tryz.prog 51 #[v0, v1] W (jh (Bu (x - y)) W) := by
 obtain ⟨A1, c1, l1, m1, A2, c2, l2, m2, rfl, f1⟩ := h0
 obtain ⟨A3, c3, l3, m3, A4, c4, l4, m4, rfl, f2⟩ := h1
 exact (anr K A1 c1 l1 m1 A2 c2 l2 m2 A3 c3 l3 m3 A4 c4 l4 m4 x y W f1 f2 sx sy hK).mono (fun e w' => Iy)
theorem Re {x y : Rat} {K : Nat} (sx : Wd.za dm K x) (sy : Wd.za dm K y) (hK : 4 * K + 4 ≤ 35184372088832)  (W : World) (v0 v1 : Value) (h0 : Bu x W v0) (h1 : Bu y W v1) : Calls Tryz.prog 52 #[v0, v1] W (jh (Bu (x * y)) W) := by
 obtain ⟨A1, c1, l1, m1, A2, c2, l2, m2, rfl, f1⟩ := h0
 obtain ⟨A3, c3, l3, m3, A4, c4, l4, m4, rfl, f2⟩ := h1
 exact (ant K A1 c1 l1 m1 A2 c2 l2 m2 A3 c3 l3 m3 A4 c4 l4 m4 x y W f1 f2 sx sy hK).mono (fun e w' => Iy)
theorem bfy {x y : Rat} {K : Nat} (sx : Wd.za dm K x) (sy : Wd.za dm K y) (hK : 4 * K + 4 ≤ 35184372088832) (h0q : y.num ≠ 0) (W : World) (v0 v1 : Value) (h0 : Bu x W v0) (h1 : Bu y W v1) : Calls Tryz.prog 54 #[v0, v1] W (jh (Bu (x / y)) W) := by
 obtain ⟨A1, c1, l1, m1, A2, c2, l2, m2, rfl, f1⟩ := h0
 obtain ⟨A3, c3, l3, m3, A4, c4, l4, m4, rfl, f2⟩ := h1
 exact (adn K A1 c1 l1 m1 A2 c2 l2 m2 A3 c3 l3 m3 A4 c4 l4 m4 x y W f1 f2 sx sy hK h0q).mono (fun e w' => Iy)
theorem Yh {x : Rat} {K : Nat} (sx : Wd.za dm K x) (hK : 4 * K + 4 ≤ 35184372088832) (W : World) (v0 : Value) (h0 : Bu x W v0) : Calls Tryz.prog 63 #[v0] W (jh (Bu (Rat.divInt (x.num / (x.den : Int)) 1)) W) := by
 obtain ⟨A1, c1, l1, m1, A2, c2, l2, m2, rfl, f1⟩ := h0
 exact (Yx K A1 c1 l1 m1 A2 c2 l2 m2 x W f1 sx hK).mono (fun e w' => Iy)
theorem axe {x : Rat} (W : World) (v0 : Value) (h0 : Bu x W v0) : Calls Tryz.prog 121 #[v0] W (jh (Bu (-x)) W) := by
 obtain ⟨A1, c1, l1, m1, A2, c2, l2, m2, rfl, f1⟩ := h0
 exact (Qt A1 c1 l1 m1 A2 c2 l2 m2 x W f1).mono (fun e w' => Iy)

end Go.Proofs.YtjdnmdlnaoedoaaGreatDoor
namespace Go.Proofs.YtjdnmdlnaoedoaaGreatDoor
open Go.RowKit


theorem alv {n d : Int} (h : Wd.xz n d) : -9223372036854775808 ≤ n ∧ n ≤ 9223372036854775807 ∧ -9223372036854775808 ≤ d ∧ d ≤ 9223372036854775807 ∧ d ≠ 0 := by
 obtain ⟨r1, r2, r3, r4, _⟩ := h
 exact ⟨by omega, by omega, by omega, by omega, by omega⟩
theorem ayx {n d : Int} (h : Wd.xz n d) : Wd.za dm 2 (Wd.qR n d) := by
 obtain ⟨a1, a2⟩ := Wd.Oh h
 obtain ⟨r1, r2, r3, r4, _⟩ := h
 unfold Wd.za Wd.Sz
 rw [a1, a2, gp]
 exact ⟨by omega, by omega⟩
theorem bfl {n d : Int} (h : Wd.xz n d) (W : World) : Calls Tryz.prog 48 #[(Value.agg #[.int .i64 n, .int .i64 d])] W fun e w' => QR W (Wd.qR n d) e w' := by
 obtain ⟨b1, b2, b3, b4, b5⟩ := alv h
 exact axy n d W b1 b2 b3 b4 b5
end Go.Proofs.YtjdnmdlnaoedoaaGreatDoor
namespace Go.Proofs.YtjdnmdlnaoedoaaGreatDoor
open Go.RowKit

set_option maxHeartbeats 2000000 in
theorem ads (A1 : Option Addr) (c1 : Nat) (l1 : List Nat) (m1 : Bool) (A2 : Option Addr) (c2 : Nat) (l2 : List Nat) (m2 : Bool) (q : Rat) (w : World) (h : QV w A1 c1 l1 m1 A2 c2 l2 m2 q) :
  Calls Tryz.prog 102 #[.agg #[.slice A1 l1.length c1, .bool m1, .slice A2 l2.length c2, .bool m2]] w fun e w' => bky w q e w' := by
 have ru := hide (fun W (hW : Below w.heap.size w W) => aas A1 c1 l1 m1 q.num W (h.num.below hW))
 have HS2 := hide (fun A c l m W (f : je W A c l m (q.den : Int)) => aas A c l m (q.den : Int) W f)
 have HD := hide (fun W (hW : Below w.heap.size w W) => Qu A1 c1 l1 m1 A2 c2 l2 m2 q W (h.below hW))
 have ht : (Wd.fits q → Wd.told q = ⟨q.num, q.den, 0⟩) ∧ (¬ Wd.fits q → Wd.told q = ⟨0, 0, 3⟩) := ⟨fun h => if_pos h, fun h => if_neg h⟩
 have hfi : Wd.fits q ↔ q.num.natAbs ≤ 1000000000000 ∧ q.den ≤ 1000000000000 := Iff.rfl
 have HT := hide (And.intro ht hfi)
 clear h ht hfi
 go_enter Tryz.func102, Tryz.ntmps102
 go_wp2_with fail
 obtain ⟨n0, n1, hsz, hw0⟩ := wy w (.cells #[.slice A1 l1.length c1, .bool m1, .slice A2 l2.length c2, .bool m2] 63) (.cells #[.int .i64 0, .int .i64 0] 23)
 generalize ((w.alloc (.cells #[.slice A1 l1.length c1, .bool m1, .slice A2 l2.length c2, .bool m2] 63)).alloc (.cells #[.int .i64 0, .int .i64 0] 23)) = W0 at *
 have k0 : W0.cell? ⟨w.heap.size, 0, none⟩ = some (.slice A1 l1.length c1) := ah n0 0
 have k1 : W0.cell? ⟨w.heap.size, 1, none⟩ = some (.bool m1) := ah n0 1
 have k2 : W0.cell? ⟨w.heap.size, 2, none⟩ = some (.slice A2 l2.length c2) := ah n0 2
 have k3 : W0.cell? ⟨w.heap.size, 3, none⟩ = some (.bool m2) := ah n0 3
 have p0 : W0.cell? ⟨w.heap.size + 1, 0, none⟩ = some (.int .i64 0) := ah n1 0
 have p1 : W0.cell? ⟨w.heap.size + 1, 1, none⟩ = some (.int .i64 0) := ah n1 1
 have v0 := az n1 0; have v1 := az n1 1
 have q0 := lt_of_block n0; have q1 := lt_of_block n1
 clear n0 n1 hsz
 refine ((aa ru) _ hw0).mono ?_
 rintro e W1 ⟨x1, ok1, rfl, hok1, hx1, hb1⟩
 obtain ⟨hc1, hf1⟩ := dz hb1
 have hw1 := bz hw0 hb1
 have OK1 := Lib.hid hok1; have X1 := hide hx1; have HB1 := hide hb1; have HW1 := hide hw1
 clear hok1 hx1 hb1 hw1
 go_wp2_with fail
 refine ((aa HD) _ (aa HW1)).mono ?_
 rintro e W2 ⟨A9, c9, l9, m9, rfl, f9, hb2⟩
 have F9 := hide f9
 clear f9
 have hb2' := bz (aa HB1) hb2
 obtain ⟨hc2, hf2⟩ := dz hb2'
 have hw2 := bz hw0 hb2'
 have HB2 := hide hb2'; have HW2 := hide hw2
 clear hb2 hb2' hw2 hc1 hf1
 go_wp2_with fail
 refine ((aa HS2) A9 c9 l9 m9 _ (aa F9)).mono ?_
 rintro e W3 ⟨x2, ok2, rfl, hok2, hx2, hb3⟩
 have ada := bz (aa HB2) hb3
 obtain ⟨hc3, hf3⟩ := dz ada
 have hw3 := bz hw0 ada
 have OK2 := Lib.hid hok2; have X2 := hide hx2; have HW3 := hide hw3
 have hg9 : ∀ u0 u1 : Value, Below w.heap.size w ((W3.setCell ⟨w.heap.size + 1, 0, none⟩ u0).setCell ⟨w.heap.size + 1, 1, none⟩ u1) := fun u0 u1 => hw3.grown (nk _ _ _ _) hw3.size (fun k hk => by injection hk with hk; omega)
 have HG9 := hide hg9
 clear hok2 hx2 hb3 ada hw3 hc2 hf2 hg9 ru HS2 HD HB1 HB2 HW1 HW2
 cases ok1 <;> cases ok2
 ·
  have hn : ¬ Wd.fits q := fun h => by have := (aa HT).2.1 h; have h2 := of_decide_eq_false OK1.out.symm; omega
  have HN := Lib.hid ((aa HT).1.2 hn)
  clear hn
  go_wp2_with fail
  exact bodyPost_ret (v := .tuple #[.agg #[.int .i64 0, .int .i64 0], .bool false]) (by simp [results, Tryz.results102, go_sem, hc3, p0, p1, q1]) rfl ⟨0, 0, false, rfl, (aa HG9) _ _, .inr ⟨rfl, HN.out⟩⟩
 ·
  have hn : ¬ Wd.fits q := fun h => by have := (aa HT).2.1 h; have h2 := of_decide_eq_false OK1.out.symm; omega
  have HN := Lib.hid ((aa HT).1.2 hn)
  clear hn
  go_wp2_with fail
  exact bodyPost_ret (v := .tuple #[.agg #[.int .i64 0, .int .i64 0], .bool false]) (by simp [results, Tryz.results102, go_sem, hc3, p0, p1, q1]) rfl ⟨0, 0, false, rfl, (aa HG9) _ _, .inr ⟨rfl, HN.out⟩⟩
 ·
  have hn : ¬ Wd.fits q := fun h => by have := (aa HT).2.1 h; have h2 := of_decide_eq_false OK2.out.symm; omega
  have HN := Lib.hid ((aa HT).1.2 hn)
  clear hn
  go_wp2_with fail
  exact bodyPost_ret (v := .tuple #[.agg #[.int .i64 0, .int .i64 0], .bool false]) (by simp [results, Tryz.results102, go_sem, hc3, p0, p1, q1]) rfl ⟨0, 0, false, rfl, (aa HG9) _ _, .inr ⟨rfl, HN.out⟩⟩
 ·
  have e1 := (aa X1) rfl
  have e2 := (aa X2) rfl
  subst e1 e2
  by_cases hfit : Wd.fits q
  ·
   have HN := Lib.hid ((aa HT).1.1 hfit)
   obtain ⟨a1, a2⟩ := (aa HT).2.1 hfit
   have d1 : decide (q.num < -1000000000000) = false := decide_eq_false om
   have d2 : decide (1000000000000 < q.num) = false := decide_eq_false om
   have d3 : decide ((1000000000000 : Int) < (q.den : Int)) = false := decide_eq_false om
   clear hfit
   go_wp2_with fail
   all_goals first | omega | skip
   exact bodyPost_ret (v := .tuple #[.agg #[.int .i64 q.num, .int .i64 q.den], .bool true]) (by simp [results, Tryz.results102, go_sem, hc3, p0, p1, q1]) rfl ⟨q.num, q.den, true, rfl, (aa HG9) _ _, .inl ⟨rfl, HN.out⟩⟩
  ·
   have HN := Lib.hid ((aa HT).1.2 hfit)
   have hor : q.num < -1000000000000 ∨ 1000000000000 < q.num ∨ (1000000000000 : Int) < (q.den : Int) := by
    have h1 := (aa HT).2.2
    by_cases a : q.num < -1000000000000
    ·
     exact .inl a
    by_cases b : 1000000000000 < q.num
    ·
     exact .inr (.inl b)
    by_cases c : (1000000000000 : Int) < (q.den : Int)
    ·
     exact .inr (.inr c)
    exact absurd (h1 ⟨by omega, by omega⟩) hfit
   clear hfit
   go_wp2_with fail
   all_goals first | omega | skip
   all_goals exact bodyPost_ret (v := .tuple #[.agg #[.int .i64 0, .int .i64 0], .bool false]) (by simp [results, Tryz.results102, go_sem, hc3, p0, p1, q1]) rfl ⟨0, 0, false, rfl, (aa HG9) _ _, .inr ⟨rfl, HN.out⟩⟩
end Go.Proofs.YtjdnmdlnaoedoaaGreatDoor
namespace Go.Proofs.YtjdnmdlnaoedoaaGreatDoor
open Go.RowKit

namespace Sb
theorem Yj {W : World} {x : Rat} {v : Value} (h : ai [.r x] W v) : ∃ A1 c1 l1 m1 A2 c2 l2 m2, v = .agg #[.slice A1 (List.length l1) c1, .bool m1, .slice A2 (List.length l2) c2, .bool m2] ∧ QV W A1 c1 l1 m1 A2 c2 l2 m2 x := by
 obtain ⟨cs, rfl, h⟩ := h
 obtain ⟨A1, c1, l1, m1, A2, c2, l2, m2, r, rfl, h1, h⟩ := h.Xt
 cases h
 exact ⟨_, _, _, _, _, _, _, _, rfl, h1⟩
theorem Hr {W : World} {x y : Rat} {v : Value} (h : ai [.r x, .r y] W v) : ∃ A1 c1 l1 m1 A2 c2 l2 m2 A3 c3 l3 m3 A4 c4 l4 m4, v = .agg #[.slice A1 (List.length l1) c1, .bool m1, .slice A2 (List.length l2) c2, .bool m2, .slice A3 (List.length l3) c3, .bool m3, .slice A4 (List.length l4) c4, .bool m4] ∧ QV W A1 c1 l1 m1 A2 c2 l2 m2 x ∧ QV W A3 c3 l3 m3 A4 c4 l4 m4 y := by
 obtain ⟨cs, rfl, h⟩ := h
 obtain ⟨A1, c1, l1, m1, A2, c2, l2, m2, r, rfl, h1, h⟩ := h.Xt
 obtain ⟨A3, c3, l3, m3, A4, c4, l4, m4, r, rfl, h2, h⟩ := h.Xt
 cases h
 exact ⟨_, _, _, _, _, _, _, _, _, _, _, _, _, _, _, _, rfl, h1, h2⟩
theorem Ku {W : World} {x : Rat} {v : Value} (h : ai [.r x] W v) : Bu x W v := by
 obtain ⟨A1, c1, l1, m1, A2, c2, l2, m2, rfl, h1⟩ := Yj h
 exact ⟨_, _, _, _, _, _, _, _, rfl, h1⟩
theorem bfk {W : World} {x : Rat} {v : Value} (h : Bu x W v) : ai [.r x] W v := by
 obtain ⟨A1, c1, l1, m1, A2, c2, l2, m2, rfl, h1⟩ := h
 exact ⟨_, rfl, ek.r h1 rfl⟩
theorem Kw {w w' : World} {q : Rat} {e : Ending} (h : jh (Bu q) w e w') : jh (ai [.r q]) w e w' := by
 obtain ⟨u, h1, h2, h3⟩ := h
 exact ⟨u, h1, h2, bfk h3⟩
def ou (K : Nat) (x : Rat) : Prop := Wd.za dm K x ∧ K ≤ 1000000
theorem Jr {n d : Int} (ok : Wd.xz n d) : ou 2 (Wd.qR n d) := ⟨ayx ok, by omega⟩
def Cw : World → Value → Prop := fun W v => ∃ n d : Int, ai [.v (.int .i64 n), .v (.int .i64 d)] W v
theorem Dc : Rg.Ez ik Cw := fun w w' v hb ⟨n, d, h⟩ => ⟨n, d, au _ _ _ _ hb h⟩
variable {W : World} {v0 v1 : Value} {x y : Rat} {K : Nat}
theorem Ig (hx : ou K x) (hy : ou K y) (h0 : ai [.r x] W v0) (h1 : ai [.r y] W v1) : Calls Tryz.prog 71 #[v0, v1] W (jh (Rg.bf (.int .i64 (jw (x.num * y.den - y.num * x.den)))) W) :=
 Go.Proofs.YtjdnmdlnaoedoaaGreatDoor.Ik hx.1 hy.1 (by have := hx.2; omega) W v0 v1 (Ku h0) (Ku h1)
theorem Xr (hx : ou K x) (hy : ou K y) (h0 : ai [.r x] W v0) (h1 : ai [.r y] W v1) : Calls Tryz.prog 52 #[v0, v1] W (jh (ai [.r (x * y)]) W) :=
 (Go.Proofs.YtjdnmdlnaoedoaaGreatDoor.Re hx.1 hy.1 (by have := hx.2; omega) W v0 v1 (Ku h0) (Ku h1)).mono fun e w' h => Kw h
theorem awk (hx : ou K x) (hy : ou K y) (h0 : ai [.r x] W v0) (h1 : ai [.r y] W v1) : Calls Tryz.prog 50 #[v0, v1] W (jh (ai [.r (x + y)]) W) :=
 (Go.Proofs.YtjdnmdlnaoedoaaGreatDoor.afj hx.1 hy.1 (by have := hx.2; omega) W v0 v1 (Ku h0) (Ku h1)).mono fun e w' h => Kw h
theorem acr {n d : Int} (ok : Wd.xz n d) (h0 : ai [.v (.int .i64 n), .v (.int .i64 d)] W v0) : Calls Tryz.prog 48 #[v0] W (jh (ai [.r (Wd.qR n d)]) W) := by
 rw [Xa h0]
 exact (bfl ok W).mono fun e w' h => Kw (Iy h)
theorem Zr {n d : Int} (h0 : ai [.v (.int .i64 n), .v (.int .i64 d)] W v0) : Calls Tryz.prog 60 #[v0] W (jh (Rg.bf (.bool (decide (Wd.xz n d)))) W) := by
 rw [Xa h0]
 exact (axz n d W).mono fun e w' h => Wx h
theorem Ua (hf : Wd.fits x) (h0 : ai [.r x] W v0) : Calls Tryz.prog 102 #[v0] W (jh (tq [ai [.v (.int .i64 x.num), .v (.int .i64 (x.den : Int))], Rg.bf (.bool true)]) W) := by
 obtain ⟨A1, c1, l1, m1, A2, c2, l2, m2, rfl, h1⟩ := Yj h0
 refine (ads A1 c1 l1 m1 A2 c2 l2 m2 x W h1).mono fun e w' ⟨n, d, ok, he, hb, hc⟩ => ?_
 have ht : Wd.told x = ⟨x.num, x.den, 0⟩ := if_pos hf
 rw [ht] at hc
 rcases hc with ⟨rfl, h2⟩ | ⟨_, h2⟩
 ·
  injection h2 with e1 e2 e3
  subst e1 e2
  exact ⟨_, he, hb, [_, _], rfl, _, _, rfl, Va _ _ _, _, _, rfl, rfl, rfl⟩
 ·
  injection h2 with e1 e2 e3
  omega
theorem Ub (hf : ¬ Wd.fits x) (h0 : ai [.r x] W v0) : Calls Tryz.prog 102 #[v0] W (jh (tq [Cw, Rg.bf (.bool false)]) W) := by
 obtain ⟨A1, c1, l1, m1, A2, c2, l2, m2, rfl, h1⟩ := Yj h0
 refine (ads A1 c1 l1 m1 A2 c2 l2 m2 x W h1).mono fun e w' ⟨n, d, ok, he, hb, hc⟩ => ?_
 have ht : Wd.told x = ⟨0, 0, 3⟩ := if_neg hf
 rw [ht] at hc
 rcases hc with ⟨_, h2⟩ | ⟨rfl, h2⟩
 ·
  injection h2 with e1 e2 e3
  omega
 ·
  exact ⟨_, he, hb, [_, _], rfl, _, _, rfl, ⟨n, d, Va _ _ _⟩, _, _, rfl, rfl, rfl⟩
theorem Dh : Jd Tryz.prog 100 8 := by
 intro ρ w d x b off us ty pos af gd hl hc hx
 match us, hl with
 | [u0, u1, u2, u3, u4, u5, u6, u7], _ =>
 have k0 : w.cell? ⟨b, off, none⟩ = some u0 := hc 0 om
 have k1 : w.cell? ⟨b, off + 1, none⟩ = some u1 := hc 1 om
 have k2 : w.cell? ⟨b, off + 2, none⟩ = some u2 := hc 2 om
 have k3 : w.cell? ⟨b, off + 3, none⟩ = some u3 := hc 3 om
 have k4 : w.cell? ⟨b, off + 4, none⟩ = some u4 := hc 4 om
 have k5 : w.cell? ⟨b, off + 5, none⟩ = some u5 := hc 5 om
 have k6 : w.cell? ⟨b, off + 6, none⟩ = some u6 := hc 6 om
 have k7 : w.cell? ⟨b, off + 7, none⟩ = some u7 := hc 7 om
 clear hc
 simp only [execOp, hx]
 simp [go_sem, k0, k1, k2, k3, k4, k5, k6, k7]
theorem Cy : Db Tryz.prog 100 8 := by
 intro ρ w d p x b off cs TB us ty pos af gd hl hu hb ho hp hx
 match us, hl with
 | [u0, u1, u2, u3, u4, u5, u6, u7], _ =>
 have o0 := hu u0 (by simp)
 have o1 := hu u1 (by simp)
 have o2 := hu u2 (by simp)
 have o3 := hu u3 (by simp)
 have o4 := hu u4 (by simp)
 have o5 := hu u5 (by simp)
 have o6 := hu u6 (by simp)
 have o7 := hu u7 (by simp)
 have f0 : w.frozen? ⟨b, off, none⟩ = false := az hb _
 have f1 : w.frozen? ⟨b, off + 1, none⟩ = false := az hb _
 have f2 : w.frozen? ⟨b, off + 2, none⟩ = false := az hb _
 have f3 : w.frozen? ⟨b, off + 3, none⟩ = false := az hb _
 have f4 : w.frozen? ⟨b, off + 4, none⟩ = false := az hb _
 have f5 : w.frozen? ⟨b, off + 5, none⟩ = false := az hb _
 have f6 : w.frozen? ⟨b, off + 6, none⟩ = false := az hb _
 have f7 : w.frozen? ⟨b, off + 7, none⟩ = false := az hb _
 obtain ⟨c0, k0⟩ : ∃ c, w.cell? ⟨b, off, none⟩ = some c := ny hb om
 obtain ⟨c1, k1⟩ : ∃ c, w.cell? ⟨b, off + 1, none⟩ = some c := ny hb om
 obtain ⟨c2, k2⟩ : ∃ c, w.cell? ⟨b, off + 2, none⟩ = some c := ny hb om
 obtain ⟨c3, k3⟩ : ∃ c, w.cell? ⟨b, off + 3, none⟩ = some c := ny hb om
 obtain ⟨c4, k4⟩ : ∃ c, w.cell? ⟨b, off + 4, none⟩ = some c := ny hb om
 obtain ⟨c5, k5⟩ : ∃ c, w.cell? ⟨b, off + 5, none⟩ = some c := ny hb om
 obtain ⟨c6, k6⟩ : ∃ c, w.cell? ⟨b, off + 6, none⟩ = some c := ny hb om
 obtain ⟨c7, k7⟩ : ∃ c, w.cell? ⟨b, off + 7, none⟩ = some c := ny hb om
 have hlt := lt_of_block hb
 clear hb ho hu
 simp only [execOp, hp, hx, setM]
 simp [go_sem, hlt, run_store _ _ _ _ _ o0, o0, run_store _ _ _ _ _ o1, o1, run_store _ _ _ _ _ o2, o2, run_store _ _ _ _ _ o3, o3, run_store _ _ _ _ _ o4, o4, run_store _ _ _ _ _ o5, o5, run_store _ _ _ _ _ o6, o6, run_store _ _ _ _ _ o7, o7, k0, k1, k2, k3, k4, k5, k6, k7, f0, f1, f2, f3, f4, f5, f6, f7]
theorem afd : Le Tryz.prog 100 [.slice none 0 0, .bool false, .slice none 0 0, .bool false, .slice none 0 0, .bool false, .slice none 0 0, .bool false] := by
 intro ρ w d ty pos af gd
 simp only [execOp]
 simp [go_sem]
theorem Me : Lg Tryz.prog 100 8 := by
 intro w b off us hl hc
 match us, hl with
 | [u0, u1, u2, u3, u4, u5, u6, u7], _ =>
 have k0 : w.cell? ⟨b, off, none⟩ = some u0 := hc 0 om
 have k1 : w.cell? ⟨b, off + 1, none⟩ = some u1 := hc 1 om
 have k2 : w.cell? ⟨b, off + 2, none⟩ = some u2 := hc 2 om
 have k3 : w.cell? ⟨b, off + 3, none⟩ = some u3 := hc 3 om
 have k4 : w.cell? ⟨b, off + 4, none⟩ = some u4 := hc 4 om
 have k5 : w.cell? ⟨b, off + 5, none⟩ = some u5 := hc 5 om
 have k6 : w.cell? ⟨b, off + 6, none⟩ = some u6 := hc 6 om
 have k7 : w.cell? ⟨b, off + 7, none⟩ = some u7 := hc 7 om
 clear hc
 simp [go_sem, k0, k1, k2, k3, k4, k5, k6, k7]
theorem Pb : Tk Tryz.prog 100 4 4 := by
 intro ρ w d x y us vs ty pos af gd h1 h2 e1 e2
 match us, h1, vs, h2 with
 | [u0, u1, u2, u3], _, [v0, v1, v2, v3], _ =>
 simp only [execOp]
 simp [go_sem, e1, e2]
 try rfl
theorem avp : aiz Tryz.prog 63 [.slice none 0 0, .bool false, .slice none 0 0, .bool false] := by
 intro ρ w d ty pos af gd
 simp only [execOp]
 simp [go_sem]
 try rfl
theorem amu : Yl Tryz.prog 154 63 4 4 := by
 intro ρ w d ps cs ty pos af gd hm h
 match ps, hm with
 | [(i0, x0), (i1, x1), (i2, x2), (i3, x3)], _ =>
 obtain ⟨us0, r0, rfl, l0, e0, g0, h⟩ := h
 obtain ⟨us1, r1, rfl, l1, e1, g1, h⟩ := h
 obtain ⟨us2, r2, rfl, l2, e2, g2, h⟩ := h
 obtain ⟨us3, r3, rfl, l3, e3, g3, h⟩ := h
 cases h
 match us0, l0 with
 | [beb, bea, bdz, bdy], _ =>
 match us1, l1 with
 | [bdx, bdw, bdv, bdu], _ =>
 match us2, l2 with
 | [bku, bkt, bks, bkr], _ =>
 match us3, l3 with
 | [bpo, bpn, bpm, bpl], _ =>
 dsimp only at e0 e1 e2 e3 g0 g1 g2 g3
 subst e0 e1 e2 e3
 simp only [execOp]
 simp [go_sem, g0, g1, g2, g3]
 try rfl
theorem azm : Jf Tryz.prog (fun x => .fieldAddr 100 x 0) 0 := by
 intro a w d x b off ty pos af gd hx
 have hc : ∀ v, a.eval (.const v) = v := fun _ => rfl
 simp only [execOp, hx, hc]
 simp [go_sem]
theorem xu {Q : Exit → Act → World → Prop} {l : List Oper} {n : Nat} {T : Nat → World → Value → Prop} {G : World → Prop} {al : List Nat} {a0 : Act} {k d : Nat} {ty : TypeId} {pos : String} {af : Array Edge} {gd : Option (Nat × Bool)} {b off off' : Nat} {x : Operand} (hal : al.contains k = false) (hx : Rg.mo l n T a0 k x (Rg.bf (.pointer (some ⟨b, off, none⟩)))) (ho : off + 0 = off') (hT : T k = Rg.bf (.pointer (some ⟨b, off', none⟩))) :
  Rg.Step Tryz.prog Q l n T G ik al a0 k { dst := some d, op := .fieldAddr 100 x 0, type := ty, pos := pos, after := af, guard := gd } := by
 exact Kv (P := Tryz.prog) (o := fun x => .fieldAddr 100 x 0) azm hal hx ho hT
theorem azl : Jf Tryz.prog (fun x => .fieldAddr 100 x 1) 4 := by
 intro a w d x b off ty pos af gd hx
 have hc : ∀ v, a.eval (.const v) = v := fun _ => rfl
 simp only [execOp, hx, hc]
 simp [go_sem]
theorem vw {Q : Exit → Act → World → Prop} {l : List Oper} {n : Nat} {T : Nat → World → Value → Prop} {G : World → Prop} {al : List Nat} {a0 : Act} {k d : Nat} {ty : TypeId} {pos : String} {af : Array Edge} {gd : Option (Nat × Bool)} {b off off' : Nat} {x : Operand} (hal : al.contains k = false) (hx : Rg.mo l n T a0 k x (Rg.bf (.pointer (some ⟨b, off, none⟩)))) (ho : off + 4 = off') (hT : T k = Rg.bf (.pointer (some ⟨b, off', none⟩))) :
  Rg.Step Tryz.prog Q l n T G ik al a0 k { dst := some d, op := .fieldAddr 100 x 1, type := ty, pos := pos, after := af, guard := gd } := by
 exact Kv (P := Tryz.prog) (o := fun x => .fieldAddr 100 x 1) azl hal hx ho hT
theorem Hl {Q : Exit → Act → World → Prop} {l : List Oper} {n : Nat} {T : Nat → World → Value → Prop} {G : World → Prop} {al : List Nat} {a0 : Act} {k d : Nat} {ty : TypeId} {pos : String} {af : Array Edge} {gd : Option (Nat × Bool)} {b i m : Nat} {x y : Operand} (hal : al.contains k = false) (hx : Rg.mo l n T a0 k x (Rg.bf (.slice (some ⟨b, 0, none⟩) m m))) (hy : Rg.mo l n T a0 k y (Rg.bf (.int .i64 (i : Int)))) (hi : i < m) (hT : T k = Rg.bf (.pointer (some ⟨b, 4 * i, none⟩))) :
  Rg.Step Tryz.prog Q l n T G ik al a0 k { dst := some d, op := .indexAddr 154 x y, type := ty, pos := pos, after := af, guard := gd } := by
 intro a w hG hO hN
 have h1 := hx a w hO hN
 have h2 := hy a w hO hN
 have hr : (execOp a.eval { dst := some d, op := .indexAddr 154 x y, type := ty, pos := pos, after := af, guard := gd }).run Tryz.prog w = .ok (.value (.pointer (some ⟨b, 4 * i, none⟩))) w := by
  have h1' : a.eval x = .slice (some ⟨b, 0, none⟩) m m := h1
  have h2' : a.eval y = .int .i64 (i : Int) := h2
  simp only [execOp, h1', h2']
  simp [go_sem, hi, Nat.mul_comm]
 exact qm (P := Tryz.prog) hr ⟨_, rfl, hG, Below.refl _ _, by rw [hT]; rfl, fun h => by rw [hal] at h; cases h⟩
end Sb

end Go.Proofs.YtjdnmdlnaoedoaaGreatDoor
