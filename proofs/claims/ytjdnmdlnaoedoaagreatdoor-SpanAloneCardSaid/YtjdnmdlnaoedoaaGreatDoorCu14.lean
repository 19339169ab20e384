/- Texts beneath a law of layer 1. -/
import Derived.Test.YtjdnmdlnaoedoaaGreatDoorCu13
set_option maxRecDepth 100000
set_option maxHeartbeats 16000000
namespace Go.Proofs.YtjdnmdlnaoedoaaGreatDoor
open Go.RowKit Sb

namespace Wd
theorem anf (x y : Rat) : x + y = Rat.divInt (x.num * (y.den : Int) + y.num * (x.den : Int)) ((x.den : Int) * (y.den : Int)) := by
 have hx := x.den_nz; have hy := y.den_nz
 conv => lhs; rw [← Rat.num_divInt_den x, ← Rat.num_divInt_den y]
 exact Rat.divInt_add_divInt _ _ om om
theorem alz (x y : Rat) : x * y = Rat.divInt (x.num * y.num) ((x.den : Int) * (y.den : Int)) := by
 conv => lhs; rw [← Rat.num_divInt_den x, ← Rat.num_divInt_den y]
 exact Rat.divInt_mul_divInt _ _
theorem bgj (x y : Rat) : x / y = Rat.divInt (x.num * (y.den : Int)) ((x.den : Int) * y.num) := by
 rw [Rat.div_def]
 conv => lhs; rw [← Rat.num_divInt_den x, Rat.inv_def]
 exact Rat.divInt_mul_divInt _ _
theorem Xi (n : Int) : (Rat.divInt n 1).num = n ∧ (Rat.divInt n 1).den = 1 := by
 have h : Rat.divInt n 1 = (n : Rat) := by
  rw [← Rat.num_divInt_den (n : Rat)]; rfl
 rw [h]
 exact ⟨rfl, rfl⟩
theorem axo {x y : Rat} (hx : (x.den : Int) = 1) (hy : (y.den : Int) = 1) : x.num + y.num = (x + y).num ∧ (x.den : Int) = ((x + y).den : Int) := by
 have h : x + y = Rat.divInt (x.num + y.num) 1 := by
  rw [anf, hx, hy]; simp
 rw [h, (Xi _).1, (Xi _).2]; exact ⟨rfl, hx⟩
theorem aww {x y : Rat} (hx : (x.den : Int) = 1) (hy : (y.den : Int) = 1) : x.num * y.num = (x * y).num ∧ (x.den : Int) = ((x * y).den : Int) := by
 have h : x * y = Rat.divInt (x.num * y.num) 1 := by
  rw [alz, hx, hy]; simp
 rw [h, (Xi _).1, (Xi _).2]; exact ⟨rfl, hx⟩
def Ag (B K : Nat) (q : Rat) : Prop := Sz B K q.num ∧ Sz B K (q.den : Int)
end Wd

theorem Ls {w : World} {a b c : Int} {K L : Nat} (ha : Wd.Sz eu K a) (hb : Wd.Sz eu L b) (hK : K + L ≤ 35184372088832) (e : c = a * b) : awd w 120 a b c := by
 subst e
 exact fun A1 c1 l1 m1 A2 c2 l2 m2 W _ f g => aeu A1 c1 l1 m1 a A2 c2 l2 m2 b W f g (by have := f.len ha; have := g.len hb; omega)
theorem apw {w : World} {a b c : Int} {K L : Nat} (ha : Wd.Sz eu K a) (hb : Wd.Sz eu L b) (hK : K + L + 1 ≤ 35184372088832) (e : c = a + b) : awd w 119 a b c := by
 subst e
 exact fun A1 c1 l1 m1 A2 c2 l2 m2 W _ f g => ass A1 c1 l1 m1 a A2 c2 l2 m2 b W f g (by have := f.len ha; have := g.len hb; omega)
theorem Yq {w : World} {a b : Int} {q : Rat} {K : Nat} (ha : Wd.Sz eu K a) (hb : Wd.Sz eu K b) (h0 : b ≠ 0) (hK : K + 1 ≤ 35184372088832) (e : q = Rat.divInt a b) : bey w 115 a b q := by
 subst e
 exact fun A1 c1 l1 m1 A2 c2 l2 m2 W _ f g => Sn A1 c1 l1 m1 a A2 c2 l2 m2 b K W f g h0 ha hb hK
theorem anz (K : Nat) (A1 : Option Addr) (c1 : Nat) (l1 : List Nat) (m1 : Bool) (A2 : Option Addr) (c2 : Nat) (l2 : List Nat) (m2 : Bool) (A3 : Option Addr) (c3 : Nat) (l3 : List Nat) (m3 : Bool) (A4 : Option Addr) (c4 : Nat) (l4 : List Nat) (m4 : Bool) (x y : Rat) (w : World) (h1 : QV w A1 c1 l1 m1 A2 c2 l2 m2 x) (h2 : QV w A3 c3 l3 m3 A4 c4 l4 m4 y) (sx : Wd.Ag eu K x) (sy : Wd.Ag eu K y) (hK : 4 * K + 4 ≤ 35184372088832) :
  Calls Tryz.prog 50 #[.agg #[.slice A1 l1.length c1, .bool m1, .slice A2 l2.length c2, .bool m2], .agg #[.slice A3 l3.length c3, .bool m3, .slice A4 l4.length c4, .bool m4]] w fun e w' => QR w (x + y) e w' := by
 obtain ⟨d1, q1, g1⟩ := Ta h1
 obtain ⟨d2, q2, g2⟩ := Ta h2
 have hx := x.den_nz; have hy := y.den_nz
 have s1 : Wd.Sz eu (2 * K + 1) (x.num * (y.den : Int) + y.num * (x.den : Int)) := by
  have a := sx.1.mul sy.2; have b := sy.1.mul sx.2
  rw [← Nat.two_mul] at a b
  exact a.add Am b
 have s2 : Wd.Sz eu (2 * K + 1) ((x.den : Int) * (y.den : Int)) := (sx.2.mul sy.2).mono Am om
 have a1 := Ls (w := w) sx.1 sy.2 om rfl
 have a3 := Ls (w := w) sy.1 sx.2 om rfl
 have an := apw (w := w) (sx.1.mul sy.2) (sy.1.mul sx.2) om rfl
 have am := Ls (w := w) sx.2 sy.2 om rfl
 have ar := Yq (w := w) s1 s2 (Int.mul_ne_zero om om) om (Wd.anf x y)
 refine (apn (m1 := x.num * (y.den : Int)) (m2 := y.num * (x.den : Int)) (s := x.num * (y.den : Int) + y.num * (x.den : Int)) (m3 := (x.den : Int) * (y.den : Int)) (a := (x + y).num) (b := ((x + y).den : Int)) w _ g1 _ g2 (Qt w q1) (Qt w q2) (Xn w rfl) (Xn w rfl) ?_).mono fun e w' h => aad h
 by_cases e1 : (x.den : Int) = 1
 ·
  by_cases e2 : (y.den : Int) = 1
  ·
   exact .inl ⟨decide_eq_true e1, decide_eq_true e2, (Wd.axo e1 e2).2, Nl (apw sx.1 sy.1 om (Wd.axo e1 e2).1.symm)⟩
  ·
   exact .inr ⟨.inr ⟨decide_eq_true e1, decide_eq_false e2⟩, Nl a1, Nl a3, Nl an, Nl am, cwq ar⟩
 ·
  exact .inr ⟨.inl (decide_eq_false e1), Nl a1, Nl a3, Nl an, Nl am, cwq ar⟩
theorem Uz (A1 : Option Addr) (c1 : Nat) (l1 : List Nat) (m1 : Bool) (A2 : Option Addr) (c2 : Nat) (l2 : List Nat) (m2 : Bool) (x : Rat) (w : World) (h1 : QV w A1 c1 l1 m1 A2 c2 l2 m2 x) :
  Calls Tryz.prog 121 #[.agg #[.slice A1 l1.length c1, .bool m1, .slice A2 l2.length c2, .bool m2]] w fun e w' => QR w (-x) e w' := by
 obtain ⟨d1, q1, g1⟩ := Ta h1
 exact (apj w _ g1 (Qt w q1) (bec w _)).mono fun e w' h => aad (q := -x) h
end Go.Proofs.YtjdnmdlnaoedoaaGreatDoor
namespace Go.Proofs.YtjdnmdlnaoedoaaGreatDoor
open Go.RowKit Sb

theorem anw (K : Nat) (A1 : Option Addr) (c1 : Nat) (l1 : List Nat) (m1 : Bool) (A2 : Option Addr) (c2 : Nat) (l2 : List Nat) (m2 : Bool) (A3 : Option Addr) (c3 : Nat) (l3 : List Nat) (m3 : Bool) (A4 : Option Addr) (c4 : Nat) (l4 : List Nat) (m4 : Bool) (x y : Rat) (w : World) (h1 : QV w A1 c1 l1 m1 A2 c2 l2 m2 x) (h2 : QV w A3 c3 l3 m3 A4 c4 l4 m4 y) (sx : Wd.Ag eu K x) (sy : Wd.Ag eu K y) (hK : 4 * K + 4 ≤ 35184372088832) :
  Calls Tryz.prog 52 #[.agg #[.slice A1 l1.length c1, .bool m1, .slice A2 l2.length c2, .bool m2], .agg #[.slice A3 l3.length c3, .bool m3, .slice A4 l4.length c4, .bool m4]] w fun e w' => QR w (x * y) e w' := by
 obtain ⟨d1, q1, g1⟩ := Ta h1
 obtain ⟨d2, q2, g2⟩ := Ta h2
 have hx := x.den_nz; have hy := y.den_nz
 have an := Ls (w := w) sx.1 sy.1 om rfl
 have am := Ls (w := w) sx.2 sy.2 om rfl
 have ar := Yq (w := w) (sx.1.mul sy.1) (sx.2.mul sy.2) (Int.mul_ne_zero om om) om (Wd.alz x y)
 refine (apk (s := x.num * y.num) (m3 := (x.den : Int) * (y.den : Int)) (a := (x * y).num) (b := ((x * y).den : Int)) w _ g1 _ g2 (Qt w q1) (Qt w q2) (Xn w rfl) (Xn w rfl) ?_).mono fun e w' h => aad h
 by_cases e1 : (x.den : Int) = 1
 ·
  by_cases e2 : (y.den : Int) = 1
  ·
   exact .inl ⟨decide_eq_true e1, decide_eq_true e2, (Wd.aww e1 e2).2, Nl (Ls sx.1 sy.1 om (Wd.aww e1 e2).1.symm)⟩
  ·
   exact .inr ⟨.inr ⟨decide_eq_true e1, decide_eq_false e2⟩, Nl an, Nl am, cwq ar⟩
 ·
  exact .inr ⟨.inl (decide_eq_false e1), Nl an, Nl am, cwq ar⟩
theorem acs (K : Nat) (A1 : Option Addr) (c1 : Nat) (l1 : List Nat) (m1 : Bool) (A2 : Option Addr) (c2 : Nat) (l2 : List Nat) (m2 : Bool) (A3 : Option Addr) (c3 : Nat) (l3 : List Nat) (m3 : Bool) (A4 : Option Addr) (c4 : Nat) (l4 : List Nat) (m4 : Bool) (x y : Rat) (w : World) (h1 : QV w A1 c1 l1 m1 A2 c2 l2 m2 x) (h2 : QV w A3 c3 l3 m3 A4 c4 l4 m4 y) (sx : Wd.Ag eu K x) (sy : Wd.Ag eu K y) (hK : 4 * K + 4 ≤ 35184372088832) (h0 : y.num ≠ 0) :
  Calls Tryz.prog 54 #[.agg #[.slice A1 l1.length c1, .bool m1, .slice A2 l2.length c2, .bool m2], .agg #[.slice A3 l3.length c3, .bool m3, .slice A4 l4.length c4, .bool m4]] w fun e w' => QR w (x / y) e w' := by
 have hx := x.den_nz
 obtain ⟨d1, q1, g1⟩ := Ta h1
 obtain ⟨d2, q2, g2⟩ := Ta h2
 exact (apm (a := (x / y).num) (b := ((x / y).den : Int)) w _ g1 _ g2 (Qt w q1) (Qt w q2) (Nl (Ls sx.1 sy.2 om rfl)) (Nl (Ls sx.2 sy.1 om rfl)) (cwq (Yq (sx.1.mul sy.2) (sx.2.mul sy.1) (Int.mul_ne_zero om h0) om (Wd.bgj x y)))).mono fun e w' h => aad h
end Go.Proofs.YtjdnmdlnaoedoaaGreatDoor
namespace Go.Proofs.YtjdnmdlnaoedoaaGreatDoor
open Go.RowKit

theorem aqu {a b : Int} (hb : 0 < b) (ha : 0 ≤ a) : a / b = ((a.natAbs / b.natAbs : Nat) : Int) := by
 obtain ⟨n, rfl⟩ := Int.eq_ofNat_of_zero_le ha
 obtain ⟨m, rfl⟩ := Int.eq_ofNat_of_zero_le (Int.le_of_lt hb)
 simp
theorem adq {a b : Int} (hb : 0 < b) (ha : a < 0) : (a.natAbs % b.natAbs = 0 → a / b = -((a.natAbs / b.natAbs : Nat) : Int)) ∧ (a.natAbs % b.natAbs ≠ 0 → a / b = -((a.natAbs / b.natAbs + 1 : Nat) : Int)) := by
 obtain ⟨m, rfl⟩ := Int.eq_ofNat_of_zero_le (Int.le_of_lt hb)
 obtain ⟨n, hn⟩ : ∃ n : Nat, a = -(n : Int) := ⟨a.natAbs, by omega⟩
 subst hn
 have e1 : (-(n : Int)).natAbs = n := by omega
 have e2 : ((m : Nat) : Int).natAbs = m := by omega
 rw [e1, e2]
 have hm : 0 < m := by omega
 have Ci := Nat.mod_add_div n m
 have hlt := Nat.mod_lt n hm
 constructor
 ·
  intro h0
  refine ((Int.ediv_emod_unique (r := 0) hb).2 ⟨?_, by omega, hb⟩).1
  rw [h0, Nat.zero_add] at Ci
  rw [Int.mul_neg, ← Int.natCast_mul, Ci]; omega
 ·
  intro h0
  refine ((Int.ediv_emod_unique (r := (m : Int) - ((n % m : Nat) : Int)) hb).2 ⟨?_, by omega, by omega⟩).1
  rw [Int.mul_neg, ← Int.natCast_mul, Nat.mul_add, Nat.mul_one]
  generalize m * (n / m) = t at *
  omega
theorem asn (w : World) : qo (w.alloc (.cells #[.int .u32 1] 156)) (some ⟨w.heap.size, 0, none⟩) 1 [1] 1 := by
 have hz : ZB .u32 (w.alloc (.cells #[.int .u32 1] 156)) w.heap.size 156 [1] := heap_alloc_new w _
 exact ⟨hz.Et _ hz.lt, by simp, by omega, by intro x hx; rw [List.mem_singleton] at hx; subst hx; exact Am, .inr (by simp), by simp [Wd.val]⟩

theorem aoc (A1 : Option Addr) (c1 : Nat) (l1 : List Nat) (m1 : Bool) (z1 : Int) (A2 : Option Addr) (c2 : Nat) (l2 : List Nat) (m2 : Bool) (z2 : Int) (K : Nat) (w : World) (h1 : ik w A1 c1 l1 m1 z1) (h2 : ik w A2 c2 l2 m2 z2) (hb : 0 < z2) (hK : Wd.Sz eu K z1) (hk : l1.length + 1 ≤ 35184372088832) (hk2 : l2.length + 1 ≤ 35184372088832) (hk3 : K + 3 ≤ 35184372088832) (ha : 0 ≤ z1) :
  Calls Tryz.prog 128 #[(Value.agg #[.slice A1 l1.length c1, .bool m1]), (Value.agg #[.slice A2 l2.length c2, .bool m2])] w fun e w' => Ba w (z1 / z2) e w' := by
 obtain rfl : m1 = false := by rw [h1.sign]; exact decide_eq_false om
 obtain rfl : m2 = false := by rw [h2.sign]; exact decide_eq_false om
 have hv := aqu hb ha
 have HP := hide (fun W (hW : Below w.heap.size w W) => Fb A1 A2 c1 c2 l1 l2 z1.natAbs z2.natAbs W (h1.nat.below hW) (h2.nat.below hW) om om om)
 obtain ⟨p, hp⟩ : ∃ p, p = z1.natAbs / z2.natAbs := ⟨_, rfl⟩
 obtain ⟨r, hr⟩ : ∃ r, r = z1.natAbs % z2.natAbs := ⟨_, rfl⟩
 obtain ⟨z, hz⟩ : ∃ z, z = z1 / z2 := ⟨_, rfl⟩
 have hpK : p + 1 < eu ^ (K + 1) := by
  rw [hp]
  have e1 := Nat.div_le_self z1.natAbs z2.natAbs
  have e2 : eu ^ K < eu ^ (K + 1) := Nat.pow_lt_pow_right Am om
  have e3 : z1.natAbs < eu ^ K := hK
  omega
 rw [← hp, ← hr] at HP
 rw [← hp] at hv
 rw [← hz] at hv ⊢
 have HV := Lib.hid hv; have HPK := hide hpK
 clear h1 h2 hb ha hp hr hz hv hK hpK
 go_enter Tryz.func128, Tryz.ntmps128
 go_upto_region 1 with fail
 obtain ⟨n0, n1, n2, hsz, hw0⟩ := nu w (.cells #[.slice A1 l1.length c1, .bool false] 61) (.cells #[.slice A2 l2.length c2, .bool false] 61) (.cells #[.slice none 0 0, .bool false] 61)
 generalize (((w.alloc (.cells #[.slice A1 l1.length c1, .bool false] 61)).alloc (.cells #[.slice A2 l2.length c2, .bool false] 61)).alloc (.cells #[.slice none 0 0, .bool false] 61)) = W0 at *
 have k0 : W0.cell? ⟨w.heap.size, 0, none⟩ = some (.slice A1 l1.length c1) := ah n0 0
 have k1 : W0.cell? ⟨w.heap.size, 1, none⟩ = some (.bool false) := ah n0 1
 have k2 : W0.cell? ⟨w.heap.size + 1, 0, none⟩ = some (.slice A2 l2.length c2) := ah n1 0
 have k3 : W0.cell? ⟨w.heap.size + 1, 1, none⟩ = some (.bool false) := ah n1 1
 have q0 := lt_of_block n0; have q1 := lt_of_block n1; have q2 := lt_of_block n2
 have r0 : W0.cell? ⟨w.heap.size + 1 + 1, 0, none⟩ = some (.slice none 0 0) := ah n2 0
 have r1 : W0.cell? ⟨w.heap.size + 1 + 1, 1, none⟩ = some (.bool false) := ah n2 1
 have f0 := bf n2 0; have f1 := bf n2 1
 have NR := Lib.hid n2
 clear n0 n1 n2 hsz
 go_wp2_with fail
 refine ((aa HP) _ hw0).mono ?_
 rintro e W1 ⟨A5, c5, l5, A6, c6, l6, rfl, g5, g6, hb⟩
 have hl6 := g6.Gm
 clear hl6
 have bdh := g5.tu; have bdg := g5.cap2; have bdf := g6.tu; have bde := g6.cap2
 obtain ⟨hc, hfz⟩ := fu hb
 replace k1 := (hc _ _ q0).trans k1
 replace k3 := (hc _ _ q1).trans k3
 replace r0 := (hc _ _ q2).trans r0
 replace r1 := (hc _ _ q2).trans r1
 replace f0 := (hfz _ _ q2).trans f0
 replace f1 := (hfz _ _ q2).trans f1
 replace NR := Lib.hid ((hb.block _ q2).trans NR.out)
 replace hw0 := bz hw0 hb
 replace q0 := Nat.lt_of_lt_of_le q0 hb.size
 replace q1 := Nat.lt_of_lt_of_le q1 hb.size
 replace q2 := Nat.lt_of_lt_of_le q2 hb.size
 have G5 := hide g5
 clear g5 g6 hb hc hfz k0 k2
 go_wp2_with fail
 have hsg := Ah A5 c5 l5 p false W1 (aa G5)
 have Ic := hide hsg
 clear hsg
 refine (aa Ic).mono ?_
 rintro e w' ⟨A8, c8, l8, m8, rfl, g8, hb⟩
 obtain ⟨hc, hfz⟩ := fu hb
 have hblk := (hb.block _ q2).trans NR.out
 have kg := Lib.hid hblk
 have jh := bz hw0 hb
 have e9 : (if (false : Bool) = true then -((p : Nat) : Int) else ((p : Nat) : Int)) = z := by rw [HV.out]; rfl
 rw [e9] at g8
 have G8 := hide g8
 clear hb hblk e9 g8
 go_wp2_with fail
 exact bodyPost_ret (v := .agg #[.slice A8 l8.length c8, .bool m8]) (by simp [results, Tryz.results128, go_sem, hc, r0, r1, q2]) rfl
  ⟨A8, c8, l8, m8, rfl, (aa G8).upto kg.out (Ec _ _ _ _) (lg _ _ _ _), jh.grown (lg _ _ _ _) jh.size (fun k hk => by injection hk with hk; omega)⟩

theorem aod (A1 : Option Addr) (c1 : Nat) (l1 : List Nat) (m1 : Bool) (z1 : Int) (A2 : Option Addr) (c2 : Nat) (l2 : List Nat) (m2 : Bool) (z2 : Int) (K : Nat) (w : World) (h1 : ik w A1 c1 l1 m1 z1) (h2 : ik w A2 c2 l2 m2 z2) (hb : 0 < z2) (hK : Wd.Sz eu K z1) (hk : l1.length + 1 ≤ 35184372088832) (hk2 : l2.length + 1 ≤ 35184372088832) (hk3 : K + 3 ≤ 35184372088832) (ha : z1 < 0) (h0 : z1.natAbs % z2.natAbs = 0) :
  Calls Tryz.prog 128 #[(Value.agg #[.slice A1 l1.length c1, .bool m1]), (Value.agg #[.slice A2 l2.length c2, .bool m2])] w fun e w' => Ba w (z1 / z2) e w' := by
 obtain rfl : m1 = true := by rw [h1.sign]; exact decide_eq_true ha
 obtain rfl : m2 = false := by rw [h2.sign]; exact decide_eq_false om
 have hv := (adq hb ha).1 h0
 have HP := hide (fun W (hW : Below w.heap.size w W) => Fb A1 A2 c1 c2 l1 l2 z1.natAbs z2.natAbs W (h1.nat.below hW) (h2.nat.below hW) om om om)
 obtain ⟨p, hp⟩ : ∃ p, p = z1.natAbs / z2.natAbs := ⟨_, rfl⟩
 obtain ⟨r, hr⟩ : ∃ r, r = z1.natAbs % z2.natAbs := ⟨_, rfl⟩
 obtain ⟨z, hz⟩ : ∃ z, z = z1 / z2 := ⟨_, rfl⟩
 have hpK : p + 1 < eu ^ (K + 1) := by
  rw [hp]
  have e1 := Nat.div_le_self z1.natAbs z2.natAbs
  have e2 : eu ^ K < eu ^ (K + 1) := Nat.pow_lt_pow_right Am om
  have e3 : z1.natAbs < eu ^ K := hK
  omega
 rw [← hp, ← hr] at HP
 rw [← hp] at hv
 rw [← hz] at hv ⊢
 have HV := Lib.hid hv; have HPK := hide hpK
 rw [← hr] at h0
 have H0 := hide h0
 clear h0
 clear h1 h2 hb ha hp hr hz hv hK hpK
 go_enter Tryz.func128, Tryz.ntmps128
 go_upto_region 1 with fail
 obtain ⟨n0, n1, n2, hsz, hw0⟩ := nu w (.cells #[.slice A1 l1.length c1, .bool true] 61) (.cells #[.slice A2 l2.length c2, .bool false] 61) (.cells #[.slice none 0 0, .bool false] 61)
 generalize (((w.alloc (.cells #[.slice A1 l1.length c1, .bool true] 61)).alloc (.cells #[.slice A2 l2.length c2, .bool false] 61)).alloc (.cells #[.slice none 0 0, .bool false] 61)) = W0 at *
 have k0 : W0.cell? ⟨w.heap.size, 0, none⟩ = some (.slice A1 l1.length c1) := ah n0 0
 have k1 : W0.cell? ⟨w.heap.size, 1, none⟩ = some (.bool true) := ah n0 1
 have k2 : W0.cell? ⟨w.heap.size + 1, 0, none⟩ = some (.slice A2 l2.length c2) := ah n1 0
 have k3 : W0.cell? ⟨w.heap.size + 1, 1, none⟩ = some (.bool false) := ah n1 1
 have q0 := lt_of_block n0; have q1 := lt_of_block n1; have q2 := lt_of_block n2
 have r0 : W0.cell? ⟨w.heap.size + 1 + 1, 0, none⟩ = some (.slice none 0 0) := ah n2 0
 have r1 : W0.cell? ⟨w.heap.size + 1 + 1, 1, none⟩ = some (.bool false) := ah n2 1
 have f0 := bf n2 0; have f1 := bf n2 1
 have NR := Lib.hid n2
 clear n0 n1 n2 hsz
 go_wp2_with fail
 refine ((aa HP) _ hw0).mono ?_
 rintro e W1 ⟨A5, c5, l5, A6, c6, l6, rfl, g5, g6, hb⟩
 have hl6 := g6.Gm
 replace hl6 := hl6.1 (aa H0)
 have bdh := g5.tu; have bdg := g5.cap2; have bdf := g6.tu; have bde := g6.cap2
 obtain ⟨hc, hfz⟩ := fu hb
 replace k1 := (hc _ _ q0).trans k1
 replace k3 := (hc _ _ q1).trans k3
 replace r0 := (hc _ _ q2).trans r0
 replace r1 := (hc _ _ q2).trans r1
 replace f0 := (hfz _ _ q2).trans f0
 replace f1 := (hfz _ _ q2).trans f1
 replace NR := Lib.hid ((hb.block _ q2).trans NR.out)
 replace hw0 := bz hw0 hb
 replace q0 := Nat.lt_of_lt_of_le q0 hb.size
 replace q1 := Nat.lt_of_lt_of_le q1 hb.size
 replace q2 := Nat.lt_of_lt_of_le q2 hb.size
 have G5 := hide g5
 clear g5 g6 hb hc hfz k0 k2
 go_wp2_with fail
 have hsg := Ah A5 c5 l5 p true W1 (aa G5)
 have Ic := hide hsg
 clear hsg
 refine (aa Ic).mono ?_
 rintro e w' ⟨A8, c8, l8, m8, rfl, g8, hb⟩
 obtain ⟨hc, hfz⟩ := fu hb
 have hblk := (hb.block _ q2).trans NR.out
 have kg := Lib.hid hblk
 have jh := bz hw0 hb
 have e9 : (if (true : Bool) = true then -((p : Nat) : Int) else ((p : Nat) : Int)) = z := by rw [HV.out]; rfl
 rw [e9] at g8
 have G8 := hide g8
 clear hb hblk e9 g8
 go_wp2_with fail
 exact bodyPost_ret (v := .agg #[.slice A8 l8.length c8, .bool m8]) (by simp [results, Tryz.results128, go_sem, hc, r0, r1, q2]) rfl
  ⟨A8, c8, l8, m8, rfl, (aa G8).upto kg.out (Ec _ _ _ _) (lg _ _ _ _), jh.grown (lg _ _ _ _) jh.size (fun k hk => by injection hk with hk; omega)⟩

theorem aoe (A1 : Option Addr) (c1 : Nat) (l1 : List Nat) (m1 : Bool) (z1 : Int) (A2 : Option Addr) (c2 : Nat) (l2 : List Nat) (m2 : Bool) (z2 : Int) (K : Nat) (w : World) (h1 : ik w A1 c1 l1 m1 z1) (h2 : ik w A2 c2 l2 m2 z2) (hb : 0 < z2) (hK : Wd.Sz eu K z1) (hk : l1.length + 1 ≤ 35184372088832) (hk2 : l2.length + 1 ≤ 35184372088832) (hk3 : K + 3 ≤ 35184372088832) (ha : z1 < 0) (h0 : z1.natAbs % z2.natAbs ≠ 0) :
  Calls Tryz.prog 128 #[(Value.agg #[.slice A1 l1.length c1, .bool m1]), (Value.agg #[.slice A2 l2.length c2, .bool m2])] w fun e w' => Ba w (z1 / z2) e w' := by
 obtain rfl : m1 = true := by rw [h1.sign]; exact decide_eq_true ha
 obtain rfl : m2 = false := by rw [h2.sign]; exact decide_eq_false om
 have hv := (adq hb ha).2 h0
 have HP := hide (fun W (hW : Below w.heap.size w W) => Fb A1 A2 c1 c2 l1 l2 z1.natAbs z2.natAbs W (h1.nat.below hW) (h2.nat.below hW) om om om)
 obtain ⟨p, hp⟩ : ∃ p, p = z1.natAbs / z2.natAbs := ⟨_, rfl⟩
 obtain ⟨r, hr⟩ : ∃ r, r = z1.natAbs % z2.natAbs := ⟨_, rfl⟩
 obtain ⟨z, hz⟩ : ∃ z, z = z1 / z2 := ⟨_, rfl⟩
 have hpK : p + 1 < eu ^ (K + 1) := by
  rw [hp]
  have e1 := Nat.div_le_self z1.natAbs z2.natAbs
  have e2 : eu ^ K < eu ^ (K + 1) := Nat.pow_lt_pow_right Am om
  have e3 : z1.natAbs < eu ^ K := hK
  omega
 rw [← hp, ← hr] at HP
 rw [← hp] at hv
 rw [← hz] at hv ⊢
 have HV := Lib.hid hv; have HPK := hide hpK
 rw [← hr] at h0
 have H0 := hide h0
 clear h0
 clear h1 h2 hb ha hp hr hz hv hK hpK
 go_enter Tryz.func128, Tryz.ntmps128
 go_upto_region 1 with fail
 obtain ⟨n0, n1, n2, hsz, hw0⟩ := nu w (.cells #[.slice A1 l1.length c1, .bool true] 61) (.cells #[.slice A2 l2.length c2, .bool false] 61) (.cells #[.slice none 0 0, .bool false] 61)
 generalize (((w.alloc (.cells #[.slice A1 l1.length c1, .bool true] 61)).alloc (.cells #[.slice A2 l2.length c2, .bool false] 61)).alloc (.cells #[.slice none 0 0, .bool false] 61)) = W0 at *
 have k0 : W0.cell? ⟨w.heap.size, 0, none⟩ = some (.slice A1 l1.length c1) := ah n0 0
 have k1 : W0.cell? ⟨w.heap.size, 1, none⟩ = some (.bool true) := ah n0 1
 have k2 : W0.cell? ⟨w.heap.size + 1, 0, none⟩ = some (.slice A2 l2.length c2) := ah n1 0
 have k3 : W0.cell? ⟨w.heap.size + 1, 1, none⟩ = some (.bool false) := ah n1 1
 have q0 := lt_of_block n0; have q1 := lt_of_block n1; have q2 := lt_of_block n2
 have r0 : W0.cell? ⟨w.heap.size + 1 + 1, 0, none⟩ = some (.slice none 0 0) := ah n2 0
 have r1 : W0.cell? ⟨w.heap.size + 1 + 1, 1, none⟩ = some (.bool false) := ah n2 1
 have f0 := bf n2 0; have f1 := bf n2 1
 have NR := Lib.hid n2
 clear n0 n1 n2 hsz
 go_wp2_with fail
 refine ((aa HP) _ hw0).mono ?_
 rintro e W1 ⟨A5, c5, l5, A6, c6, l6, rfl, g5, g6, hb⟩
 have hl6 := g6.Gm
 replace hl6 : ¬ l6.length = 0 := fun e => (aa H0) (hl6.2 e)
 have hl7 : decide ((0 : Int) < (l6.length : Int)) = true := decide_eq_true om
 have hl8 : decide (0 < l6.length) = true := decide_eq_true om
 have bdh := g5.tu; have bdg := g5.cap2; have bdf := g6.tu; have bde := g6.cap2
 obtain ⟨hc, hfz⟩ := fu hb
 replace k1 := (hc _ _ q0).trans k1
 replace k3 := (hc _ _ q1).trans k3
 replace r0 := (hc _ _ q2).trans r0
 replace r1 := (hc _ _ q2).trans r1
 replace f0 := (hfz _ _ q2).trans f0
 replace f1 := (hfz _ _ q2).trans f1
 replace NR := Lib.hid ((hb.block _ q2).trans NR.out)
 replace hw0 := bz hw0 hb
 replace q0 := Nat.lt_of_lt_of_le q0 hb.size
 replace q1 := Nat.lt_of_lt_of_le q1 hb.size
 replace q2 := Nat.lt_of_lt_of_le q2 hb.size
 have G5 := hide g5
 clear g5 g6 hb hc hfz k0 k2
 go_wp2_with fail
 have hpl := acu A5 (some ⟨W1.heap.size, 0, none⟩) c5 1 l5 [1] p 1 (W1.alloc (.cells #[.int .u32 1] 156)) ((aa G5).below ((Below.refl _ _).alloc (Nat.le_refl _) _)) (asn W1) (by have := (aa G5).len (k := K + 1) (by have := aa HPK; omega); omega) (by simp)
 refine hpl.mono ?_
 rintro e W2 ⟨A7, c7, l7, rfl, g7, hb⟩
 replace hb := bz ((Below.refl W1.heap.size W1).alloc (Nat.le_refl _) _) hb
 obtain ⟨hc, hfz⟩ := fu hb
 replace k1 := (hc _ _ q0).trans k1
 replace k3 := (hc _ _ q1).trans k3
 replace r0 := (hc _ _ q2).trans r0
 replace r1 := (hc _ _ q2).trans r1
 replace f0 := (hfz _ _ q2).trans f0
 replace f1 := (hfz _ _ q2).trans f1
 replace NR := Lib.hid ((hb.block _ q2).trans NR.out)
 replace hw0 := bz hw0 hb
 replace q2 := Nat.lt_of_lt_of_le q2 hb.size
 have bqi := g7.tu; have bqh := g7.cap2
 have G7 := hide g7
 clear g7 hb hc hfz hpl
 go_wp2_with fail
 have hsg := Ah A7 c7 l7 (p + 1) true W2 (aa G7)
 have Ic := hide hsg
 clear hsg
 refine (aa Ic).mono ?_
 rintro e w' ⟨A8, c8, l8, m8, rfl, g8, hb⟩
 obtain ⟨hc, hfz⟩ := fu hb
 have hblk := (hb.block _ q2).trans NR.out
 have kg := Lib.hid hblk
 have jh := bz hw0 hb
 have e9 : (if (true : Bool) = true then -(((p + 1) : Nat) : Int) else (((p + 1) : Nat) : Int)) = z := by rw [HV.out]; rfl
 rw [e9] at g8
 have G8 := hide g8
 clear hb hblk e9 g8
 go_wp2_with fail
 exact bodyPost_ret (v := .agg #[.slice A8 l8.length c8, .bool m8]) (by simp [results, Tryz.results128, go_sem, hc, r0, r1, q2]) rfl
  ⟨A8, c8, l8, m8, rfl, (aa G8).upto kg.out (Ec _ _ _ _) (lg _ _ _ _), jh.grown (lg _ _ _ _) jh.size (fun k hk => by injection hk with hk; omega)⟩

theorem ais (A1 : Option Addr) (c1 : Nat) (l1 : List Nat) (m1 : Bool) (z1 : Int) (A2 : Option Addr) (c2 : Nat) (l2 : List Nat) (m2 : Bool) (z2 : Int) (K : Nat) (w : World) (h1 : ik w A1 c1 l1 m1 z1) (h2 : ik w A2 c2 l2 m2 z2) (hb : 0 < z2) (hK : Wd.Sz eu K z1) (hk : l1.length + 1 ≤ 35184372088832) (hk2 : l2.length + 1 ≤ 35184372088832) (hk3 : K + 3 ≤ 35184372088832) :
  Calls Tryz.prog 128 #[(Value.agg #[.slice A1 l1.length c1, .bool m1]), (Value.agg #[.slice A2 l2.length c2, .bool m2])] w fun e w' => Ba w (z1 / z2) e w' := by
 by_cases ha : 0 ≤ z1
 ·
  exact aoc A1 c1 l1 m1 z1 A2 c2 l2 m2 z2 K w h1 h2 hb hK hk hk2 hk3 ha
 ·
  by_cases h0 : z1.natAbs % z2.natAbs = 0
  ·
   exact aod A1 c1 l1 m1 z1 A2 c2 l2 m2 z2 K w h1 h2 hb hK hk hk2 hk3 om h0
  ·
   exact aoe A1 c1 l1 m1 z1 A2 c2 l2 m2 z2 K w h1 h2 hb hK hk hk2 hk3 om h0

end Go.Proofs.YtjdnmdlnaoedoaaGreatDoor
namespace Go.Proofs.YtjdnmdlnaoedoaaGreatDoor
open Go.RowKit

end Go.Proofs.YtjdnmdlnaoedoaaGreatDoor
namespace Go.Proofs.YtjdnmdlnaoedoaaGreatDoor
open Go.RowKit

theorem aex (n : Int) (q : Rat) (w : World) (b1 : -9223372036854775808 ≤ n) (b2 : n ≤ 9223372036854775807) (hn : n = q.num) (hd : (1 : Int) = (q.den : Int)) :
  Calls Tryz.prog 80 #[.int .i64 n] w fun e w' => QR w q e w' := by
 have Qa := hide (fun W => (Js n W b1 b2).mono (fun e w' h => h.1))
 have Sc := hide Sq
 have HN := Lib.hid hn; have HD := Lib.hid hd
 clear b1 b2 hn hd
 go_enter Tryz.func80, Tryz.ntmps80
 go_wp2_with fail
 obtain ⟨n0, hsz, hw0⟩ := Xe w (.cells #[.slice none 0 0, .bool false, .slice none 0 0, .bool false] 63)
 generalize (w.alloc (.cells #[.slice none 0 0, .bool false, .slice none 0 0, .bool false] 63)) = W0 at *
 have p0 : W0.cell? ⟨w.heap.size, 0, none⟩ = some (.slice none 0 0) := ah n0 0
 have p1 : W0.cell? ⟨w.heap.size, 1, none⟩ = some (.bool false) := ah n0 1
 have p2 : W0.cell? ⟨w.heap.size, 2, none⟩ = some (.slice none 0 0) := ah n0 2
 have p3 : W0.cell? ⟨w.heap.size, 3, none⟩ = some (.bool false) := ah n0 3
 have v0 := bf n0 0; have v1 := bf n0 1; have v2 := bf n0 2; have v3 := bf n0 3
 have q0 := lt_of_block n0
 have NR := Lib.hid n0
 clear n0 hsz
 refine ((aa Qa) _).mono ?_
 rintro e W1 ⟨A1, c1, l1, m1, rfl, f1, hb1⟩
 have F1 := hide f1; have HB1 := hide hb1
 clear f1 hb1
 go_wp2_with fail
 refine ((aa Sc) _).mono ?_
 rintro e W2 ⟨A2, c2, l2, m2, rfl, f2, hb2⟩
 have F1' := hide ((aa F1).below hb2)
 have hb2' := bz (aa HB1) hb2
 obtain ⟨hc, hfz⟩ := fu hb2'
 have hblk := (hb2'.block _ q0).trans NR.out
 have kg := Lib.hid hblk
 have F2 := hide f2; have jh := bz hw0 hb2'
 have Np := hide jh
 clear f2 hb2 hb2' hblk jh
 go_wp2_with fail
 exact bodyPost_ret (v := .agg #[.slice A1 l1.length c1, .bool m1, .slice A2 l2.length c2, .bool m2]) (by simp [results, Tryz.results80, go_sem, hc, p0, p1, p2, p3, q0]) rfl
  ⟨A1, c1, l1, m1, A2, c2, l2, m2, rfl, HN.out ▸ (aa F1').upto kg.out (Ao _ _ _ _ _ _ _ _) (mo _ _ _ _ _ _), HD.out ▸ (aa F2).upto kg.out (Ao _ _ _ _ _ _ _ _) (mo _ _ _ _ _ _), (aa Np).grown (mo _ _ _ _ _ _) (aa Np).size (fun k hk => by injection hk with hk; omega)⟩

end Go.Proofs.YtjdnmdlnaoedoaaGreatDoor
namespace Go.Proofs.YtjdnmdlnaoedoaaGreatDoor
open Go.RowKit

theorem aiy (A1 : Option Addr) (c1 : Nat) (l1 : List Nat) (m1 : Bool) (A2 : Option Addr) (c2 : Nat) (l2 : List Nat) (m2 : Bool) (z1 b1 n : Int) (p q : Rat) (w : World) (f1 : ik w A1 c1 l1 m1 z1)
  (hd1 : ∀ W, Below w.heap.size w W → Calls Tryz.prog 117 #[(Value.agg #[.slice A1 l1.length c1, .bool m1, .slice A2 l2.length c2, .bool m2])] W fun e w' => Ba W b1 e w') (hf : ∀ (A7 : Option Addr) (c7 : Nat) (l7 : List Nat) (m7 : Bool) (A8 : Option Addr) (c8 : Nat) (l8 : List Nat) (m8 : Bool) (W : World), Below w.heap.size w W → ik W A7 c7 l7 m7 z1 → ik W A8 c8 l8 m8 b1 → Calls Tryz.prog 128 #[(Value.agg #[.slice A7 l7.length c7, .bool m7]), (Value.agg #[.slice A8 l8.length c8, .bool m8])] W fun e w' => Ba W n e w') (ho : ∀ W, Calls Tryz.prog 129 #[] W fun e w' => Ba W 1 e w') (acd : n = q.num) (hden : (1 : Int) = (q.den : Int)) :
  Calls Tryz.prog 63 #[(Value.agg #[.slice A1 l1.length c1, .bool m1, .slice A2 l2.length c2, .bool m2])] w fun e w' => QR w q e w' := by
 have H1 := hide f1
 clear f1
 have HD1 := hide hd1
 have HF := hide hf
 have HO := hide ho
 clear hd1 hf ho
 go_enter Tryz.func63, Tryz.ntmps63
 go_upto_region 1 with fail
 obtain ⟨n0, n1, hsz, hw0⟩ := uu w (.cells #[.slice A1 l1.length c1, .bool m1, .slice A2 l2.length c2, .bool m2] 63) (.cells #[.slice none 0 0, .bool false, .slice none 0 0, .bool false] 63)
 generalize ((w.alloc (.cells #[.slice A1 l1.length c1, .bool m1, .slice A2 l2.length c2, .bool m2] 63)).alloc (.cells #[.slice none 0 0, .bool false, .slice none 0 0, .bool false] 63)) = W0 at *
 have yc : W0.cell? ⟨w.heap.size, 0, none⟩ = some (.slice A1 l1.length c1) := ah n0 0
 have xz : W0.cell? ⟨w.heap.size, 1, none⟩ = some (.bool m1) := ah n0 1
 have Ak : W0.cell? ⟨w.heap.size, 2, none⟩ = some (.slice A2 l2.length c2) := ah n0 2
 have Cc : W0.cell? ⟨w.heap.size, 3, none⟩ = some (.bool m2) := ah n0 3
 have q0 : w.heap.size < W0.heap.size := by omega
 have Ad : W0.cell? ⟨w.heap.size + 1, 0, none⟩ = some (.slice none 0 0) := ah n1 0
 have Ac : W0.cell? ⟨w.heap.size + 1, 1, none⟩ = some (.bool false) := ah n1 1
 have El : W0.cell? ⟨w.heap.size + 1, 2, none⟩ = some (.slice none 0 0) := ah n1 2
 have Kz : W0.cell? ⟨w.heap.size + 1, 3, none⟩ = some (.bool false) := ah n1 3
 have q1 : w.heap.size + 1 < W0.heap.size := by omega
 have Nh := bf n1 0
 have Ng := bf n1 1
 have ahm := bf n1 2
 have ahl := bf n1 3
 have NR := Lib.hid n1
 clear hsz n0 n1
 replace H1 := hide ((aa H1).below hw0)
 go_upto_region 1 with fail
 have KEEP := hide (show ∀ X, Below W0.heap.size W0 X → X.cell? ⟨w.heap.size, 0, none⟩ = some (.slice A1 l1.length c1) ∧ X.cell? ⟨w.heap.size, 1, none⟩ = some (.bool m1) ∧ X.cell? ⟨w.heap.size, 2, none⟩ = some (.slice A2 l2.length c2) ∧ X.cell? ⟨w.heap.size, 3, none⟩ = some (.bool m2) from fun X hB => ⟨ib hB q0 yc, ib hB q0 xz, ib hB q0 Ak, ib hB q0 Cc⟩)
 go_region_held3 (fun w' => w'.cell? ⟨w.heap.size, 0, none⟩ = some (.slice A1 l1.length c1) ∧ w'.cell? ⟨w.heap.size, 1, none⟩ = some (.bool m1) ∧ w'.cell? ⟨w.heap.size, 2, none⟩ = some (.slice A2 l2.length c2) ∧ w'.cell? ⟨w.heap.size, 3, none⟩ = some (.bool m2)) (first | with_reducible exact ⟨(Fj _ _ _ _ _ _ om).trans (ib hbw q0 yc), (Fj _ _ _ _ _ _ om).trans (ib hbw q0 xz), (Fj _ _ _ _ _ _ om).trans (ib hbw q0 Ak), (Fj _ _ _ _ _ _ om).trans (ib hbw q0 Cc)⟩ | with_reducible exact (aa KEEP) _ bel) (first | (go_at_call_of 117 (Value.agg #[.slice A1 l1.length c1, .bool m1, .slice A2 l2.length c2, .bool m2]); refine ((aa HD1) _ (bz hw0 bel)).mono ?_; rintro e w' ⟨A5, c5, l5, m5, rfl, yx, hb5⟩; have hbw := cu (w := W0) bel hb5; have hsw := hbw.size; obtain ⟨hc, hfz⟩ := fu hbw) | (go_at_call_of 128 (Value.agg #[.slice A1 l1.length c1, .bool m1]); refine ((aa HF) A1 c1 l1 m1 A5 c5 l5 m5 _ (bz hw0 bel) (ik.below (aa H1) bel) (ik.below yx bel)).mono ?_; rintro e w' ⟨A6, c6, l6, m6, rfl, Cr, hb6⟩; have yx := ik.below (ik.below yx bel) hb6; have hbw := cu (w := W0) bel hb6; have hsw := hbw.size; obtain ⟨hc, hfz⟩ := fu hbw) | (go_at_call 129; refine ((aa HO) _).mono ?_; rintro e w' ⟨A7, c7, l7, m7, rfl, hf7, Ml⟩; have yx := ik.below (ik.below yx bel) Ml; have Cr := ik.below (ik.below Cr bel) Ml; have hbw := cu (w := W0) bel Ml; have hsw := hbw.size; obtain ⟨hc, hfz⟩ := fu hbw))
 all_goals
  have hblk : w'.heap[w.heap.size + 1]? = some (.cells #[.slice none 0 0, .bool false, .slice none 0 0, .bool false] 63 (0, 0)) := (hbw.block _ q1).trans NR.out
  have kg := Lib.hid hblk
  have jh : Below w.heap.size w w' := bz hw0 hbw
  have hfi := (Cr)
  have hfj := (hf7)
  clear hblk
  go_wp2_with fail
  exact bodyPost_ret (v := (Value.agg #[.slice A6 l6.length c6, .bool m6, .slice A7 l7.length c7, .bool m7])) (by simp [results, Tryz.results63, go_sem, hc, Ad, Ac, El, Kz, q1]) rfl
   ⟨A6, c6, l6, m6, A7, c7, l7, m7, rfl, acd ▸ hfi.upto kg.out (Ao _ _ _ _ _ _ _ _) (mo _ _ _ _ _ _), hden ▸ hfj.upto kg.out (Ao _ _ _ _ _ _ _ _) (mo _ _ _ _ _ _), jh.grown (mo _ _ _ _ _ _) jh.size (fun k hk => by injection hk with hk; omega)⟩

theorem apl (A1 : Option Addr) (c1 : Nat) (l1 : List Nat) (m1 : Bool) (A2 : Option Addr) (c2 : Nat) (l2 : List Nat) (m2 : Bool) (z1 : Int) (p q : Rat) (w : World) 
  (hi : ∀ W, Calls Tryz.prog 80 #[.int .i64 1] W fun e w' => QR W p e w') (hd : ∀ (A7 : Option Addr) (c7 : Nat) (l7 : List Nat) (m7 : Bool) (A8 : Option Addr) (c8 : Nat) (l8 : List Nat) (m8 : Bool) (W : World), Below w.heap.size w W → ik W A7 c7 l7 m7 p.num → ik W A8 c8 l8 m8 (p.den : Int) → Calls Tryz.prog 54 #[(Value.agg #[.slice A7 l7.length c7, .bool m7, .slice A8 l8.length c8, .bool m8]), (Value.agg #[.slice A1 l1.length c1, .bool m1, .slice A2 l2.length c2, .bool m2])] W fun e w' => QR W q e w') :
  Calls Tryz.prog 75 #[(Value.agg #[.slice A1 l1.length c1, .bool m1, .slice A2 l2.length c2, .bool m2])] w fun e w' => QR w q e w' := by
 have HI := hide hi
 have HD := hide hd
 clear hi hd
 go_enter Tryz.func75, Tryz.ntmps75
 go_upto_region 1 with fail
 obtain ⟨n0, n1, hsz, hw0⟩ := uu w (.cells #[.slice A1 l1.length c1, .bool m1, .slice A2 l2.length c2, .bool m2] 63) (.cells #[.slice none 0 0, .bool false, .slice none 0 0, .bool false] 63)
 generalize ((w.alloc (.cells #[.slice A1 l1.length c1, .bool m1, .slice A2 l2.length c2, .bool m2] 63)).alloc (.cells #[.slice none 0 0, .bool false, .slice none 0 0, .bool false] 63)) = W0 at *
 have yc : W0.cell? ⟨w.heap.size, 0, none⟩ = some (.slice A1 l1.length c1) := ah n0 0
 have xz : W0.cell? ⟨w.heap.size, 1, none⟩ = some (.bool m1) := ah n0 1
 have Ak : W0.cell? ⟨w.heap.size, 2, none⟩ = some (.slice A2 l2.length c2) := ah n0 2
 have Cc : W0.cell? ⟨w.heap.size, 3, none⟩ = some (.bool m2) := ah n0 3
 have q0 : w.heap.size < W0.heap.size := by omega
 have Ad : W0.cell? ⟨w.heap.size + 1, 0, none⟩ = some (.slice none 0 0) := ah n1 0
 have Ac : W0.cell? ⟨w.heap.size + 1, 1, none⟩ = some (.bool false) := ah n1 1
 have El : W0.cell? ⟨w.heap.size + 1, 2, none⟩ = some (.slice none 0 0) := ah n1 2
 have Kz : W0.cell? ⟨w.heap.size + 1, 3, none⟩ = some (.bool false) := ah n1 3
 have q1 : w.heap.size + 1 < W0.heap.size := by omega
 have Nh := bf n1 0
 have Ng := bf n1 1
 have ahm := bf n1 2
 have ahl := bf n1 3
 have NR := Lib.hid n1
 clear hsz n0 n1
 go_upto_region 1 with fail
 have KEEP := hide (show ∀ X, Below W0.heap.size W0 X → X.cell? ⟨w.heap.size, 0, none⟩ = some (.slice A1 l1.length c1) ∧ X.cell? ⟨w.heap.size, 1, none⟩ = some (.bool m1) ∧ X.cell? ⟨w.heap.size, 2, none⟩ = some (.slice A2 l2.length c2) ∧ X.cell? ⟨w.heap.size, 3, none⟩ = some (.bool m2) from fun X hB => ⟨ib hB q0 yc, ib hB q0 xz, ib hB q0 Ak, ib hB q0 Cc⟩)
 go_region_held3 (fun w' => w'.cell? ⟨w.heap.size, 0, none⟩ = some (.slice A1 l1.length c1) ∧ w'.cell? ⟨w.heap.size, 1, none⟩ = some (.bool m1) ∧ w'.cell? ⟨w.heap.size, 2, none⟩ = some (.slice A2 l2.length c2) ∧ w'.cell? ⟨w.heap.size, 3, none⟩ = some (.bool m2)) (first | with_reducible exact ⟨(Fj _ _ _ _ _ _ om).trans (ib hbw q0 yc), (Fj _ _ _ _ _ _ om).trans (ib hbw q0 xz), (Fj _ _ _ _ _ _ om).trans (ib hbw q0 Ak), (Fj _ _ _ _ _ _ om).trans (ib hbw q0 Cc)⟩ | with_reducible exact (aa KEEP) _ bel) (first | (go_at_call_of 80 (Value.int .i64 1); refine ((aa HI) _).mono ?_; rintro e w' ⟨A5, c5, l5, m5, A6, c6, l6, m6, rfl, yx, Cr, hb5⟩; have hbw := cu (w := W0) bel hb5; have hsw := hbw.size; obtain ⟨hc, hfz⟩ := fu hbw) | (go_at_call_of 54 (Value.agg #[.slice A5 l5.length c5, .bool m5, .slice A6 l6.length c6, .bool m6]); refine ((aa HD) A5 c5 l5 m5 A6 c6 l6 m6 _ (bz hw0 bel) (ik.below yx bel) (ik.below Cr bel)).mono ?_; rintro e w' ⟨A7, c7, l7, m7, A8, c8, l8, m8, rfl, hf7, hf8, Ml⟩; have yx := ik.below (ik.below yx bel) Ml; have Cr := ik.below (ik.below Cr bel) Ml; have hbw := cu (w := W0) bel Ml; have hsw := hbw.size; obtain ⟨hc, hfz⟩ := fu hbw))
 all_goals
  have hblk : w'.heap[w.heap.size + 1]? = some (.cells #[.slice none 0 0, .bool false, .slice none 0 0, .bool false] 63 (0, 0)) := (hbw.block _ q1).trans NR.out
  have kg := Lib.hid hblk
  have jh : Below w.heap.size w w' := bz hw0 hbw
  have hfi := (hf7)
  have hfj := (hf8)
  clear hblk
  go_wp2_with fail
  exact bodyPost_ret (v := (Value.agg #[.slice A7 l7.length c7, .bool m7, .slice A8 l8.length c8, .bool m8])) (by simp [results, Tryz.results75, go_sem, hc, Ad, Ac, El, Kz, q1]) rfl
   ⟨A7, c7, l7, m7, A8, c8, l8, m8, rfl, hfi.upto kg.out (Ao _ _ _ _ _ _ _ _) (mo _ _ _ _ _ _), hfj.upto kg.out (Ao _ _ _ _ _ _ _ _) (mo _ _ _ _ _ _), jh.grown (mo _ _ _ _ _ _) jh.size (fun k hk => by injection hk with hk; omega)⟩

theorem alp (A1 : Option Addr) (c1 : Nat) (l1 : List Nat) (m1 : Bool) (A2 : Option Addr) (c2 : Nat) (l2 : List Nat) (m2 : Bool) (p q r : Rat) (w : World) (hn : ∀ W, Below w.heap.size w W → Calls Tryz.prog 121 #[(Value.agg #[.slice A1 l1.length c1, .bool m1, .slice A2 l2.length c2, .bool m2])] W fun e w' => QR W p e w')
  (hf : ∀ (A5 : Option Addr) (c5 : Nat) (l5 : List Nat) (m5 : Bool) (A6 : Option Addr) (c6 : Nat) (l6 : List Nat) (m6 : Bool) (W : World), ik W A5 c5 l5 m5 p.num → ik W A6 c6 l6 m6 (p.den : Int) → Calls Tryz.prog 63 #[(Value.agg #[.slice A5 l5.length c5, .bool m5, .slice A6 l6.length c6, .bool m6])] W fun e w' => QR W q e w') (hn2 : ∀ (A5 : Option Addr) (c5 : Nat) (l5 : List Nat) (m5 : Bool) (A6 : Option Addr) (c6 : Nat) (l6 : List Nat) (m6 : Bool) (W : World), ik W A5 c5 l5 m5 q.num → ik W A6 c6 l6 m6 (q.den : Int) → Calls Tryz.prog 121 #[(Value.agg #[.slice A5 l5.length c5, .bool m5, .slice A6 l6.length c6, .bool m6])] W fun e w' => QR W r e w') :
  Calls Tryz.prog 153 #[(Value.agg #[.slice A1 l1.length c1, .bool m1, .slice A2 l2.length c2, .bool m2])] w fun e w' => QR w r e w' := by
 have HN := hide hn; have HF := hide hf; have HN2 := hide hn2
 clear hn hf hn2
 go_enter Tryz.func153, Tryz.ntmps153
 go_upto_region 1 with fail
 obtain ⟨n0, n1, hsz, hw0⟩ := uu w (.cells #[.slice A1 l1.length c1, .bool m1, .slice A2 l2.length c2, .bool m2] 63) (.cells #[.slice none 0 0, .bool false, .slice none 0 0, .bool false] 63)
 generalize ((w.alloc (.cells #[.slice A1 l1.length c1, .bool m1, .slice A2 l2.length c2, .bool m2] 63)).alloc (.cells #[.slice none 0 0, .bool false, .slice none 0 0, .bool false] 63)) = W0 at *
 have k0 : W0.cell? ⟨w.heap.size, 0, none⟩ = some (.slice A1 l1.length c1) := ah n0 0
 have k1 : W0.cell? ⟨w.heap.size, 1, none⟩ = some (.bool m1) := ah n0 1
 have k2 : W0.cell? ⟨w.heap.size, 2, none⟩ = some (.slice A2 l2.length c2) := ah n0 2
 have k3 : W0.cell? ⟨w.heap.size, 3, none⟩ = some (.bool m2) := ah n0 3
 have r0 : W0.cell? ⟨w.heap.size + 1, 0, none⟩ = some (.slice none 0 0) := ah n1 0
 have f0 := bf n1 0
 have r1 : W0.cell? ⟨w.heap.size + 1, 1, none⟩ = some (.bool false) := ah n1 1
 have f1 := bf n1 1
 have r2 : W0.cell? ⟨w.heap.size + 1, 2, none⟩ = some (.slice none 0 0) := ah n1 2
 have f2 := bf n1 2
 have r3 : W0.cell? ⟨w.heap.size + 1, 3, none⟩ = some (.bool false) := ah n1 3
 have f3 := bf n1 3
 have q1 := lt_of_block n1
 have NR := Lib.hid n1
 clear n0 n1 hsz
 go_wp2_with fail
 refine ((aa HN) _ hw0).mono ?_
 rintro e W1 ⟨A5, c5, l5, m5, A6, c6, l6, m6, rfl, g5, g6, hb⟩
 have HB := hide hb
 have hf1 := (aa HF) A5 c5 l5 m5 A6 c6 l6 m6 W1 g5 g6
 have HF1 := hide hf1
 clear g5 g6 hb hf1 k0 k1 k2 k3
 go_wp2_with fail
 refine (aa HF1).mono ?_
 rintro e W2 ⟨A7, c7, l7, m7, A8, c8, l8, m8, rfl, g5, g6, hb⟩
 have HB2 := hide (bz (aa HB) hb)
 have hf1 := (aa HN2) A7 c7 l7 m7 A8 c8 l8 m8 W2 g5 g6
 have HF2 := hide hf1
 clear g5 g6 hb hf1
 go_wp2_with fail
 refine (aa HF2).mono ?_
 rintro e w' ⟨A9, c9, l9, m9, Uo, c10, l10, m10, rfl, g5, g6, hb⟩
 have hbw := bz (aa HB2) hb
 obtain ⟨hc, hfz⟩ := fu hbw
 have hblk := (hbw.block _ q1).trans NR.out
 have kg := Lib.hid hblk
 have jh := bz hw0 hbw
 have Np := hide jh
 have G5 := hide g5; have G6 := hide g6
 clear hb hbw hblk jh g5 g6
 go_wp2_with fail
 exact bodyPost_ret (v := (Value.agg #[.slice A9 l9.length c9, .bool m9, .slice Uo l10.length c10, .bool m10])) (by simp [results, Tryz.results153, go_sem, hc, r0, r1, r2, r3, q1]) rfl
  ⟨A9, c9, l9, m9, Uo, c10, l10, m10, rfl, (aa G5).upto kg.out (Ao _ _ _ _ _ _ _ _) (mo _ _ _ _ _ _), (aa G6).upto kg.out (Ao _ _ _ _ _ _ _ _) (mo _ _ _ _ _ _), (aa Np).grown (mo _ _ _ _ _ _) (aa Np).size (fun k hk => by injection hk with hk; omega)⟩

theorem Wd.Rs (n : Int) : n = (Rat.divInt n 1).num ∧ (1 : Int) = ((Rat.divInt n 1).den : Int) := ⟨(Wd.Xi n).1.symm, by rw [(Wd.Xi n).2]; rfl⟩
theorem Yb (K : Nat) (A1 : Option Addr) (c1 : Nat) (l1 : List Nat) (m1 : Bool) (A2 : Option Addr) (c2 : Nat) (l2 : List Nat) (m2 : Bool) (x : Rat) (w : World) (h : QV w A1 c1 l1 m1 A2 c2 l2 m2 x) (sx : Wd.Ag eu K x) (hK : 4 * K + 4 ≤ 35184372088832) :
  Calls Tryz.prog 63 #[(Value.agg #[.slice A1 l1.length c1, .bool m1, .slice A2 l2.length c2, .bool m2])] w fun e w' => QR w (Rat.divInt (x.num / (x.den : Int)) 1) e w' := by
 have hx := x.den_nz
 exact aiy A1 c1 l1 m1 A2 c2 l2 m2 x.num (x.den : Int) _ x _ w h.num (fun W hW => Qg A1 c1 l1 m1 A2 c2 l2 m2 x W (h.below hW))
  (fun A7 c7 l7 m7 A8 c8 l8 m8 W _ f g => ais A7 c7 l7 m7 _ A8 c8 l8 m8 _ K W f g om sx.1 (by have := f.len sx.1; omega) (by have := g.len sx.2; omega) om)
  Sq (Wd.Rs _).1 (Wd.Rs _).2
theorem anx (K : Nat) (A1 : Option Addr) (c1 : Nat) (l1 : List Nat) (m1 : Bool) (A2 : Option Addr) (c2 : Nat) (l2 : List Nat) (m2 : Bool) (x : Rat) (w : World) (h : QV w A1 c1 l1 m1 A2 c2 l2 m2 x) (sx : Wd.Ag eu K x) (h1 : 1 ≤ K) (hK : 4 * K + 4 ≤ 35184372088832) (h0 : x.num ≠ 0) :
  Calls Tryz.prog 75 #[(Value.agg #[.slice A1 l1.length c1, .bool m1, .slice A2 l2.length c2, .bool m2])] w fun e w' => QR w (Rat.divInt 1 1 / x) e w' := by
 have s1 : Wd.Ag eu K (Rat.divInt 1 1) := by
  have e : 1 < eu ^ K := Nat.one_lt_pow om Am
  unfold Wd.Ag Wd.Sz
  rw [← (Wd.Rs 1).1, ← (Wd.Rs 1).2]
  exact ⟨e, e⟩
 exact apl A1 c1 l1 m1 A2 c2 l2 m2 0 (Rat.divInt 1 1) (Rat.divInt 1 1 / x) w (fun W => aex 1 _ W om om (Wd.Rs 1).1 (Wd.Rs 1).2)
  (fun A7 c7 l7 m7 A8 c8 l8 m8 W hW f g => acs K A7 c7 l7 m7 A8 c8 l8 m8 A1 c1 l1 m1 A2 c2 l2 m2 _ x W (QV.of f g) (h.below hW) s1 sx hK h0)
theorem ala (K : Nat) (A1 : Option Addr) (c1 : Nat) (l1 : List Nat) (m1 : Bool) (A2 : Option Addr) (c2 : Nat) (l2 : List Nat) (m2 : Bool) (x : Rat) (w : World) (h : QV w A1 c1 l1 m1 A2 c2 l2 m2 x) (sx : Wd.Ag eu K x) (hK : 4 * K + 4 ≤ 35184372088832) :
  Calls Tryz.prog 153 #[(Value.agg #[.slice A1 l1.length c1, .bool m1, .slice A2 l2.length c2, .bool m2])] w fun e w' => QR w (-Rat.divInt ((-x).num / ((-x).den : Int)) 1) e w' :=
 alp A1 c1 l1 m1 A2 c2 l2 m2 (-x) _ _ w (fun W hW => Uz A1 c1 l1 m1 A2 c2 l2 m2 x W (h.below hW))
  (fun A5 c5 l5 m5 A6 c6 l6 m6 W f g => Yb K A5 c5 l5 m5 A6 c6 l6 m6 (-x) W (QV.of f g) ⟨sx.1.neg, sx.2⟩ hK)
  (fun A5 c5 l5 m5 A6 c6 l6 m6 W f g => Uz A5 c5 l5 m5 A6 c6 l6 m6 _ W (QV.of f g))

end Go.Proofs.YtjdnmdlnaoedoaaGreatDoor
namespace Go.Proofs.YtjdnmdlnaoedoaaGreatDoor
open Go.RowKit

theorem avi (x q : Rat) (w : World) (u1 : Value) (h1 : Ca x w u1) (ha : (x.den : Int) = q.num) (hb : (1 : Int) = (q.den : Int))
  (hden : ∀ (W : World) (v0 : Value), Ca (x) W v0 → Calls Tryz.prog 117 #[v0] W (il (Df (x.den)) W))
  (hone : ∀ (W : World) , Calls Tryz.prog 129 #[] W (il (Df (1)) W)) :
  Calls Tryz.prog 72 #[u1] w (il (Ca q) w) := by
 obtain ⟨A1, c1, l1, m1, A2, c2, l2, m2, rfl, hq1⟩ := h1
 have bgw := hide hden
 have bgv := hide hone
 have HHA := hide ha
 have HHB := hide hb
 clear hden hone ha hb
 go_enter Tryz.func72, Tryz.ntmps72
 go_upto_region 1 with fail
 have hO := (Own.bga (Own.push (Own.nil w) (hq1.below (Below.refl _ _)) (w.heap.size) rfl) (w.heap.size + 1) (by simp only [World.size_alloc]))
 generalize (w.alloc (.cells #[.slice A1 l1.length c1, .bool m1, .slice A2 l2.length c2, .bool m2] 63)).alloc (.cells #[.slice none 0 0, .bool false, .slice none 0 0, .bool false] 63) = W0 at *
 have HO := hide hO
 clear hO
 go_upto_region 1 with fail
 refine Rg.dz 4 7 (Rg.pick [Ca (x), Df (x.den : Int), Df 1, Ca (q)]) (az w _ W0) gm [] kr rfl (Rg.fq.pick ⟨Xc _, Ji _, Ji _, Xc _, trivial⟩) (az.begin (aa HO))
  (Rg.ay (Rg.plain rfl (abt rfl aF (fun W h => az.box (List.Mem.tail _ (List.Mem.head _)) h) rfl))
   (Rg.ay (Rg.plain rfl (wh Tryz.func117 kr rfl az.step (aT 0) (fun W v0 hG h0 => aa bgw W v0 h0)))
   (Rg.ay (Rg.plain rfl (ajn Tryz.func129 kr rfl az.step  (fun W  hG  => aa bgv W)))
   (Rg.ay (Rg.plain rfl (asz rfl (aT 1) (aT 2) (aa HHA) (aa HHB) rfl))
   Rg.bg)))) ?_
 intro v V1 hG1 hv hne
 clear hne
 simp only [Rg.puts, List.take_succ_cons, List.take_zero, List.drop_succ_cons, List.drop_zero, Act.put, List.setIfInBounds_toArray, List.set_cons_zero, List.set_cons_succ]
 obtain ⟨bgy, bgr, bgi, bgg, bgx, bgq, bgh, bgf, e3, f3⟩ := (show Ca (q) V1 (v 3) from hv 3 (by decide))
 simp only [e3]
 have hO := hG1.1
 obtain ⟨-, _, _, _, _, _, _, _, _, hz, -⟩ := hO.box (w.heap.size + 1) (0) (List.Mem.head _)
 have Gr := ah hz 0
 have Uy := bf hz 0
 have Gq := ah hz 1
 have Ux := bf hz 1
 have Gp := ah hz 2
 have Uw := bf hz 2
 have Gn := ah hz 3
 have Uv := bf hz 3
 have Gt := lt_of_block hz
 clear hz
 go_wp2_with fail
 replace hO := Own.set (xs := []) (ys := [(w.heap.size, x)]) hO f3
 unfold bbb at hO
 generalize (((V1.setCell ⟨w.heap.size + 1, 0, none⟩ (.slice bgy bgi.length bgr)).setCell ⟨w.heap.size + 1, 1, none⟩ (.bool bgg)).setCell ⟨w.heap.size + 1, 2, none⟩ (.slice bgx bgh.length bgq)).setCell ⟨w.heap.size + 1, 3, none⟩ (.bool bgf) = U1 at *
 try clear Gr Uy Gq Ux Gp Uw Gn Uv hG1
 try clear e3 f3 Gt
 try clear hv
 replace HO := hide hO
 clear hO
 obtain ⟨Vq, Ya, Xy, Xt, Xv, Xz, Xx, Xr, Xu, Br, Xw⟩ := (aa HO).box _ _ (List.Mem.head _)
 have Gr := ah Br 0
 have Gq := ah Br 1
 have Gp := ah Br 2
 have Gn := ah Br 3
 have Gt := lt_of_block Br
 clear Br Vq
 go_wp2_with fail
 exact bodyPost_ret (v := .agg #[.slice Ya Xt.length Xy, .bool Xv, .slice Xz Xr.length Xx, .bool Xu]) (by simp [results, Tryz.results72, go_sem, Gr, Gq, Gp, Gn, Gt]) rfl
  ⟨_, rfl, (aa HO).bel, ⟨_, _, _, _, _, _, _, _, rfl, Xw⟩⟩
theorem avl (x y : Rat) (o : Int) (w : World) (u1 u2 : Value) (h1 : Ca x w u1) (h2 : Ca y w u2)
  (axj : ∀ (W : World) (v0 : Value), Ca (y) W v0 → Calls Tryz.prog 117 #[v0] W (il (Df (y.den)) W))
  (hm1 : ∀ (W : World) (v0 v1 : Value), Df (x.num) W v0 → Df (y.den) W v1 → Calls Tryz.prog 120 #[v0, v1] W (il (Df (x.num * (y.den : Int))) W))
  (axi : ∀ (W : World) (v0 : Value), Ca (x) W v0 → Calls Tryz.prog 117 #[v0] W (il (Df (x.den)) W))
  (hm2 : ∀ (W : World) (v0 v1 : Value), Df (y.num) W v0 → Df (x.den) W v1 → Calls Tryz.prog 120 #[v0, v1] W (il (Df (y.num * (x.den : Int))) W))
  (hc : ∀ (W : World) (v0 v1 : Value), Df (x.num * (y.den : Int)) W v0 → Df (y.num * (x.den : Int)) W v1 → Calls Tryz.prog 140 #[v0, v1] W (il (Rg.ax (.int .i64 o)) W)) :
  Calls Tryz.prog 71 #[u1, u2] w (il (Rg.ax (.int .i64 o)) w) := by
 obtain ⟨A1, c1, l1, m1, A2, c2, l2, m2, rfl, hq1⟩ := h1
 obtain ⟨A3, c3, l3, m3, A4, c4, l4, m4, rfl, hq3⟩ := h2
 have bfj := hide axj
 have blz := hide hm1
 have bfi := hide axi
 have bly := hide hm2
 have HHC := hide hc
 clear axj hm1 axi hm2 hc
 go_enter Tryz.func71, Tryz.ntmps71
 go_upto_region 1 with fail
 have hO := (Own.push (Own.push (Own.nil w) (hq1.below (Below.refl _ _)) (w.heap.size) rfl) (hq3.below (by repeat (first | exact Below.refl _ _ | refine jc ?_ _))) (w.heap.size + 1) (by simp only [World.size_alloc]))
 generalize (w.alloc (.cells #[.slice A1 l1.length c1, .bool m1, .slice A2 l2.length c2, .bool m2] 63)).alloc (.cells #[.slice A3 l3.length c3, .bool m3, .slice A4 l4.length c4, .bool m4] 63) = W0 at *
 have HO := hide hO
 clear hO
 go_upto_region 1 with fail
 refine Rg.region 12 16 (Rg.pick [Rg.ax (.pointer (some ⟨w.heap.size, 0, none⟩)), Df (x).num, Ca (y), Df (y.den : Int), Df (x.num * (y.den : Int)), Rg.ax (.pointer (some ⟨w.heap.size + 1, 0, none⟩)), Df (y).num, Ca (x), Df (x.den : Int), Df (y.num * (x.den : Int)), Rg.ax (.int .i64 o), Rg.ax (.int .i64 o)]) (az w _ W0) gm [] kr kr rfl (Rg.fq.pick ⟨Rg.ae _, Ji _, Xc _, Ji _, Ji _, Rg.ae _, Ji _, Xc _, Ji _, Ji _, Rg.ae _, Rg.ae _, trivial⟩) (az.start (aa HO))
  (Rg.ay (Rg.plain rfl (ajm rfl aF rfl))
   (Rg.ay (Rg.plain rfl (ajl rfl (aT 0) (fun W h => az.box (List.Mem.tail _ (List.Mem.head _)) h) rfl))
   (Rg.ay (Rg.plain rfl (abt rfl aF (fun W h => az.box (List.Mem.head _) h) rfl))
   (Rg.ay (Rg.plain rfl (wh Tryz.func117 kr rfl az.step (aT 2) (fun W v0 hG h0 => aa bfj W v0 h0)))
   (Rg.ay (Rg.plain rfl (yu Tryz.func120 kr rfl az.step (aT 1) (aT 3) (fun W v0 v1 hG h0 h1 => aa blz W v0 v1 h0 h1)))
   (Rg.ay (Rg.plain rfl (ajm rfl aF rfl))
   (Rg.ay (Rg.plain rfl (ajl rfl (aT 5) (fun W h => az.box (List.Mem.head _) h) rfl))
   (Rg.ay (Rg.plain rfl (abt rfl aF (fun W h => az.box (List.Mem.tail _ (List.Mem.head _)) h) rfl))
   (Rg.ay (Rg.plain rfl (wh Tryz.func117 kr rfl az.step (aT 7) (fun W v0 hG h0 => aa bfi W v0 h0)))
   (Rg.ay (Rg.plain rfl (yu Tryz.func120 kr rfl az.step (aT 6) (aT 8) (fun W v0 v1 hG h0 h1 => aa bly W v0 v1 h0 h1)))
   (Rg.ay (Rg.plain rfl (yu Tryz.func140 kr rfl az.step (aT 4) (aT 9) (fun W v0 v1 hG h0 h1 => aa HHC W v0 v1 h0 h1)))
   (Rg.ay (Rg.plain rfl (nz rfl (aT 10)))
   Rg.bg)))))))))))) ?_
 intro v V1 hG1 hv hne
 clear hne
 simp only [Rg.puts, List.take_succ_cons, List.take_zero, List.drop_succ_cons, List.drop_zero, Act.put, List.setIfInBounds_toArray, List.set_cons_zero, List.set_cons_succ]
 have e11 : v 11 = .int .i64 o := hv 11 (by decide)
 simp only [e11]
 have hO := hG1.1
 clear hG1
 try clear e11
 try clear hv
 replace HO := hide hO
 clear hO
 have HB := hide (aa HO).bel
 clear HO
 go_wp2_with fail
 all_goals first | go_ret | skip
 exact ⟨_, rfl, aa HB, rfl⟩
theorem ahv (x : Rat) (W : World) (v : Value) (h : Ca x W v) : Calls Tryz.prog 117 #[v] W (il (Df (x.den : Int)) W) := by
 obtain ⟨A1, c1, l1, m1, A2, c2, l2, m2, rfl, hq⟩ := h
 exact (Qg A1 c1 l1 m1 A2 c2 l2 m2 x W hq).mono (fun e w' => Ur)
theorem bgn (W : World) : Calls Tryz.prog 129 #[] W (il (Df 1) W) := (Sq W).mono (fun e w' => Ur)
theorem ara {a b : Int} {K : Nat} (ha : Wd.Sz eu K a) (hb : Wd.Sz eu K b) (hK : 4 * K + 4 ≤ 35184372088832) (W : World) (v0 v1 : Value) (h0 : Df a W v0) (h1 : Df b W v1) : Calls Tryz.prog 120 #[v0, v1] W (il (Df (a * b)) W) := by
 obtain ⟨A1, c1, l1, m1, rfl, f1⟩ := h0
 obtain ⟨A2, c2, l2, m2, rfl, f2⟩ := h1
 exact (aeu A1 c1 l1 m1 a A2 c2 l2 m2 b W f1 f2 (by have := f1.len ha; have := f2.len hb; omega)).mono (fun e w' => Ur)
theorem bdy {a b : Int} (W : World) (v0 v1 : Value) (h0 : Df a W v0) (h1 : Df b W v1) : Calls Tryz.prog 140 #[v0, v1] W (il (Rg.ax (.int .i64 (iw (a - b)))) W) := by
 obtain ⟨A1, c1, l1, m1, rfl, f1⟩ := h0
 obtain ⟨A2, c2, l2, m2, rfl, f2⟩ := h1
 exact (asr A1 c1 l1 m1 a A2 c2 l2 m2 b W f1 f2).mono (fun e w' h => ⟨_, h.1, h.2, rfl⟩)
theorem Qt (x : Rat) (W : World) (v : Value) (h : Ca x W v) : Calls Tryz.prog 72 #[v] W (il (Ca (Rat.divInt (x.den : Int) 1)) W) :=
 avi x _ W v h (Wd.Bw _).1.symm (Wd.Bw _).2.symm (fun W v h => ahv x W v h) bgn
theorem Hr {x y : Rat} {K : Nat} (sx : Wd.Ag eu K x) (sy : Wd.Ag eu K y) (hK : 4 * K + 4 ≤ 35184372088832) (W : World) (v0 v1 : Value) (h0 : Ca x W v0) (h1 : Ca y W v1) : Calls Tryz.prog 71 #[v0, v1] W (il (Rg.ax (.int .i64 (iw (x.num * (y.den : Int) - y.num * (x.den : Int))))) W) :=
 avl x y _ W v0 v1 h0 h1 (fun W v h => ahv y W v h) (fun W v0 v1 h0 h1 => ara sx.1 sy.2 hK W v0 v1 h0 h1) (fun W v h => ahv x W v h) (fun W v0 v1 h0 h1 => ara sy.1 sx.2 hK W v0 v1 h0 h1) (fun W v0 v1 h0 h1 => bdy W v0 v1 h0 h1)
theorem bgo (n : Int) (b1 : -9223372036854775808 ≤ n) (b2 : n ≤ 9223372036854775807) (W : World) : Calls Tryz.prog 80 #[.int .i64 n] W (il (Ca (Rat.divInt n 1)) W) :=
 (aex n _ W b1 b2 (Wd.Bw n).1.symm (Wd.Bw n).2.symm).mono (fun e w' => Ih)
theorem amv {x y : Rat} {K : Nat} (sx : Wd.Ag eu K x) (sy : Wd.Ag eu K y) (hK : 4 * K + 4 ≤ 35184372088832)  (W : World) (v0 v1 : Value) (h0 : Ca x W v0) (h1 : Ca y W v1) : Calls Tryz.prog 50 #[v0, v1] W (il (Ca (x + y)) W) := by
 obtain ⟨A1, c1, l1, m1, A2, c2, l2, m2, rfl, f1⟩ := h0
 obtain ⟨A3, c3, l3, m3, A4, c4, l4, m4, rfl, f2⟩ := h1
 exact (anz K A1 c1 l1 m1 A2 c2 l2 m2 A3 c3 l3 m3 A4 c4 l4 m4 x y W f1 f2 sx sy hK).mono (fun e w' => Ih)
theorem Qs {x y : Rat} {K : Nat} (sx : Wd.Ag eu K x) (sy : Wd.Ag eu K y) (hK : 4 * K + 4 ≤ 35184372088832)  (W : World) (v0 v1 : Value) (h0 : Ca x W v0) (h1 : Ca y W v1) : Calls Tryz.prog 52 #[v0, v1] W (il (Ca (x * y)) W) := by
 obtain ⟨A1, c1, l1, m1, A2, c2, l2, m2, rfl, f1⟩ := h0
 obtain ⟨A3, c3, l3, m3, A4, c4, l4, m4, rfl, f2⟩ := h1
 exact (anw K A1 c1 l1 m1 A2 c2 l2 m2 A3 c3 l3 m3 A4 c4 l4 m4 x y W f1 f2 sx sy hK).mono (fun e w' => Ih)
theorem bgp {x y : Rat} {K : Nat} (sx : Wd.Ag eu K x) (sy : Wd.Ag eu K y) (hK : 4 * K + 4 ≤ 35184372088832) (h0q : y.num ≠ 0) (W : World) (v0 v1 : Value) (h0 : Ca x W v0) (h1 : Ca y W v1) : Calls Tryz.prog 54 #[v0, v1] W (il (Ca (x / y)) W) := by
 obtain ⟨A1, c1, l1, m1, A2, c2, l2, m2, rfl, f1⟩ := h0
 obtain ⟨A3, c3, l3, m3, A4, c4, l4, m4, rfl, f2⟩ := h1
 exact (acs K A1 c1 l1 m1 A2 c2 l2 m2 A3 c3 l3 m3 A4 c4 l4 m4 x y W f1 f2 sx sy hK h0q).mono (fun e w' => Ih)
theorem Xo {x : Rat} {K : Nat} (sx : Wd.Ag eu K x) (hK : 4 * K + 4 ≤ 35184372088832) (W : World) (v0 : Value) (h0 : Ca x W v0) : Calls Tryz.prog 63 #[v0] W (il (Ca (Rat.divInt (x.num / (x.den : Int)) 1)) W) := by
 obtain ⟨A1, c1, l1, m1, A2, c2, l2, m2, rfl, f1⟩ := h0
 exact (Yb K A1 c1 l1 m1 A2 c2 l2 m2 x W f1 sx hK).mono (fun e w' => Ih)
theorem axn {x : Rat} (W : World) (v0 : Value) (h0 : Ca x W v0) : Calls Tryz.prog 121 #[v0] W (il (Ca (-x)) W) := by
 obtain ⟨A1, c1, l1, m1, A2, c2, l2, m2, rfl, f1⟩ := h0
 exact (Uz A1 c1 l1 m1 A2 c2 l2 m2 x W f1).mono (fun e w' => Ih)

end Go.Proofs.YtjdnmdlnaoedoaaGreatDoor
namespace Go.Proofs.YtjdnmdlnaoedoaaGreatDoor
open Go.RowKit


theorem alx {n d : Int} (h : Wd.xh n d) : -9223372036854775808 ≤ n ∧ n ≤ 9223372036854775807 ∧ -9223372036854775808 ≤ d ∧ d ≤ 9223372036854775807 ∧ d ≠ 0 := by
 obtain ⟨r1, r2, r3, r4, _⟩ := h
 exact ⟨by omega, by omega, by omega, by omega, by omega⟩
theorem azi {n d : Int} (h : Wd.xh n d) : Wd.Ag eu 2 (Wd.qR n d) := by
 obtain ⟨a1, a2⟩ := Wd.Nt h
 obtain ⟨r1, r2, r3, r4, _⟩ := h
 unfold Wd.Ag Wd.Sz
 rw [a1, a2, gp]
 exact ⟨by omega, by omega⟩
theorem bgc {n d : Int} (h : Wd.xh n d) (W : World) : Calls Tryz.prog 48 #[(Value.agg #[.int .i64 n, .int .i64 d])] W fun e w' => QR W (Wd.qR n d) e w' := by
 obtain ⟨b1, b2, b3, b4, b5⟩ := alx h
 exact ayi n d W b1 b2 b3 b4 b5
end Go.Proofs.YtjdnmdlnaoedoaaGreatDoor
namespace Go.Proofs.YtjdnmdlnaoedoaaGreatDoor
open Go.RowKit

theorem acw (A1 : Option Addr) (c1 : Nat) (l1 : List Nat) (m1 : Bool) (A2 : Option Addr) (c2 : Nat) (l2 : List Nat) (m2 : Bool) (q : Rat) (w : World) (h : QV w A1 c1 l1 m1 A2 c2 l2 m2 q) :
  Calls Tryz.prog 102 #[.agg #[.slice A1 l1.length c1, .bool m1, .slice A2 l2.length c2, .bool m2]] w fun e w' => blr w q e w' := by
 have qm := hide (fun W (hW : Below w.heap.size w W) => Zy A1 c1 l1 m1 q.num W (h.num.below hW))
 have HS2 := hide (fun A c l m W (f : ik W A c l m (q.den : Int)) => Zy A c l m (q.den : Int) W f)
 have HD := hide (fun W (hW : Below w.heap.size w W) => Qg A1 c1 l1 m1 A2 c2 l2 m2 q W (h.below hW))
 have ht : (Wd.fits q → Wd.told q = ⟨q.num, q.den, 0⟩) ∧ (¬ Wd.fits q → Wd.told q = ⟨0, 0, 3⟩) := ⟨fun h => if_pos h, fun h => if_neg h⟩
 have hfi : Wd.fits q ↔ q.num.natAbs ≤ 1000000000000 ∧ q.den ≤ 1000000000000 := Iff.rfl
 have HT := hide (And.intro ht hfi)
 clear h ht hfi
 go_enter Tryz.func102, Tryz.ntmps102
 go_wp2_with fail
 obtain ⟨n0, n1, hsz, hw0⟩ := uu w (.cells #[.slice A1 l1.length c1, .bool m1, .slice A2 l2.length c2, .bool m2] 63) (.cells #[.int .i64 0, .int .i64 0] 23)
 generalize ((w.alloc (.cells #[.slice A1 l1.length c1, .bool m1, .slice A2 l2.length c2, .bool m2] 63)).alloc (.cells #[.int .i64 0, .int .i64 0] 23)) = W0 at *
 have k0 : W0.cell? ⟨w.heap.size, 0, none⟩ = some (.slice A1 l1.length c1) := ah n0 0
 have k1 : W0.cell? ⟨w.heap.size, 1, none⟩ = some (.bool m1) := ah n0 1
 have k2 : W0.cell? ⟨w.heap.size, 2, none⟩ = some (.slice A2 l2.length c2) := ah n0 2
 have k3 : W0.cell? ⟨w.heap.size, 3, none⟩ = some (.bool m2) := ah n0 3
 have p0 : W0.cell? ⟨w.heap.size + 1, 0, none⟩ = some (.int .i64 0) := ah n1 0
 have p1 : W0.cell? ⟨w.heap.size + 1, 1, none⟩ = some (.int .i64 0) := ah n1 1
 have v0 := bf n1 0; have v1 := bf n1 1
 have q0 := lt_of_block n0; have q1 := lt_of_block n1
 clear n0 n1 hsz
 refine ((aa qm) _ hw0).mono ?_
 rintro e W1 ⟨x1, ok1, rfl, hok1, hx1, hb1⟩
 obtain ⟨hc1, hf1⟩ := fu hb1
 have hw1 := bz hw0 hb1
 have OK1 := Lib.hid hok1; have X1 := hide hx1; have HB1 := hide hb1; have HW1 := hide hw1
 clear hok1 hx1 hb1 hw1
 go_wp2_with fail
 refine ((aa HD) _ (aa HW1)).mono ?_
 rintro e W2 ⟨A9, c9, l9, m9, rfl, f9, hb2⟩
 have F9 := hide f9
 clear f9
 have hb2' := bz (aa HB1) hb2
 obtain ⟨hc2, hf2⟩ := fu hb2'
 have hw2 := bz hw0 hb2'
 have HB2 := hide hb2'; have HW2 := hide hw2
 clear hb2 hb2' hw2 hc1 hf1
 go_wp2_with fail
 refine ((aa HS2) A9 c9 l9 m9 _ (aa F9)).mono ?_
 rintro e W3 ⟨x2, ok2, rfl, hok2, hx2, hb3⟩
 have Pq := bz (aa HB2) hb3
 obtain ⟨hc3, hf3⟩ := fu Pq
 have hw3 := bz hw0 Pq
 have OK2 := Lib.hid hok2; have X2 := hide hx2; have HW3 := hide hw3
 have hg9 : ∀ u0 u1 : Value, Below w.heap.size w ((W3.setCell ⟨w.heap.size + 1, 0, none⟩ u0).setCell ⟨w.heap.size + 1, 1, none⟩ u1) := fun u0 u1 => hw3.grown (lg _ _ _ _) hw3.size (fun k hk => by injection hk with hk; omega)
 have HG9 := hide hg9
 clear hok2 hx2 hb3 Pq hw3 hc2 hf2 hg9 qm HS2 HD HB1 HB2 HW1 HW2
 cases ok1 <;> cases ok2
 ·
  have hn : ¬ Wd.fits q := fun h => by have := (aa HT).2.1 h; have h2 := of_decide_eq_false OK1.out.symm; omega
  have HN := Lib.hid ((aa HT).1.2 hn)
  clear hn
  go_wp2_with fail
  exact bodyPost_ret (v := .tuple #[.agg #[.int .i64 0, .int .i64 0], .bool false]) (by simp [results, Tryz.results102, go_sem, hc3, p0, p1, q1]) rfl ⟨0, 0, false, rfl, (aa HG9) _ _, .inr ⟨rfl, HN.out⟩⟩
 ·
  have hn : ¬ Wd.fits q := fun h => by have := (aa HT).2.1 h; have h2 := of_decide_eq_false OK1.out.symm; omega
  have HN := Lib.hid ((aa HT).1.2 hn)
  clear hn
  go_wp2_with fail
  exact bodyPost_ret (v := .tuple #[.agg #[.int .i64 0, .int .i64 0], .bool false]) (by simp [results, Tryz.results102, go_sem, hc3, p0, p1, q1]) rfl ⟨0, 0, false, rfl, (aa HG9) _ _, .inr ⟨rfl, HN.out⟩⟩
 ·
  have hn : ¬ Wd.fits q := fun h => by have := (aa HT).2.1 h; have h2 := of_decide_eq_false OK2.out.symm; omega
  have HN := Lib.hid ((aa HT).1.2 hn)
  clear hn
  go_wp2_with fail
  exact bodyPost_ret (v := .tuple #[.agg #[.int .i64 0, .int .i64 0], .bool false]) (by simp [results, Tryz.results102, go_sem, hc3, p0, p1, q1]) rfl ⟨0, 0, false, rfl, (aa HG9) _ _, .inr ⟨rfl, HN.out⟩⟩
 ·
  have e1 := (aa X1) rfl
  have e2 := (aa X2) rfl
  subst e1 e2
  by_cases hfit : Wd.fits q
  ·
   have HN := Lib.hid ((aa HT).1.1 hfit)
   obtain ⟨a1, a2⟩ := (aa HT).2.1 hfit
   have d1 : decide (q.num < -1000000000000) = false := decide_eq_false om
   have d2 : decide (1000000000000 < q.num) = false := decide_eq_false om
   have d3 : decide ((1000000000000 : Int) < (q.den : Int)) = false := decide_eq_false om
   clear hfit
   go_wp2_with fail
   all_goals first | omega | skip
   exact bodyPost_ret (v := .tuple #[.agg #[.int .i64 q.num, .int .i64 q.den], .bool true]) (by simp [results, Tryz.results102, go_sem, hc3, p0, p1, q1]) rfl ⟨q.num, q.den, true, rfl, (aa HG9) _ _, .inl ⟨rfl, HN.out⟩⟩
  ·
   have HN := Lib.hid ((aa HT).1.2 hfit)
   have hor : q.num < -1000000000000 ∨ 1000000000000 < q.num ∨ (1000000000000 : Int) < (q.den : Int) := by
    have h1 := (aa HT).2.2
    by_cases a : q.num < -1000000000000
    ·
     exact .inl a
    by_cases b : 1000000000000 < q.num
    ·
     exact .inr (.inl b)
    by_cases c : (1000000000000 : Int) < (q.den : Int)
    ·
     exact .inr (.inr c)
    exact absurd (h1 ⟨by omega, by omega⟩) hfit
   clear hfit
   go_wp2_with fail
   all_goals first | omega | skip
   all_goals exact bodyPost_ret (v := .tuple #[.agg #[.int .i64 0, .int .i64 0], .bool false]) (by simp [results, Tryz.results102, go_sem, hc3, p0, p1, q1]) rfl ⟨0, 0, false, rfl, (aa HG9) _ _, .inr ⟨rfl, HN.out⟩⟩
end Go.Proofs.YtjdnmdlnaoedoaaGreatDoor
namespace Go.Proofs.YtjdnmdlnaoedoaaGreatDoor
open Go.RowKit

namespace Sb
theorem Ue {W : World} {x : Rat} {v : Value} (h : ai [.r x] W v) : ∃ A1 c1 l1 m1 A2 c2 l2 m2, v = .agg #[.slice A1 (List.length l1) c1, .bool m1, .slice A2 (List.length l2) c2, .bool m2] ∧ QV W A1 c1 l1 m1 A2 c2 l2 m2 x := by
 obtain ⟨cs, rfl, h⟩ := h
 obtain ⟨A1, c1, l1, m1, A2, c2, l2, m2, r, rfl, h1, h⟩ := h.ael
 cases h
 exact ⟨_, _, _, _, _, _, _, _, rfl, h1⟩
theorem Wm {W : World} {x y : Rat} {v : Value} (h : ai [.r x, .r y] W v) : ∃ A1 c1 l1 m1 A2 c2 l2 m2 A3 c3 l3 m3 A4 c4 l4 m4, v = .agg #[.slice A1 (List.length l1) c1, .bool m1, .slice A2 (List.length l2) c2, .bool m2, .slice A3 (List.length l3) c3, .bool m3, .slice A4 (List.length l4) c4, .bool m4] ∧ QV W A1 c1 l1 m1 A2 c2 l2 m2 x ∧ QV W A3 c3 l3 m3 A4 c4 l4 m4 y := by
 obtain ⟨cs, rfl, h⟩ := h
 obtain ⟨A1, c1, l1, m1, A2, c2, l2, m2, r, rfl, h1, h⟩ := h.ael
 obtain ⟨A3, c3, l3, m3, A4, c4, l4, m4, r, rfl, h2, h⟩ := h.ael
 cases h
 exact ⟨_, _, _, _, _, _, _, _, _, _, _, _, _, _, _, _, rfl, h1, h2⟩
theorem Nr {W : World} {x : Rat} {v : Value} (h : ai [.r x] W v) : Ca x W v := by
 obtain ⟨A1, c1, l1, m1, A2, c2, l2, m2, rfl, h1⟩ := Ue h
 exact ⟨_, _, _, _, _, _, _, _, rfl, h1⟩
theorem bgb {W : World} {x : Rat} {v : Value} (h : Ca x W v) : ai [.r x] W v := by
 obtain ⟨A1, c1, l1, m1, A2, c2, l2, m2, rfl, h1⟩ := h
 exact ⟨_, rfl, gu.r h1 rfl⟩
theorem Jw {w w' : World} {q : Rat} {e : Ending} (h : il (Ca q) w e w') : il (ai [.r q]) w e w' := by
 obtain ⟨u, h1, h2, h3⟩ := h
 exact ⟨u, h1, h2, bgb h3⟩
def qd (K : Nat) (x : Rat) : Prop := Wd.Ag eu K x ∧ K ≤ 1000000
theorem Bq {n d : Int} (ok : Wd.xh n d) : qd 2 (Wd.qR n d) := ⟨azi ok, by omega⟩
def Bb : World → Value → Prop := fun W v => ∃ n d : Int, ai [.v (.int .i64 n), .v (.int .i64 d)] W v
theorem Bf : Rg.Em gm Bb := fun w w' v hb ⟨n, d, h⟩ => ⟨n, d, au _ _ _ _ hb h⟩
variable {W : World} {v0 v1 : Value} {x y : Rat} {K : Nat}
theorem Hg (hx : qd K x) (hy : qd K y) (h0 : ai [.r x] W v0) (h1 : ai [.r y] W v1) : Calls Tryz.prog 71 #[v0, v1] W (il (Rg.ax (.int .i64 (iw (x.num * y.den - y.num * x.den)))) W) :=
 Go.Proofs.YtjdnmdlnaoedoaaGreatDoor.Hr hx.1 hy.1 (by have := hx.2; omega) W v0 v1 (Nr h0) (Nr h1)
theorem aek (hx : qd K x) (hy : qd K y) (h0 : ai [.r x] W v0) (h1 : ai [.r y] W v1) : Calls Tryz.prog 52 #[v0, v1] W (il (ai [.r (x * y)]) W) :=
 (Go.Proofs.YtjdnmdlnaoedoaaGreatDoor.Qs hx.1 hy.1 (by have := hx.2; omega) W v0 v1 (Nr h0) (Nr h1)).mono fun e w' h => Jw h
theorem bfz (hx : qd K x) (hy : qd K y) (h0 : ai [.r x] W v0) (h1 : ai [.r y] W v1) : Calls Tryz.prog 50 #[v0, v1] W (il (ai [.r (x + y)]) W) :=
 (Go.Proofs.YtjdnmdlnaoedoaaGreatDoor.amv hx.1 hy.1 (by have := hx.2; omega) W v0 v1 (Nr h0) (Nr h1)).mono fun e w' h => Jw h
theorem abv {n d : Int} (ok : Wd.xh n d) (h0 : ai [.v (.int .i64 n), .v (.int .i64 d)] W v0) : Calls Tryz.prog 48 #[v0] W (il (ai [.r (Wd.qR n d)]) W) := by
 rw [Wl h0]
 exact (bgc ok W).mono fun e w' h => Jw (Ih h)
theorem Yp {n d : Int} (h0 : ai [.v (.int .i64 n), .v (.int .i64 d)] W v0) : Calls Tryz.prog 60 #[v0] W (il (Rg.ax (.bool (decide (Wd.xh n d)))) W) := by
 rw [Wl h0]
 exact (ayj n d W).mono fun e w' h => We h
theorem Ow (hf : Wd.fits x) (h0 : ai [.r x] W v0) : Calls Tryz.prog 102 #[v0] W (il (qa [ai [.v (.int .i64 x.num), .v (.int .i64 (x.den : Int))], Rg.ax (.bool true)]) W) := by
 obtain ⟨A1, c1, l1, m1, A2, c2, l2, m2, rfl, h1⟩ := Ue h0
 refine (acw A1 c1 l1 m1 A2 c2 l2 m2 x W h1).mono fun e w' ⟨n, d, ok, he, hb, hc⟩ => ?_
 have ht : Wd.told x = ⟨x.num, x.den, 0⟩ := if_pos hf
 rw [ht] at hc
 rcases hc with ⟨rfl, h2⟩ | ⟨_, h2⟩
 ·
  injection h2 with e1 e2 e3
  subst e1 e2
  exact ⟨_, he, hb, [_, _], rfl, _, _, rfl, Uf _ _ _, _, _, rfl, rfl, rfl⟩
 ·
  injection h2 with e1 e2 e3
  omega
theorem Ox (hf : ¬ Wd.fits x) (h0 : ai [.r x] W v0) : Calls Tryz.prog 102 #[v0] W (il (qa [Bb, Rg.ax (.bool false)]) W) := by
 obtain ⟨A1, c1, l1, m1, A2, c2, l2, m2, rfl, h1⟩ := Ue h0
 refine (acw A1 c1 l1 m1 A2 c2 l2 m2 x W h1).mono fun e w' ⟨n, d, ok, he, hb, hc⟩ => ?_
 have ht : Wd.told x = ⟨0, 0, 3⟩ := if_neg hf
 rw [ht] at hc
 rcases hc with ⟨_, h2⟩ | ⟨rfl, h2⟩
 ·
  injection h2 with e1 e2 e3
  omega
 ·
  exact ⟨_, he, hb, [_, _], rfl, _, _, rfl, ⟨n, d, Uf _ _ _⟩, _, _, rfl, rfl, rfl⟩
theorem afy : Io Tryz.prog 100 8 := by
 intro ρ w d x b off us ty pos af gd hl hc hx
 match us, hl with
 | [u0, u1, u2, u3, u4, u5, u6, u7], _ =>
 have k0 : w.cell? ⟨b, off, none⟩ = some u0 := hc 0 om
 have k1 : w.cell? ⟨b, off + 1, none⟩ = some u1 := hc 1 om
 have k2 : w.cell? ⟨b, off + 2, none⟩ = some u2 := hc 2 om
 have k3 : w.cell? ⟨b, off + 3, none⟩ = some u3 := hc 3 om
 have k4 : w.cell? ⟨b, off + 4, none⟩ = some u4 := hc 4 om
 have k5 : w.cell? ⟨b, off + 5, none⟩ = some u5 := hc 5 om
 have k6 : w.cell? ⟨b, off + 6, none⟩ = some u6 := hc 6 om
 have k7 : w.cell? ⟨b, off + 7, none⟩ = some u7 := hc 7 om
 clear hc
 simp only [execOp, hx]
 simp [go_sem, k0, k1, k2, k3, k4, k5, k6, k7]
theorem Jh : Cv Tryz.prog 100 8 := by
 intro ρ w d p x b off cs TB us ty pos af gd hl hu hb ho hp hx
 match us, hl with
 | [u0, u1, u2, u3, u4, u5, u6, u7], _ =>
 have o0 := hu u0 (by simp)
 have o1 := hu u1 (by simp)
 have o2 := hu u2 (by simp)
 have o3 := hu u3 (by simp)
 have o4 := hu u4 (by simp)
 have o5 := hu u5 (by simp)
 have o6 := hu u6 (by simp)
 have o7 := hu u7 (by simp)
 have f0 : w.frozen? ⟨b, off, none⟩ = false := bf hb _
 have f1 : w.frozen? ⟨b, off + 1, none⟩ = false := bf hb _
 have f2 : w.frozen? ⟨b, off + 2, none⟩ = false := bf hb _
 have f3 : w.frozen? ⟨b, off + 3, none⟩ = false := bf hb _
 have f4 : w.frozen? ⟨b, off + 4, none⟩ = false := bf hb _
 have f5 : w.frozen? ⟨b, off + 5, none⟩ = false := bf hb _
 have f6 : w.frozen? ⟨b, off + 6, none⟩ = false := bf hb _
 have f7 : w.frozen? ⟨b, off + 7, none⟩ = false := bf hb _
 obtain ⟨c0, k0⟩ : ∃ c, w.cell? ⟨b, off, none⟩ = some c := lh hb om
 obtain ⟨c1, k1⟩ : ∃ c, w.cell? ⟨b, off + 1, none⟩ = some c := lh hb om
 obtain ⟨c2, k2⟩ : ∃ c, w.cell? ⟨b, off + 2, none⟩ = some c := lh hb om
 obtain ⟨c3, k3⟩ : ∃ c, w.cell? ⟨b, off + 3, none⟩ = some c := lh hb om
 obtain ⟨c4, k4⟩ : ∃ c, w.cell? ⟨b, off + 4, none⟩ = some c := lh hb om
 obtain ⟨c5, k5⟩ : ∃ c, w.cell? ⟨b, off + 5, none⟩ = some c := lh hb om
 obtain ⟨c6, k6⟩ : ∃ c, w.cell? ⟨b, off + 6, none⟩ = some c := lh hb om
 obtain ⟨c7, k7⟩ : ∃ c, w.cell? ⟨b, off + 7, none⟩ = some c := lh hb om
 have hlt := lt_of_block hb
 clear hb ho hu
 simp only [execOp, hp, hx, setM]
 simp [go_sem, hlt, run_store _ _ _ _ _ o0, o0, run_store _ _ _ _ _ o1, o1, run_store _ _ _ _ _ o2, o2, run_store _ _ _ _ _ o3, o3, run_store _ _ _ _ _ o4, o4, run_store _ _ _ _ _ o5, o5, run_store _ _ _ _ _ o6, o6, run_store _ _ _ _ _ o7, o7, k0, k1, k2, k3, k4, k5, k6, k7, f0, f1, f2, f3, f4, f5, f6, f7]
theorem bgd : Kg Tryz.prog 100 [.slice none 0 0, .bool false, .slice none 0 0, .bool false, .slice none 0 0, .bool false, .slice none 0 0, .bool false] := by
 intro ρ w d ty pos af gd
 simp only [execOp]
 simp [go_sem]
theorem Kv : Hz Tryz.prog 100 8 := by
 intro w b off us hl hc
 match us, hl with
 | [u0, u1, u2, u3, u4, u5, u6, u7], _ =>
 have k0 : w.cell? ⟨b, off, none⟩ = some u0 := hc 0 om
 have k1 : w.cell? ⟨b, off + 1, none⟩ = some u1 := hc 1 om
 have k2 : w.cell? ⟨b, off + 2, none⟩ = some u2 := hc 2 om
 have k3 : w.cell? ⟨b, off + 3, none⟩ = some u3 := hc 3 om
 have k4 : w.cell? ⟨b, off + 4, none⟩ = some u4 := hc 4 om
 have k5 : w.cell? ⟨b, off + 5, none⟩ = some u5 := hc 5 om
 have k6 : w.cell? ⟨b, off + 6, none⟩ = some u6 := hc 6 om
 have k7 : w.cell? ⟨b, off + 7, none⟩ = some u7 := hc 7 om
 clear hc
 simp [go_sem, k0, k1, k2, k3, k4, k5, k6, k7]
theorem ach : Si Tryz.prog 100 4 4 := by
 intro ρ w d x y us vs ty pos af gd h1 h2 e1 e2
 match us, h1, vs, h2 with
 | [u0, u1, u2, u3], _, [v0, v1, v2, v3], _ =>
 simp only [execOp]
 simp [go_sem, e1, e2]
 try rfl
theorem avu : air Tryz.prog 63 [.slice none 0 0, .bool false, .slice none 0 0, .bool false] := by
 intro ρ w d ty pos af gd
 simp only [execOp]
 simp [go_sem]
 try rfl
theorem Uc : Lg Tryz.prog 154 63 2 4 := by
 intro ρ w d ps cs ty pos af gd hm h
 match ps, hm with
 | [(i0, x0), (i1, x1)], _ =>
 obtain ⟨Uu, r0, rfl, l0, e0, g0, h⟩ := h
 obtain ⟨Zx, r1, rfl, l1, e1, g1, h⟩ := h
 cases h
 match Uu, l0 with
 | [aib, aia, ahz, ahy], _ =>
 match Zx, l1 with
 | [anj, ani, anh, ang], _ =>
 dsimp only at e0 e1 g0 g1
 subst e0 e1
 simp only [execOp]
 simp [go_sem, g0, g1]
 try rfl
theorem amw : Lg Tryz.prog 154 63 3 4 := by
 intro ρ w d ps cs ty pos af gd hm h
 match ps, hm with
 | [(i0, x0), (i1, x1), (i2, x2)], _ =>
 obtain ⟨Uu, r0, rfl, l0, e0, g0, h⟩ := h
 obtain ⟨Zx, r1, rfl, l1, e1, g1, h⟩ := h
 obtain ⟨us2, r2, rfl, l2, e2, g2, h⟩ := h
 cases h
 match Uu, l0 with
 | [aib, aia, ahz, ahy], _ =>
 match Zx, l1 with
 | [anj, ani, anh, ang], _ =>
 match us2, l2 with
 | [bll, blj, bli, blh], _ =>
 dsimp only at e0 e1 e2 g0 g1 g2
 subst e0 e1 e2
 simp only [execOp]
 simp [go_sem, g0, g1, g2]
 try rfl
theorem azz : Iq Tryz.prog (fun x => .fieldAddr 100 x 0) 0 := by
 intro a w d x b off ty pos af gd hx
 have hc : ∀ v, a.eval (.const v) = v := fun _ => rfl
 simp only [execOp, hx, hc]
 simp [go_sem]
theorem zf {Q : Exit → Act → World → Prop} {l : List Oper} {n : Nat} {T : Nat → World → Value → Prop} {G : World → Prop} {al : List Nat} {a0 : Act} {k d : Nat} {ty : TypeId} {pos : String} {af : Array Edge} {gd : Option (Nat × Bool)} {b off off' : Nat} {x : Operand} (hal : al.contains k = false) (hx : Rg.ji l n T a0 k x (Rg.ax (.pointer (some ⟨b, off, none⟩)))) (ho : off + 0 = off') (hT : T k = Rg.ax (.pointer (some ⟨b, off', none⟩))) :
  Rg.Step Tryz.prog Q l n T G gm al a0 k { dst := some d, op := .fieldAddr 100 x 0, type := ty, pos := pos, after := af, guard := gd } := by
 exact Jv (P := Tryz.prog) (o := fun x => .fieldAddr 100 x 0) azz hal hx ho hT
theorem azy : Iq Tryz.prog (fun x => .fieldAddr 100 x 1) 4 := by
 intro a w d x b off ty pos af gd hx
 have hc : ∀ v, a.eval (.const v) = v := fun _ => rfl
 simp only [execOp, hx, hc]
 simp [go_sem]
theorem xm {Q : Exit → Act → World → Prop} {l : List Oper} {n : Nat} {T : Nat → World → Value → Prop} {G : World → Prop} {al : List Nat} {a0 : Act} {k d : Nat} {ty : TypeId} {pos : String} {af : Array Edge} {gd : Option (Nat × Bool)} {b off off' : Nat} {x : Operand} (hal : al.contains k = false) (hx : Rg.ji l n T a0 k x (Rg.ax (.pointer (some ⟨b, off, none⟩)))) (ho : off + 4 = off') (hT : T k = Rg.ax (.pointer (some ⟨b, off', none⟩))) :
  Rg.Step Tryz.prog Q l n T G gm al a0 k { dst := some d, op := .fieldAddr 100 x 1, type := ty, pos := pos, after := af, guard := gd } := by
 exact Jv (P := Tryz.prog) (o := fun x => .fieldAddr 100 x 1) azy hal hx ho hT
theorem Gs {Q : Exit → Act → World → Prop} {l : List Oper} {n : Nat} {T : Nat → World → Value → Prop} {G : World → Prop} {al : List Nat} {a0 : Act} {k d : Nat} {ty : TypeId} {pos : String} {af : Array Edge} {gd : Option (Nat × Bool)} {b i m : Nat} {x y : Operand} (hal : al.contains k = false) (hx : Rg.ji l n T a0 k x (Rg.ax (.slice (some ⟨b, 0, none⟩) m m))) (hy : Rg.ji l n T a0 k y (Rg.ax (.int .i64 (i : Int)))) (hi : i < m) (hT : T k = Rg.ax (.pointer (some ⟨b, 4 * i, none⟩))) :
  Rg.Step Tryz.prog Q l n T G gm al a0 k { dst := some d, op := .indexAddr 154 x y, type := ty, pos := pos, after := af, guard := gd } := by
 intro a w hG hO hN
 have h1 := hx a w hO hN
 have h2 := hy a w hO hN
 have hr : (execOp a.eval { dst := some d, op := .indexAddr 154 x y, type := ty, pos := pos, after := af, guard := gd }).run Tryz.prog w = .ok (.value (.pointer (some ⟨b, 4 * i, none⟩))) w := by
  have h1' : a.eval x = .slice (some ⟨b, 0, none⟩) m m := h1
  have h2' : a.eval y = .int .i64 (i : Int) := h2
  simp only [execOp, h1', h2']
  simp [go_sem, hi, Nat.mul_comm]
 exact pz (P := Tryz.prog) hr ⟨_, rfl, hG, Below.refl _ _, by rw [hT]; rfl, fun h => by rw [hal] at h; cases h⟩
end Sb

end Go.Proofs.YtjdnmdlnaoedoaaGreatDoor
