/- Part 11 of the texts beneath a law of layer 1: RfDoB, RfFlW, RfInt, RfQa1, RfQa2, RfQa3, RfQm1, RfQm2, RfQm3. -/
import Derived.Test.YtmahhmdodfimbaaGreatDoorCd10
/- Blocks that hold numbers of the reference; whether one is nought. -/
namespace Go.Proofs.YtmahhmdodfimbaaGreatDoor
open Go.RowKit

/-- Block b is new beside Wp and has room for a number of the reference. -/
structure FrQ (Wp W : World) (b : Nat) : Prop where
  old : Wp.heap.size ≤ b
  zero : W.heap[b]? = some (.cells #[.slice none 0 0, .bool false, .slice none 0 0, .bool false] 52 (0, 0))
theorem FrQ.lt {Wp W : World} {b : Nat} (h : FrQ Wp W b) : b < W.heap.size := lt_of_block h.zero
theorem FrQ.drew {Wp W : World} {b : Nat} (h : FrQ Wp W b) : FrQ Wp W.drew b := ⟨h.old, h.zero⟩
theorem FrQ.below {Wp W w' : World} {b : Nat} (h : FrQ Wp W b) (hb : Below W.heap.size W w') : FrQ Wp w' b := ⟨h.old, (hb.block _ h.lt).trans h.zero⟩
theorem FrQ.new {Wp W : World} {b : Nat} (hb : Below Wp.heap.size Wp W) (e : b = W.heap.size) : FrQ Wp (W.alloc (.cells #[.slice none 0 0, .bool false, .slice none 0 0, .bool false] 52 (0, 0))) b := by
  subst e; exact ⟨hb.size, heap_alloc_new W _⟩
theorem FrQ.alloc {Wp W : World} {b : Nat} {o : Obj} (h : FrQ Wp W b) : FrQ Wp (W.alloc o) b := ⟨h.old, (Below.heap_alloc W _ b h.lt).trans h.zero⟩
structure FrQ2 (Wp W : World) (b c : Nat) : Prop where
  one : FrQ Wp W b
  two : FrQ Wp W c
  ne : b ≠ c
theorem FrQ2.newR {Wp W : World} {b c : Nat} (h : FrQ Wp W b) (e : c = W.heap.size) : FrQ2 Wp (W.alloc (.cells #[.slice none 0 0, .bool false, .slice none 0 0, .bool false] 52 (0, 0))) b c := by
  have hl := h.lt
  have ho := h.old
  subst e
  exact ⟨h.alloc, ⟨by omega, heap_alloc_new W _⟩, by omega⟩
theorem FrQ2.newL {Wp W : World} {b c : Nat} (h : FrQ Wp W c) (e : b = W.heap.size) : FrQ2 Wp (W.alloc (.cells #[.slice none 0 0, .bool false, .slice none 0 0, .bool false] 52 (0, 0))) b c := by
  have hl := h.lt
  have ho := h.old
  subst e
  exact ⟨⟨by omega, heap_alloc_new W _⟩, h.alloc, by omega⟩
theorem QV.upto {w w' : World} {g : Nat} {A1a : Option Addr} {c1a : Nat} {l1a : List Nat} {m1a : Bool} {A1b : Option Addr} {c1b : Nat} {l1b : List Nat} {m1b : Bool} {x1 : Rat} {T : TypeId} {cs : Array Value} (h : QV w A1a c1a l1a m1a A1b c1b l1b m1b x1) (hg : w.heap[g]? = some (.cells cs T (0, 0))) (hn : NoW2 cs) (hgr : w.grownBy w' (some g)) : QV w' A1a c1a l1a m1a A1b c1b l1b m1b x1 := by
  obtain ⟨d, h2, h3⟩ := h.den
  exact ⟨h.num.upto hg hn hgr, d, h2.upto hg hn hgr, h3⟩
theorem QV.alloc {W : World} {o : Obj} {A1a : Option Addr} {c1a : Nat} {l1a : List Nat} {m1a : Bool} {A1b : Option Addr} {c1b : Nat} {l1b : List Nat} {m1b : Bool} {x1 : Rat} (h1 : QV W A1a c1a l1a m1a A1b c1b l1b m1b x1) : QV (W.alloc o) A1a c1a l1a m1a A1b c1b l1b m1b x1 := h1.below ((Below.refl _ _).alloc (Nat.le_refl _) _)
/-- Block b holds a number. -/
def BoxQ (w : World) (b : Nat) (x : Rat) : Prop := ∃ A c l m A' c' l' m', w.heap[b]? = some (.cells #[.slice A (List.length l) c, .bool m, .slice A' (List.length l') c', .bool m'] 52 (0, 0)) ∧ QV w A c l m A' c' l' m' x
theorem BoxQ.below {w w' : World} {b : Nat} {x : Rat} (h : BoxQ w b x) (hb : Below w.heap.size w w') : BoxQ w' b x := by
  obtain ⟨A, c, l, m, A', c', l', m', h1, h2⟩ := h
  exact ⟨A, c, l, m, A', c', l', m', (hb.block _ (lt_of_block h1)).trans h1, h2.below hb⟩
theorem BoxQ.new {W : World} {b : Nat} {A1a : Option Addr} {c1a : Nat} {l1a : List Nat} {m1a : Bool} {A1b : Option Addr} {c1b : Nat} {l1b : List Nat} {m1b : Bool} {x1 : Rat} (h1 : QV W A1a c1a l1a m1a A1b c1b l1b m1b x1) (e : b = W.heap.size) : BoxQ (W.alloc (.cells #[.slice A1a l1a.length c1a, .bool m1a, .slice A1b l1b.length c1b, .bool m1b] 52)) b x1 := by
  subst e; exact ⟨_, _, _, _, _, _, _, _, heap_alloc_new W _, h1.alloc⟩
theorem BoxQ.alloc {W : World} {b : Nat} {x : Rat} {o : Obj} (h : BoxQ W b x) : BoxQ (W.alloc o) b x := h.below ((Below.refl _ _).alloc (Nat.le_refl _) _)
theorem FrQ.facts {Wp W : World} {b : Nat} (h : FrQ Wp W b) : (W.cell? ⟨b, 0, none⟩ = some (.slice none 0 0) ∧ W.cell? ⟨b, 1, none⟩ = some (.bool false) ∧ W.cell? ⟨b, 2, none⟩ = some (.slice none 0 0) ∧ W.cell? ⟨b, 3, none⟩ = some (.bool false)) ∧
    (W.frozen? ⟨b, 0, none⟩ = false ∧ W.frozen? ⟨b, 1, none⟩ = false ∧ W.frozen? ⟨b, 2, none⟩ = false ∧ W.frozen? ⟨b, 3, none⟩ = false) ∧
    ((∀ o, (W.alloc o).cell? ⟨b, 0, none⟩ = some (.slice none 0 0)) ∧ (∀ o, (W.alloc o).cell? ⟨b, 1, none⟩ = some (.bool false)) ∧ (∀ o, (W.alloc o).cell? ⟨b, 2, none⟩ = some (.slice none 0 0)) ∧ (∀ o, (W.alloc o).cell? ⟨b, 3, none⟩ = some (.bool false))) ∧
    ((∀ o, (W.alloc o).frozen? ⟨b, 0, none⟩ = false) ∧ (∀ o, (W.alloc o).frozen? ⟨b, 1, none⟩ = false) ∧ (∀ o, (W.alloc o).frozen? ⟨b, 2, none⟩ = false) ∧ (∀ o, (W.alloc o).frozen? ⟨b, 3, none⟩ = false)) ∧
    ¬ (b = W.heap.size) ∧ ¬ (W.heap.size = b) :=
  ⟨⟨cells_of h.zero 0, cells_of h.zero 1, cells_of h.zero 2, cells_of h.zero 3⟩, ⟨unfrozen_of h.zero 0, unfrozen_of h.zero 1, unfrozen_of h.zero 2, unfrozen_of h.zero 3⟩,
   ⟨fun o => cells_of (h.alloc (o := o)).zero 0, fun o => cells_of (h.alloc (o := o)).zero 1, fun o => cells_of (h.alloc (o := o)).zero 2, fun o => cells_of (h.alloc (o := o)).zero 3⟩,
   ⟨fun o => unfrozen_of (h.alloc (o := o)).zero 0, fun o => unfrozen_of (h.alloc (o := o)).zero 1, fun o => unfrozen_of (h.alloc (o := o)).zero 2, fun o => unfrozen_of (h.alloc (o := o)).zero 3⟩, by have := h.lt; omega, by have := h.lt; omega⟩
theorem set4_block {W : World} {b : Nat} {a0 a1 a2 a3 u0 u1 u2 u3 : Value} {T : TypeId} (h : W.heap[b]? = some (.cells #[a0, a1, a2, a3] T (0, 0))) : ((((W.setCell ⟨b, 0, none⟩ u0).setCell ⟨b, 1, none⟩ u1).setCell ⟨b, 2, none⟩ u2).setCell ⟨b, 3, none⟩ u3).heap[b]? = some (.cells #[u0, u1, u2, u3] T (0, 0)) := by
  simp [World.setCell, Array.getElem?_modify, h]
set_option maxRecDepth 100000 in
set_option maxHeartbeats 1000000 in
theorem tqzero_any (A1 : Option Addr) (c1 : Nat) (l1 : List Nat) (m1 : Bool) (A2 : Option Addr) (c2 : Nat) (l2 : List Nat) (m2 : Bool) (q : Rat) (w : World) (h : QV w A1 c1 l1 m1 A2 c2 l2 m2 q) :
    Calls Tryz.prog 46 #[(Value.agg #[.slice A1 l1.length c1, .bool m1, .slice A2 l2.length c2, .bool m2])] w fun e w' => e = .returned (.bool (decide (q.num = 0))) ∧ Below w.heap.size w w' := by
  have hd : decide (q.num = 0) = decide (l1.length = 0) := decide_eq_decide.2 (by rw [← h.num.nat.zero_iff]; omega)
  rw [hd]
  have HI := hide (fun W => tisn_any A1 c1 l1.length m1 W)
  obtain ⟨o, ho⟩ : ∃ o, o = decide (l1.length = 0) := ⟨_, rfl⟩
  rw [← ho] at HI ⊢
  clear h hd ho
  go_enter Tryz.func46, Tryz.ntmps46
  go_wp2_with fail
  refine ((unhide HI) _).mono ?_
  rintro e w' ⟨rfl, hb⟩
  have hb9 := below_step' ((Below.refl _ _).alloc (Nat.le_refl _) (.cells #[.slice A1 l1.length c1, .bool m1, .slice A2 l2.length c2, .bool m2] 52)) hb
  clear hb
  go_wp2_with fail
  all_goals first | go_ret | skip
  exact ⟨rfl, hb9⟩

end Go.Proofs.YtmahhmdodfimbaaGreatDoor
/- The reference: the greatest integer below a quotient of whole numbers. -/
namespace Go.Proofs.YtmahhmdodfimbaaGreatDoor
open Go.RowKit

theorem ediv_pos_ {a b : Int} (hb : 0 < b) (ha : 0 ≤ a) : a / b = ((a.natAbs / b.natAbs : Nat) : Int) := by
  obtain ⟨n, rfl⟩ := Int.eq_ofNat_of_zero_le ha
  obtain ⟨m, rfl⟩ := Int.eq_ofNat_of_zero_le (Int.le_of_lt hb)
  simp
theorem ediv_neg_ {a b : Int} (hb : 0 < b) (ha : a < 0) : (a.natAbs % b.natAbs = 0 → a / b = -((a.natAbs / b.natAbs : Nat) : Int)) ∧ (a.natAbs % b.natAbs ≠ 0 → a / b = -((a.natAbs / b.natAbs + 1 : Nat) : Int)) := by
  obtain ⟨m, rfl⟩ := Int.eq_ofNat_of_zero_le (Int.le_of_lt hb)
  obtain ⟨n, hn⟩ : ∃ n : Nat, a = -(n : Int) := ⟨a.natAbs, by omega⟩
  subst hn
  have e1 : (-(n : Int)).natAbs = n := by omega
  have e2 : ((m : Nat) : Int).natAbs = m := by omega
  rw [e1, e2]
  have hm : 0 < m := by omega
  have hdm := Nat.mod_add_div n m
  have hlt := Nat.mod_lt n hm
  constructor
  · intro h0
    refine ((Int.ediv_emod_unique (r := 0) hb).2 ⟨?_, by omega, hb⟩).1
    rw [h0, Nat.zero_add] at hdm
    rw [Int.mul_neg, ← Int.natCast_mul, hdm]; omega
  · intro h0
    refine ((Int.ediv_emod_unique (r := (m : Int) - ((n % m : Nat) : Int)) hb).2 ⟨?_, by omega, by omega⟩).1
    rw [Int.mul_neg, ← Int.natCast_mul, Nat.mul_add, Nat.mul_one]
    generalize m * (n / m) = t at *
    omega
theorem tnat_one (w : World) : NatT (w.alloc (.cells #[.int .u32 1] 136)) (some ⟨w.heap.size, 0, none⟩) 1 [1] 1 := by
  have hz : ZB .u32 (w.alloc (.cells #[.int .u32 1] 136)) w.heap.size 136 [1] := heap_alloc_new w _
  exact ⟨hz.ws0 _ hz.lt, by simp, by omega, by intro x hx; rw [List.mem_singleton] at hx; subst hx; exact B32_pos, .inr (by simp), by simp [Wd.val]⟩

set_option maxRecDepth 100000 in
set_option maxHeartbeats 4000000 in
theorem tfloorW_p (A1 : Option Addr) (c1 : Nat) (l1 : List Nat) (m1 : Bool) (z1 : Int) (A2 : Option Addr) (c2 : Nat) (l2 : List Nat) (m2 : Bool) (z2 : Int) (K : Nat) (w : World) (h1 : WholeF w A1 c1 l1 m1 z1) (h2 : WholeF w A2 c2 l2 m2 z2) (hb : 0 < z2) (hK : Wd.Sz B32 K z1) (hk : l1.length + 1 ≤ 35184372088832) (hk2 : l2.length + 1 ≤ 35184372088832) (hk3 : K + 3 ≤ 35184372088832) (ha : 0 ≤ z1) :
    Calls Tryz.prog 106 #[(Value.agg #[.slice A1 l1.length c1, .bool m1]), (Value.agg #[.slice A2 l2.length c2, .bool m2])] w fun e w' => WholeR w (z1 / z2) e w' := by
  obtain rfl : m1 = false := by rw [h1.sign]; exact decide_eq_false (by omega)
  obtain rfl : m2 = false := by rw [h2.sign]; exact decide_eq_false (by omega)
  have hv := ediv_pos_ hb ha
  have HP := hide (fun W (hW : Below w.heap.size w W) => parts_any A1 A2 c1 c2 l1 l2 z1.natAbs z2.natAbs W (h1.nat.below hW) (h2.nat.below hW) (by omega) (by omega) (by omega))
  obtain ⟨p, hp⟩ : ∃ p, p = z1.natAbs / z2.natAbs := ⟨_, rfl⟩
  obtain ⟨r, hr⟩ : ∃ r, r = z1.natAbs % z2.natAbs := ⟨_, rfl⟩
  obtain ⟨z, hz⟩ : ∃ z, z = z1 / z2 := ⟨_, rfl⟩
  have hpK : p + 1 < B32 ^ (K + 1) := by
    rw [hp]
    have e1 := Nat.div_le_self z1.natAbs z2.natAbs
    have e2 : B32 ^ K < B32 ^ (K + 1) := Nat.pow_lt_pow_right B32_pos (by omega)
    have e3 : z1.natAbs < B32 ^ K := hK
    omega
  rw [← hp, ← hr] at HP
  rw [← hp] at hv
  rw [← hz] at hv ⊢
  have HV := Lib.hid hv; have HPK := hide hpK
  clear h1 h2 hb ha hp hr hz hv hK hpK
  go_enter Tryz.func106, Tryz.ntmps106
  go_upto_region 1 with fail
  obtain ⟨n0, n1, n2, hsz, hw0⟩ := three_new w (.cells #[.slice A1 l1.length c1, .bool false] 50) (.cells #[.slice A2 l2.length c2, .bool false] 50) (.cells #[.slice none 0 0, .bool false] 50)
  generalize (((w.alloc (.cells #[.slice A1 l1.length c1, .bool false] 50)).alloc (.cells #[.slice A2 l2.length c2, .bool false] 50)).alloc (.cells #[.slice none 0 0, .bool false] 50)) = W0 at *
  have k0 : W0.cell? ⟨w.heap.size, 0, none⟩ = some (.slice A1 l1.length c1) := cells_of n0 0
  have k1 : W0.cell? ⟨w.heap.size, 1, none⟩ = some (.bool false) := cells_of n0 1
  have k2 : W0.cell? ⟨w.heap.size + 1, 0, none⟩ = some (.slice A2 l2.length c2) := cells_of n1 0
  have k3 : W0.cell? ⟨w.heap.size + 1, 1, none⟩ = some (.bool false) := cells_of n1 1
  have q0 := lt_of_block n0; have q1 := lt_of_block n1; have q2 := lt_of_block n2
  have r0 : W0.cell? ⟨w.heap.size + 1 + 1, 0, none⟩ = some (.slice none 0 0) := cells_of n2 0
  have r1 : W0.cell? ⟨w.heap.size + 1 + 1, 1, none⟩ = some (.bool false) := cells_of n2 1
  have f0 := unfrozen_of n2 0; have f1 := unfrozen_of n2 1
  have NR := Lib.hid n2
  clear n0 n1 n2 hsz
  go_wp2_with fail
  refine ((unhide HP) _ hw0).mono ?_
  rintro e W1 ⟨A5, c5, l5, A6, c6, l6, rfl, g5, g6, hb⟩
  have hl6 := g6.zero_iff
  clear hl6
  have hc51 := g5.cap1; have hc52 := g5.cap2; have hc61 := g6.cap1; have hc62 := g6.cap2
  obtain ⟨hc, hfz⟩ := bcell hb
  replace k1 := (hc _ _ q0).trans k1
  replace k3 := (hc _ _ q1).trans k3
  replace r0 := (hc _ _ q2).trans r0
  replace r1 := (hc _ _ q2).trans r1
  replace f0 := (hfz _ _ q2).trans f0
  replace f1 := (hfz _ _ q2).trans f1
  replace NR := Lib.hid ((hb.block _ q2).trans NR.out)
  replace hw0 := below_step' hw0 hb
  replace q0 := Nat.lt_of_lt_of_le q0 hb.size
  replace q1 := Nat.lt_of_lt_of_le q1 hb.size
  replace q2 := Nat.lt_of_lt_of_le q2 hb.size
  have G5 := hide g5
  clear g5 g6 hb hc hfz k0 k2
  go_wp2_with fail
  have hsg := tsigned_any A5 c5 l5 p false W1 (unhide G5)
  have HSG := hide hsg
  clear hsg
  refine (unhide HSG).mono ?_
  rintro e w' ⟨A8, c8, l8, m8, rfl, g8, hb⟩
  obtain ⟨hc, hfz⟩ := bcell hb
  have hblk := (hb.block _ q2).trans NR.out
  have HBLK := Lib.hid hblk
  have hb9 := below_step' hw0 hb
  have e9 : (if (false : Bool) = true then -((p : Nat) : Int) else ((p : Nat) : Int)) = z := by rw [HV.out]; rfl
  rw [e9] at g8
  have G8 := hide g8
  clear hb hblk e9 g8
  go_wp2_with fail
  exact bodyPost_ret (v := .agg #[.slice A8 l8.length c8, .bool m8]) (by simp [results, Tryz.results106, go_sem, hc, r0, r1, q2]) rfl
    ⟨A8, c8, l8, m8, rfl, (unhide G8).upto HBLK.out (noW2_2 _ _ _ _) (set2_grown _ _ _ _), hb9.grown (set2_grown _ _ _ _) hb9.size (fun k hk => by injection hk with hk; omega)⟩

set_option maxRecDepth 100000 in
set_option maxHeartbeats 4000000 in
theorem tfloorW_n (A1 : Option Addr) (c1 : Nat) (l1 : List Nat) (m1 : Bool) (z1 : Int) (A2 : Option Addr) (c2 : Nat) (l2 : List Nat) (m2 : Bool) (z2 : Int) (K : Nat) (w : World) (h1 : WholeF w A1 c1 l1 m1 z1) (h2 : WholeF w A2 c2 l2 m2 z2) (hb : 0 < z2) (hK : Wd.Sz B32 K z1) (hk : l1.length + 1 ≤ 35184372088832) (hk2 : l2.length + 1 ≤ 35184372088832) (hk3 : K + 3 ≤ 35184372088832) (ha : z1 < 0) (h0 : z1.natAbs % z2.natAbs = 0) :
    Calls Tryz.prog 106 #[(Value.agg #[.slice A1 l1.length c1, .bool m1]), (Value.agg #[.slice A2 l2.length c2, .bool m2])] w fun e w' => WholeR w (z1 / z2) e w' := by
  obtain rfl : m1 = true := by rw [h1.sign]; exact decide_eq_true ha
  obtain rfl : m2 = false := by rw [h2.sign]; exact decide_eq_false (by omega)
  have hv := (ediv_neg_ hb ha).1 h0
  have HP := hide (fun W (hW : Below w.heap.size w W) => parts_any A1 A2 c1 c2 l1 l2 z1.natAbs z2.natAbs W (h1.nat.below hW) (h2.nat.below hW) (by omega) (by omega) (by omega))
  obtain ⟨p, hp⟩ : ∃ p, p = z1.natAbs / z2.natAbs := ⟨_, rfl⟩
  obtain ⟨r, hr⟩ : ∃ r, r = z1.natAbs % z2.natAbs := ⟨_, rfl⟩
  obtain ⟨z, hz⟩ : ∃ z, z = z1 / z2 := ⟨_, rfl⟩
  have hpK : p + 1 < B32 ^ (K + 1) := by
    rw [hp]
    have e1 := Nat.div_le_self z1.natAbs z2.natAbs
    have e2 : B32 ^ K < B32 ^ (K + 1) := Nat.pow_lt_pow_right B32_pos (by omega)
    have e3 : z1.natAbs < B32 ^ K := hK
    omega
  rw [← hp, ← hr] at HP
  rw [← hp] at hv
  rw [← hz] at hv ⊢
  have HV := Lib.hid hv; have HPK := hide hpK
  rw [← hr] at h0
  have H0 := hide h0
  clear h0
  clear h1 h2 hb ha hp hr hz hv hK hpK
  go_enter Tryz.func106, Tryz.ntmps106
  go_upto_region 1 with fail
  obtain ⟨n0, n1, n2, hsz, hw0⟩ := three_new w (.cells #[.slice A1 l1.length c1, .bool true] 50) (.cells #[.slice A2 l2.length c2, .bool false] 50) (.cells #[.slice none 0 0, .bool false] 50)
  generalize (((w.alloc (.cells #[.slice A1 l1.length c1, .bool true] 50)).alloc (.cells #[.slice A2 l2.length c2, .bool false] 50)).alloc (.cells #[.slice none 0 0, .bool false] 50)) = W0 at *
  have k0 : W0.cell? ⟨w.heap.size, 0, none⟩ = some (.slice A1 l1.length c1) := cells_of n0 0
  have k1 : W0.cell? ⟨w.heap.size, 1, none⟩ = some (.bool true) := cells_of n0 1
  have k2 : W0.cell? ⟨w.heap.size + 1, 0, none⟩ = some (.slice A2 l2.length c2) := cells_of n1 0
  have k3 : W0.cell? ⟨w.heap.size + 1, 1, none⟩ = some (.bool false) := cells_of n1 1
  have q0 := lt_of_block n0; have q1 := lt_of_block n1; have q2 := lt_of_block n2
  have r0 : W0.cell? ⟨w.heap.size + 1 + 1, 0, none⟩ = some (.slice none 0 0) := cells_of n2 0
  have r1 : W0.cell? ⟨w.heap.size + 1 + 1, 1, none⟩ = some (.bool false) := cells_of n2 1
  have f0 := unfrozen_of n2 0; have f1 := unfrozen_of n2 1
  have NR := Lib.hid n2
  clear n0 n1 n2 hsz
  go_wp2_with fail
  refine ((unhide HP) _ hw0).mono ?_
  rintro e W1 ⟨A5, c5, l5, A6, c6, l6, rfl, g5, g6, hb⟩
  have hl6 := g6.zero_iff
  replace hl6 := hl6.1 (unhide H0)
  have hc51 := g5.cap1; have hc52 := g5.cap2; have hc61 := g6.cap1; have hc62 := g6.cap2
  obtain ⟨hc, hfz⟩ := bcell hb
  replace k1 := (hc _ _ q0).trans k1
  replace k3 := (hc _ _ q1).trans k3
  replace r0 := (hc _ _ q2).trans r0
  replace r1 := (hc _ _ q2).trans r1
  replace f0 := (hfz _ _ q2).trans f0
  replace f1 := (hfz _ _ q2).trans f1
  replace NR := Lib.hid ((hb.block _ q2).trans NR.out)
  replace hw0 := below_step' hw0 hb
  replace q0 := Nat.lt_of_lt_of_le q0 hb.size
  replace q1 := Nat.lt_of_lt_of_le q1 hb.size
  replace q2 := Nat.lt_of_lt_of_le q2 hb.size
  have G5 := hide g5
  clear g5 g6 hb hc hfz k0 k2
  go_wp2_with fail
  have hsg := tsigned_any A5 c5 l5 p true W1 (unhide G5)
  have HSG := hide hsg
  clear hsg
  refine (unhide HSG).mono ?_
  rintro e w' ⟨A8, c8, l8, m8, rfl, g8, hb⟩
  obtain ⟨hc, hfz⟩ := bcell hb
  have hblk := (hb.block _ q2).trans NR.out
  have HBLK := Lib.hid hblk
  have hb9 := below_step' hw0 hb
  have e9 : (if (true : Bool) = true then -((p : Nat) : Int) else ((p : Nat) : Int)) = z := by rw [HV.out]; rfl
  rw [e9] at g8
  have G8 := hide g8
  clear hb hblk e9 g8
  go_wp2_with fail
  exact bodyPost_ret (v := .agg #[.slice A8 l8.length c8, .bool m8]) (by simp [results, Tryz.results106, go_sem, hc, r0, r1, q2]) rfl
    ⟨A8, c8, l8, m8, rfl, (unhide G8).upto HBLK.out (noW2_2 _ _ _ _) (set2_grown _ _ _ _), hb9.grown (set2_grown _ _ _ _) hb9.size (fun k hk => by injection hk with hk; omega)⟩

set_option maxRecDepth 100000 in
set_option maxHeartbeats 4000000 in
theorem tfloorW_m (A1 : Option Addr) (c1 : Nat) (l1 : List Nat) (m1 : Bool) (z1 : Int) (A2 : Option Addr) (c2 : Nat) (l2 : List Nat) (m2 : Bool) (z2 : Int) (K : Nat) (w : World) (h1 : WholeF w A1 c1 l1 m1 z1) (h2 : WholeF w A2 c2 l2 m2 z2) (hb : 0 < z2) (hK : Wd.Sz B32 K z1) (hk : l1.length + 1 ≤ 35184372088832) (hk2 : l2.length + 1 ≤ 35184372088832) (hk3 : K + 3 ≤ 35184372088832) (ha : z1 < 0) (h0 : z1.natAbs % z2.natAbs ≠ 0) :
    Calls Tryz.prog 106 #[(Value.agg #[.slice A1 l1.length c1, .bool m1]), (Value.agg #[.slice A2 l2.length c2, .bool m2])] w fun e w' => WholeR w (z1 / z2) e w' := by
  obtain rfl : m1 = true := by rw [h1.sign]; exact decide_eq_true ha
  obtain rfl : m2 = false := by rw [h2.sign]; exact decide_eq_false (by omega)
  have hv := (ediv_neg_ hb ha).2 h0
  have HP := hide (fun W (hW : Below w.heap.size w W) => parts_any A1 A2 c1 c2 l1 l2 z1.natAbs z2.natAbs W (h1.nat.below hW) (h2.nat.below hW) (by omega) (by omega) (by omega))
  obtain ⟨p, hp⟩ : ∃ p, p = z1.natAbs / z2.natAbs := ⟨_, rfl⟩
  obtain ⟨r, hr⟩ : ∃ r, r = z1.natAbs % z2.natAbs := ⟨_, rfl⟩
  obtain ⟨z, hz⟩ : ∃ z, z = z1 / z2 := ⟨_, rfl⟩
  have hpK : p + 1 < B32 ^ (K + 1) := by
    rw [hp]
    have e1 := Nat.div_le_self z1.natAbs z2.natAbs
    have e2 : B32 ^ K < B32 ^ (K + 1) := Nat.pow_lt_pow_right B32_pos (by omega)
    have e3 : z1.natAbs < B32 ^ K := hK
    omega
  rw [← hp, ← hr] at HP
  rw [← hp] at hv
  rw [← hz] at hv ⊢
  have HV := Lib.hid hv; have HPK := hide hpK
  rw [← hr] at h0
  have H0 := hide h0
  clear h0
  clear h1 h2 hb ha hp hr hz hv hK hpK
  go_enter Tryz.func106, Tryz.ntmps106
  go_upto_region 1 with fail
  obtain ⟨n0, n1, n2, hsz, hw0⟩ := three_new w (.cells #[.slice A1 l1.length c1, .bool true] 50) (.cells #[.slice A2 l2.length c2, .bool false] 50) (.cells #[.slice none 0 0, .bool false] 50)
  generalize (((w.alloc (.cells #[.slice A1 l1.length c1, .bool true] 50)).alloc (.cells #[.slice A2 l2.length c2, .bool false] 50)).alloc (.cells #[.slice none 0 0, .bool false] 50)) = W0 at *
  have k0 : W0.cell? ⟨w.heap.size, 0, none⟩ = some (.slice A1 l1.length c1) := cells_of n0 0
  have k1 : W0.cell? ⟨w.heap.size, 1, none⟩ = some (.bool true) := cells_of n0 1
  have k2 : W0.cell? ⟨w.heap.size + 1, 0, none⟩ = some (.slice A2 l2.length c2) := cells_of n1 0
  have k3 : W0.cell? ⟨w.heap.size + 1, 1, none⟩ = some (.bool false) := cells_of n1 1
  have q0 := lt_of_block n0; have q1 := lt_of_block n1; have q2 := lt_of_block n2
  have r0 : W0.cell? ⟨w.heap.size + 1 + 1, 0, none⟩ = some (.slice none 0 0) := cells_of n2 0
  have r1 : W0.cell? ⟨w.heap.size + 1 + 1, 1, none⟩ = some (.bool false) := cells_of n2 1
  have f0 := unfrozen_of n2 0; have f1 := unfrozen_of n2 1
  have NR := Lib.hid n2
  clear n0 n1 n2 hsz
  go_wp2_with fail
  refine ((unhide HP) _ hw0).mono ?_
  rintro e W1 ⟨A5, c5, l5, A6, c6, l6, rfl, g5, g6, hb⟩
  have hl6 := g6.zero_iff
  replace hl6 : ¬ l6.length = 0 := fun e => (unhide H0) (hl6.2 e)
  have hl7 : decide ((0 : Int) < (l6.length : Int)) = true := decide_eq_true (by omega)
  have hl8 : decide (0 < l6.length) = true := decide_eq_true (by omega)
  have hc51 := g5.cap1; have hc52 := g5.cap2; have hc61 := g6.cap1; have hc62 := g6.cap2
  obtain ⟨hc, hfz⟩ := bcell hb
  replace k1 := (hc _ _ q0).trans k1
  replace k3 := (hc _ _ q1).trans k3
  replace r0 := (hc _ _ q2).trans r0
  replace r1 := (hc _ _ q2).trans r1
  replace f0 := (hfz _ _ q2).trans f0
  replace f1 := (hfz _ _ q2).trans f1
  replace NR := Lib.hid ((hb.block _ q2).trans NR.out)
  replace hw0 := below_step' hw0 hb
  replace q0 := Nat.lt_of_lt_of_le q0 hb.size
  replace q1 := Nat.lt_of_lt_of_le q1 hb.size
  replace q2 := Nat.lt_of_lt_of_le q2 hb.size
  have G5 := hide g5
  clear g5 g6 hb hc hfz k0 k2
  go_wp2_with fail
  have hpl := tplus_any A5 (some ⟨W1.heap.size, 0, none⟩) c5 1 l5 [1] p 1 (W1.alloc (.cells #[.int .u32 1] 136)) ((unhide G5).below ((Below.refl _ _).alloc (Nat.le_refl _) _)) (tnat_one W1) (by have := (unhide G5).len (k := K + 1) (by have := unhide HPK; omega); omega) (by simp)
  refine hpl.mono ?_
  rintro e W2 ⟨A7, c7, l7, rfl, g7, hb⟩
  replace hb := below_step' ((Below.refl W1.heap.size W1).alloc (Nat.le_refl _) _) hb
  obtain ⟨hc, hfz⟩ := bcell hb
  replace k1 := (hc _ _ q0).trans k1
  replace k3 := (hc _ _ q1).trans k3
  replace r0 := (hc _ _ q2).trans r0
  replace r1 := (hc _ _ q2).trans r1
  replace f0 := (hfz _ _ q2).trans f0
  replace f1 := (hfz _ _ q2).trans f1
  replace NR := Lib.hid ((hb.block _ q2).trans NR.out)
  replace hw0 := below_step' hw0 hb
  replace q2 := Nat.lt_of_lt_of_le q2 hb.size
  have hc71 := g7.cap1; have hc72 := g7.cap2
  have G7 := hide g7
  clear g7 hb hc hfz hpl
  go_wp2_with fail
  have hsg := tsigned_any A7 c7 l7 (p + 1) true W2 (unhide G7)
  have HSG := hide hsg
  clear hsg
  refine (unhide HSG).mono ?_
  rintro e w' ⟨A8, c8, l8, m8, rfl, g8, hb⟩
  obtain ⟨hc, hfz⟩ := bcell hb
  have hblk := (hb.block _ q2).trans NR.out
  have HBLK := Lib.hid hblk
  have hb9 := below_step' hw0 hb
  have e9 : (if (true : Bool) = true then -(((p + 1) : Nat) : Int) else (((p + 1) : Nat) : Int)) = z := by rw [HV.out]; rfl
  rw [e9] at g8
  have G8 := hide g8
  clear hb hblk e9 g8
  go_wp2_with fail
  exact bodyPost_ret (v := .agg #[.slice A8 l8.length c8, .bool m8]) (by simp [results, Tryz.results106, go_sem, hc, r0, r1, q2]) rfl
    ⟨A8, c8, l8, m8, rfl, (unhide G8).upto HBLK.out (noW2_2 _ _ _ _) (set2_grown _ _ _ _), hb9.grown (set2_grown _ _ _ _) hb9.size (fun k hk => by injection hk with hk; omega)⟩

theorem tfloorW_any (A1 : Option Addr) (c1 : Nat) (l1 : List Nat) (m1 : Bool) (z1 : Int) (A2 : Option Addr) (c2 : Nat) (l2 : List Nat) (m2 : Bool) (z2 : Int) (K : Nat) (w : World) (h1 : WholeF w A1 c1 l1 m1 z1) (h2 : WholeF w A2 c2 l2 m2 z2) (hb : 0 < z2) (hK : Wd.Sz B32 K z1) (hk : l1.length + 1 ≤ 35184372088832) (hk2 : l2.length + 1 ≤ 35184372088832) (hk3 : K + 3 ≤ 35184372088832) :
    Calls Tryz.prog 106 #[(Value.agg #[.slice A1 l1.length c1, .bool m1]), (Value.agg #[.slice A2 l2.length c2, .bool m2])] w fun e w' => WholeR w (z1 / z2) e w' := by
  by_cases ha : 0 ≤ z1
  · exact tfloorW_p A1 c1 l1 m1 z1 A2 c2 l2 m2 z2 K w h1 h2 hb hK hk hk2 hk3 ha
  · by_cases h0 : z1.natAbs % z2.natAbs = 0
    · exact tfloorW_n A1 c1 l1 m1 z1 A2 c2 l2 m2 z2 K w h1 h2 hb hK hk hk2 hk3 (by omega) h0
    · exact tfloorW_m A1 c1 l1 m1 z1 A2 c2 l2 m2 z2 K w h1 h2 hb hK hk hk2 hk3 (by omega) h0

end Go.Proofs.YtmahhmdodfimbaaGreatDoor
/- The reference: integers as numbers, and signs. -/
namespace Go.Proofs.YtmahhmdodfimbaaGreatDoor
open Go.RowKit

set_option maxRecDepth 100000 in
set_option maxHeartbeats 2000000 in
theorem tInt_any (n : Int) (q : Rat) (w : World) (b1 : -9223372036854775808 ≤ n) (b2 : n ≤ 9223372036854775807) (hn : n = q.num) (hd : (1 : Int) = (q.den : Int)) :
    Calls Tryz.prog 72 #[.int .i64 n] w fun e w' => QR w q e w' := by
  have HO1 := hide (fun W => (tofInt_any n W b1 b2).mono (fun e w' h => h.1))
  have HO2 := hide tone_any
  have HN := Lib.hid hn; have HD := Lib.hid hd
  clear b1 b2 hn hd
  go_enter Tryz.func72, Tryz.ntmps72
  go_wp2_with fail
  obtain ⟨n0, hsz, hw0⟩ := one_new w (.cells #[.slice none 0 0, .bool false, .slice none 0 0, .bool false] 52)
  generalize (w.alloc (.cells #[.slice none 0 0, .bool false, .slice none 0 0, .bool false] 52)) = W0 at *
  have p0 : W0.cell? ⟨w.heap.size, 0, none⟩ = some (.slice none 0 0) := cells_of n0 0
  have p1 : W0.cell? ⟨w.heap.size, 1, none⟩ = some (.bool false) := cells_of n0 1
  have p2 : W0.cell? ⟨w.heap.size, 2, none⟩ = some (.slice none 0 0) := cells_of n0 2
  have p3 : W0.cell? ⟨w.heap.size, 3, none⟩ = some (.bool false) := cells_of n0 3
  have v0 := unfrozen_of n0 0; have v1 := unfrozen_of n0 1; have v2 := unfrozen_of n0 2; have v3 := unfrozen_of n0 3
  have q0 := lt_of_block n0
  have NR := Lib.hid n0
  clear n0 hsz
  refine ((unhide HO1) _).mono ?_
  rintro e W1 ⟨A1, c1, l1, m1, rfl, f1, hb1⟩
  have F1 := hide f1; have HB1 := hide hb1
  clear f1 hb1
  go_wp2_with fail
  refine ((unhide HO2) _).mono ?_
  rintro e W2 ⟨A2, c2, l2, m2, rfl, f2, hb2⟩
  have F1' := hide ((unhide F1).below hb2)
  have hb2' := below_step' (unhide HB1) hb2
  obtain ⟨hc, hfz⟩ := bcell hb2'
  have hblk := (hb2'.block _ q0).trans NR.out
  have HBLK := Lib.hid hblk
  have F2 := hide f2; have hb9 := below_step' hw0 hb2'
  have HB9 := hide hb9
  clear f2 hb2 hb2' hblk hb9
  go_wp2_with fail
  exact bodyPost_ret (v := .agg #[.slice A1 l1.length c1, .bool m1, .slice A2 l2.length c2, .bool m2]) (by simp [results, Tryz.results72, go_sem, hc, p0, p1, p2, p3, q0]) rfl
    ⟨A1, c1, l1, m1, A2, c2, l2, m2, rfl, HN.out ▸ (unhide F1').upto HBLK.out (noW2_4 _ _ _ _ _ _ _ _) (set4_grown _ _ _ _ _ _), HD.out ▸ (unhide F2).upto HBLK.out (noW2_4 _ _ _ _ _ _ _ _) (set4_grown _ _ _ _ _ _), (unhide HB9).grown (set4_grown _ _ _ _ _ _) (unhide HB9).size (fun k hk => by injection hk with hk; omega)⟩

end Go.Proofs.YtmahhmdodfimbaaGreatDoor
/- The walk through the sum of two integers as numbers of the reference. -/
namespace Go.Proofs.YtmahhmdodfimbaaGreatDoor
open Go.RowKit

set_option maxRecDepth 100000 in
set_option maxHeartbeats 16000000 in
theorem qadd_tt (A1 : Option Addr) (c1 : Nat) (l1 : List Nat) (m1 : Bool) (A2 : Option Addr) (c2 : Nat) (l2 : List Nat) (m2 : Bool) (A3 : Option Addr) (c3 : Nat) (l3 : List Nat) (m3 : Bool) (A4 : Option Addr) (c4 : Nat) (l4 : List Nat) (m4 : Bool) (z1 b1 z3 b3 n : Int) (q : Rat) (w : World) (f1 : WholeF w A1 c1 l1 m1 z1) (f3 : WholeF w A3 c3 l3 m3 z3)
    (hd1 : ∀ W, Below w.heap.size w W → Calls Tryz.prog 95 #[(Value.agg #[.slice A1 l1.length c1, .bool m1, .slice A2 l2.length c2, .bool m2])] W fun e w' => WholeR W b1 e w') (hd3 : ∀ W, Below w.heap.size w W → Calls Tryz.prog 95 #[(Value.agg #[.slice A3 l3.length c3, .bool m3, .slice A4 l4.length c4, .bool m4])] W fun e w' => WholeR W b3 e w')
    (ho1 : ∀ (A7 : Option Addr) (c7 : Nat) (l7 : List Nat) (m7 : Bool) (W : World), Below w.heap.size w W → WholeF W A7 c7 l7 m7 b1 → Calls Tryz.prog 96 #[(Value.agg #[.slice A7 l7.length c7, .bool m7])] W fun e w' => e = .returned (.bool true) ∧ Below W.heap.size W w') (ho3 : ∀ (A7 : Option Addr) (c7 : Nat) (l7 : List Nat) (m7 : Bool) (W : World), Below w.heap.size w W → WholeF W A7 c7 l7 m7 b3 → Calls Tryz.prog 96 #[(Value.agg #[.slice A7 l7.length c7, .bool m7])] W fun e w' => e = .returned (.bool true) ∧ Below W.heap.size W w') (hn : OpW2 w 97 z1 z3 n) (hnum : n = q.num) (hden : b1 = (q.den : Int)) :
    Calls Tryz.prog 43 #[(Value.agg #[.slice A1 l1.length c1, .bool m1, .slice A2 l2.length c2, .bool m2]), (Value.agg #[.slice A3 l3.length c3, .bool m3, .slice A4 l4.length c4, .bool m4])] w fun e w' => QR w q e w' := by
  have H1 := hide f1
  have H3 := hide f3
  clear f1 f3
  have HD1 := hide hd1
  have HD3 := hide hd3
  have HO1 := hide ho1
  have HO3 := hide ho3
  have HN := hide hn
  clear hd1 hd3 ho1 ho3 hn
  go_enter Tryz.func43, Tryz.ntmps43
  go_upto_region 1 with fail
  obtain ⟨n0, n1, n2, hsz, hw0⟩ := three_new w (.cells #[.slice A1 l1.length c1, .bool m1, .slice A2 l2.length c2, .bool m2] 52) (.cells #[.slice A3 l3.length c3, .bool m3, .slice A4 l4.length c4, .bool m4] 52) (.cells #[.slice none 0 0, .bool false, .slice none 0 0, .bool false] 52)
  generalize (((w.alloc (.cells #[.slice A1 l1.length c1, .bool m1, .slice A2 l2.length c2, .bool m2] 52)).alloc (.cells #[.slice A3 l3.length c3, .bool m3, .slice A4 l4.length c4, .bool m4] 52)).alloc (.cells #[.slice none 0 0, .bool false, .slice none 0 0, .bool false] 52)) = W0 at *
  have k0_0 : W0.cell? ⟨w.heap.size, 0, none⟩ = some (.slice A1 l1.length c1) := cells_of n0 0
  have k0_1 : W0.cell? ⟨w.heap.size, 1, none⟩ = some (.bool m1) := cells_of n0 1
  have k0_2 : W0.cell? ⟨w.heap.size, 2, none⟩ = some (.slice A2 l2.length c2) := cells_of n0 2
  have k0_3 : W0.cell? ⟨w.heap.size, 3, none⟩ = some (.bool m2) := cells_of n0 3
  have q0 : w.heap.size < W0.heap.size := by omega
  have k1_0 : W0.cell? ⟨w.heap.size + 1, 0, none⟩ = some (.slice A3 l3.length c3) := cells_of n1 0
  have k1_1 : W0.cell? ⟨w.heap.size + 1, 1, none⟩ = some (.bool m3) := cells_of n1 1
  have k1_2 : W0.cell? ⟨w.heap.size + 1, 2, none⟩ = some (.slice A4 l4.length c4) := cells_of n1 2
  have k1_3 : W0.cell? ⟨w.heap.size + 1, 3, none⟩ = some (.bool m4) := cells_of n1 3
  have q1 : w.heap.size + 1 < W0.heap.size := by omega
  have k2_0 : W0.cell? ⟨w.heap.size + 1 + 1, 0, none⟩ = some (.slice none 0 0) := cells_of n2 0
  have k2_1 : W0.cell? ⟨w.heap.size + 1 + 1, 1, none⟩ = some (.bool false) := cells_of n2 1
  have k2_2 : W0.cell? ⟨w.heap.size + 1 + 1, 2, none⟩ = some (.slice none 0 0) := cells_of n2 2
  have k2_3 : W0.cell? ⟨w.heap.size + 1 + 1, 3, none⟩ = some (.bool false) := cells_of n2 3
  have q2 : w.heap.size + 1 + 1 < W0.heap.size := by omega
  have f2_0 := unfrozen_of n2 0
  have f2_1 := unfrozen_of n2 1
  have f2_2 := unfrozen_of n2 2
  have f2_3 := unfrozen_of n2 3
  have NR := Lib.hid n2
  clear hsz n0 n1 n2
  replace H1 := hide ((unhide H1).below hw0)
  replace H3 := hide ((unhide H3).below hw0)
  go_upto_region 1 with fail
  go_cut [5, 6] (fun s5_ s6_ wx => ∃ b5 b6 : Nat, s5_ = .pointer (some ⟨b5, 0, none⟩) ∧ s6_ = .pointer (some ⟨b6, 0, none⟩) ∧ BoxW wx b5 b1 ∧ BoxW wx b6 b3 ∧ Below W0.heap.size W0 wx ∧ W0.heap.size ≤ b5 ∧ W0.heap.size ≤ b6)
  case first =>
    have KEEP := hide (show ∀ X, Below W0.heap.size W0 X → X.cell? ⟨w.heap.size, 0, none⟩ = some (.slice A1 l1.length c1) ∧ X.cell? ⟨w.heap.size, 1, none⟩ = some (.bool m1) ∧ X.cell? ⟨w.heap.size, 2, none⟩ = some (.slice A2 l2.length c2) ∧ X.cell? ⟨w.heap.size, 3, none⟩ = some (.bool m2) ∧ X.cell? ⟨w.heap.size + 1, 0, none⟩ = some (.slice A3 l3.length c3) ∧ X.cell? ⟨w.heap.size + 1, 1, none⟩ = some (.bool m3) ∧ X.cell? ⟨w.heap.size + 1, 2, none⟩ = some (.slice A4 l4.length c4) ∧ X.cell? ⟨w.heap.size + 1, 3, none⟩ = some (.bool m4) from fun X hB => ⟨keep_cell hB q0 k0_0, keep_cell hB q0 k0_1, keep_cell hB q0 k0_2, keep_cell hB q0 k0_3, keep_cell hB q1 k1_0, keep_cell hB q1 k1_1, keep_cell hB q1 k1_2, keep_cell hB q1 k1_3⟩)
    go_region_held3 (fun w' => w'.cell? ⟨w.heap.size, 0, none⟩ = some (.slice A1 l1.length c1) ∧ w'.cell? ⟨w.heap.size, 1, none⟩ = some (.bool m1) ∧ w'.cell? ⟨w.heap.size, 2, none⟩ = some (.slice A2 l2.length c2) ∧ w'.cell? ⟨w.heap.size, 3, none⟩ = some (.bool m2) ∧ w'.cell? ⟨w.heap.size + 1, 0, none⟩ = some (.slice A3 l3.length c3) ∧ w'.cell? ⟨w.heap.size + 1, 1, none⟩ = some (.bool m3) ∧ w'.cell? ⟨w.heap.size + 1, 2, none⟩ = some (.slice A4 l4.length c4) ∧ w'.cell? ⟨w.heap.size + 1, 3, none⟩ = some (.bool m4)) (exact (unhide KEEP) _ (by (repeat (first | with_reducible exact Below.refl _ _ | with_reducible assumption | with_reducible refine Below.drew ?_ | with_reducible refine below_alloc ?_ _ | (with_reducible refine below_set ?_ ?_ _ _; rotate_left; (first | omega | (simp <;> omega))))))) (first | (go_at_call_of 95 (Value.agg #[.slice A1 l1.length c1, .bool m1, .slice A2 l2.length c2, .bool m2]); refine ((unhide HD1) _ (below_step' hw0 (by (repeat (first | with_reducible exact Below.refl _ _ | with_reducible assumption | with_reducible refine Below.drew ?_ | with_reducible refine below_alloc ?_ _))))).mono ?_; rintro e w' ⟨A5, c5, l5, m5, rfl, hf5, hb5⟩; have hbw := below_step (w := W0) (by (repeat (first | with_reducible exact Below.refl _ _ | with_reducible assumption | with_reducible refine Below.drew ?_ | with_reducible refine below_alloc ?_ _))) hb5; have hsw := hbw.size; obtain ⟨hc, hfz⟩ := bcell hbw; (try ((first | have u5a : FrW W0 w' _ := FrW.below (FrW.new (by (repeat (first | with_reducible exact Below.refl _ _ | with_reducible assumption | with_reducible refine Below.drew ?_ | with_reducible refine below_alloc ?_ _))) rfl) hb5 | have u5a : FrW W0 w' _ := FrW.below (FrW.drew (FrW.new (by (repeat (first | with_reducible exact Below.refl _ _ | with_reducible assumption | with_reducible refine Below.drew ?_ | with_reducible refine below_alloc ?_ _))) rfl)) hb5); (try simp only [World.size_alloc] at u5a); (try dsimp only [World.drew] at u5a); (try simp only [World.size_alloc] at u5a); obtain ⟨⟨u5a1, u5a2⟩, ⟨u5a3, u5a4⟩, ⟨u5a5, u5a6⟩, ⟨u5a7, u5a8⟩, u5a9, u5a10⟩ := FrW.facts u5a)); (try ((first | have u5b : FrW W0 w' _ := FrW.below (FrW.alloc (FrW.new (by (repeat (first | with_reducible exact Below.refl _ _ | with_reducible assumption | with_reducible refine Below.drew ?_ | with_reducible refine below_alloc ?_ _))) rfl)) hb5 | have u5b : FrW W0 w' _ := FrW.below (FrW.drew (FrW.alloc (FrW.new (by (repeat (first | with_reducible exact Below.refl _ _ | with_reducible assumption | with_reducible refine Below.drew ?_ | with_reducible refine below_alloc ?_ _))) rfl))) hb5); (try simp only [World.size_alloc] at u5b); (try dsimp only [World.drew] at u5b); (try simp only [World.size_alloc] at u5b); obtain ⟨⟨u5b1, u5b2⟩, ⟨u5b3, u5b4⟩, ⟨u5b5, u5b6⟩, ⟨u5b7, u5b8⟩, u5b9, u5b10⟩ := FrW.facts u5b))) | (go_at_call_of 95 (Value.agg #[.slice A3 l3.length c3, .bool m3, .slice A4 l4.length c4, .bool m4]); refine ((unhide HD3) _ (below_step' hw0 (by (repeat (first | with_reducible exact Below.refl _ _ | with_reducible assumption | with_reducible refine Below.drew ?_ | with_reducible refine below_alloc ?_ _))))).mono ?_; rintro e w' ⟨A6, c6, l6, m6, rfl, hf6, hb6⟩; have hf5 := WholeF.below (WholeF.below hf5 (by (repeat (first | with_reducible exact Below.refl _ _ | with_reducible assumption | with_reducible refine Below.drew ?_ | with_reducible refine below_alloc ?_ _)))) hb6; have hbw := below_step (w := W0) (by (repeat (first | with_reducible exact Below.refl _ _ | with_reducible assumption | with_reducible refine Below.drew ?_ | with_reducible refine below_alloc ?_ _))) hb6; have hsw := hbw.size; obtain ⟨hc, hfz⟩ := bcell hbw; (try ((first | have u6a : FrW W0 w' _ := FrW.below (FrW.new (by (repeat (first | with_reducible exact Below.refl _ _ | with_reducible assumption | with_reducible refine Below.drew ?_ | with_reducible refine below_alloc ?_ _))) rfl) hb6 | have u6a : FrW W0 w' _ := FrW.below (FrW.drew (FrW.new (by (repeat (first | with_reducible exact Below.refl _ _ | with_reducible assumption | with_reducible refine Below.drew ?_ | with_reducible refine below_alloc ?_ _))) rfl)) hb6); (try simp only [World.size_alloc] at u6a); (try dsimp only [World.drew] at u6a); (try simp only [World.size_alloc] at u6a); obtain ⟨⟨u6a1, u6a2⟩, ⟨u6a3, u6a4⟩, ⟨u6a5, u6a6⟩, ⟨u6a7, u6a8⟩, u6a9, u6a10⟩ := FrW.facts u6a)); (try ((first | have u6b : FrW W0 w' _ := FrW.below (FrW.alloc (FrW.new (by (repeat (first | with_reducible exact Below.refl _ _ | with_reducible assumption | with_reducible refine Below.drew ?_ | with_reducible refine below_alloc ?_ _))) rfl)) hb6 | have u6b : FrW W0 w' _ := FrW.below (FrW.drew (FrW.alloc (FrW.new (by (repeat (first | with_reducible exact Below.refl _ _ | with_reducible assumption | with_reducible refine Below.drew ?_ | with_reducible refine below_alloc ?_ _))) rfl))) hb6); (try simp only [World.size_alloc] at u6b); (try dsimp only [World.drew] at u6b); (try simp only [World.size_alloc] at u6b); obtain ⟨⟨u6b1, u6b2⟩, ⟨u6b3, u6b4⟩, ⟨u6b5, u6b6⟩, ⟨u6b7, u6b8⟩, u6b9, u6b10⟩ := FrW.facts u6b)); (try ((first | have u6c : FrW W0 w' _ := FrW.below u5a hb6 | have u6c : FrW W0 w' _ := FrW.below (FrW.alloc u5a) hb6 | have u6c : FrW W0 w' _ := FrW.below (FrW.alloc (FrW.alloc u5a)) hb6); (try simp only [World.size_alloc] at u6c); (try dsimp only [World.drew] at u6c); (try simp only [World.size_alloc] at u6c); obtain ⟨⟨u6c1, u6c2⟩, ⟨u6c3, u6c4⟩, ⟨u6c5, u6c6⟩, ⟨u6c7, u6c8⟩, u6c9, u6c10⟩ := FrW.facts u6c)); (try ((first | have u6d : FrW W0 w' _ := FrW.below u5b hb6 | have u6d : FrW W0 w' _ := FrW.below (FrW.alloc u5b) hb6 | have u6d : FrW W0 w' _ := FrW.below (FrW.alloc (FrW.alloc u5b)) hb6); (try simp only [World.size_alloc] at u6d); (try dsimp only [World.drew] at u6d); (try simp only [World.size_alloc] at u6d); obtain ⟨⟨u6d1, u6d2⟩, ⟨u6d3, u6d4⟩, ⟨u6d5, u6d6⟩, ⟨u6d7, u6d8⟩, u6d9, u6d10⟩ := FrW.facts u6d))))
    all_goals (go_wp2_with fail; go_meet; refine ⟨_, _, rfl, rfl, ?_⟩; first | with_reducible exact wput_two ⟨by assumption, by assumption, by first | assumption | omega⟩ hf5 hf6 hbw | with_reducible exact wput_two (FrW2.newR (by assumption) rfl) hf5.alloc hf6.alloc (below_alloc hbw _) | with_reducible exact wput_two (FrW2.newL (by assumption) rfl) hf5.alloc hf6.alloc (below_alloc hbw _) | with_reducible exact wput_nn hf5 hf6 hbw rfl rfl | with_reducible exact wput_mm hf5 hf6 hbw rfl rfl | with_reducible exact wput_ns (by assumption) hf5 hf6 hbw rfl)
  case rest =>
    revert hcut
    generalize wc = W1
    intro hcut
    obtain ⟨b5, b6, rfl, rfl, B5, B6, hbx, ob5, ob6⟩ := hcut
    obtain ⟨hc, hfz⟩ := bcell hbx
    replace k0_0 := (hc _ _ q0).trans k0_0
    replace k0_1 := (hc _ _ q0).trans k0_1
    replace k0_2 := (hc _ _ q0).trans k0_2
    replace k0_3 := (hc _ _ q0).trans k0_3
    replace q0 := Nat.lt_of_lt_of_le q0 hbx.size
    replace k1_0 := (hc _ _ q1).trans k1_0
    replace k1_1 := (hc _ _ q1).trans k1_1
    replace k1_2 := (hc _ _ q1).trans k1_2
    replace k1_3 := (hc _ _ q1).trans k1_3
    replace q1 := Nat.lt_of_lt_of_le q1 hbx.size
    replace ob5 : w.heap.size + 1 + 1 < b5 := Nat.lt_of_lt_of_le q2 ob5
    replace ob6 : w.heap.size + 1 + 1 < b6 := Nat.lt_of_lt_of_le q2 ob6
    replace k2_0 := (hc _ _ q2).trans k2_0
    replace f2_0 := (hfz _ _ q2).trans f2_0
    replace k2_1 := (hc _ _ q2).trans k2_1
    replace f2_1 := (hfz _ _ q2).trans f2_1
    replace k2_2 := (hc _ _ q2).trans k2_2
    replace f2_2 := (hfz _ _ q2).trans f2_2
    replace k2_3 := (hc _ _ q2).trans k2_3
    replace f2_3 := (hfz _ _ q2).trans f2_3
    replace NR := Lib.hid ((hbx.block _ q2).trans NR.out)
    replace q2 := Nat.lt_of_lt_of_le q2 hbx.size
    replace hw0 := below_step' hw0 hbx
    replace H1 := hide ((unhide H1).below hbx)
    replace H3 := hide ((unhide H3).below hbx)
    obtain ⟨A5, c5, l5, m5, n5, H5⟩ := B5
    have kb5_0 : W1.cell? ⟨b5, 0, none⟩ = some (.slice A5 l5.length c5) := cells_of n5 0
    have kb5_1 : W1.cell? ⟨b5, 1, none⟩ = some (.bool m5) := cells_of n5 1
    have qb5 := lt_of_block n5
    replace H5 := hide H5
    clear n5
    obtain ⟨A6, c6, l6, m6, n6, H6⟩ := B6
    have kb6_0 : W1.cell? ⟨b6, 0, none⟩ = some (.slice A6 l6.length c6) := cells_of n6 0
    have kb6_1 : W1.cell? ⟨b6, 1, none⟩ = some (.bool m6) := cells_of n6 1
    have qb6 := lt_of_block n6
    replace H6 := hide H6
    clear n6
    clear hbx hc hfz
    go_wp2_with fail
    refine ((unhide HO1) A5 c5 l5 m5 _ hw0 (unhide H5)).mono ?_
    rintro e W2 ⟨rfl, hbx⟩
    obtain ⟨hc, hfz⟩ := bcell hbx
    replace k0_0 := (hc _ _ q0).trans k0_0
    replace k0_1 := (hc _ _ q0).trans k0_1
    replace k0_2 := (hc _ _ q0).trans k0_2
    replace k0_3 := (hc _ _ q0).trans k0_3
    replace q0 := Nat.lt_of_lt_of_le q0 hbx.size
    replace k1_0 := (hc _ _ q1).trans k1_0
    replace k1_1 := (hc _ _ q1).trans k1_1
    replace k1_2 := (hc _ _ q1).trans k1_2
    replace k1_3 := (hc _ _ q1).trans k1_3
    replace q1 := Nat.lt_of_lt_of_le q1 hbx.size
    replace kb5_0 := (hc _ _ qb5).trans kb5_0
    replace kb5_1 := (hc _ _ qb5).trans kb5_1
    replace qb5 := Nat.lt_of_lt_of_le qb5 hbx.size
    replace kb6_0 := (hc _ _ qb6).trans kb6_0
    replace kb6_1 := (hc _ _ qb6).trans kb6_1
    replace qb6 := Nat.lt_of_lt_of_le qb6 hbx.size
    replace k2_0 := (hc _ _ q2).trans k2_0
    replace f2_0 := (hfz _ _ q2).trans f2_0
    replace k2_1 := (hc _ _ q2).trans k2_1
    replace f2_1 := (hfz _ _ q2).trans f2_1
    replace k2_2 := (hc _ _ q2).trans k2_2
    replace f2_2 := (hfz _ _ q2).trans f2_2
    replace k2_3 := (hc _ _ q2).trans k2_3
    replace f2_3 := (hfz _ _ q2).trans f2_3
    replace NR := Lib.hid ((hbx.block _ q2).trans NR.out)
    replace q2 := Nat.lt_of_lt_of_le q2 hbx.size
    replace hw0 := below_step' hw0 hbx
    replace H1 := hide ((unhide H1).below hbx)
    replace H3 := hide ((unhide H3).below hbx)
    replace H5 := hide ((unhide H5).below hbx)
    replace H6 := hide ((unhide H6).below hbx)
    clear hbx hc hfz
    go_wp2_with fail
    refine ((unhide HO3) A6 c6 l6 m6 _ hw0 (unhide H6)).mono ?_
    rintro e W3 ⟨rfl, hbx⟩
    obtain ⟨hc, hfz⟩ := bcell hbx
    replace k0_0 := (hc _ _ q0).trans k0_0
    replace k0_1 := (hc _ _ q0).trans k0_1
    replace k0_2 := (hc _ _ q0).trans k0_2
    replace k0_3 := (hc _ _ q0).trans k0_3
    replace q0 := Nat.lt_of_lt_of_le q0 hbx.size
    replace k1_0 := (hc _ _ q1).trans k1_0
    replace k1_1 := (hc _ _ q1).trans k1_1
    replace k1_2 := (hc _ _ q1).trans k1_2
    replace k1_3 := (hc _ _ q1).trans k1_3
    replace q1 := Nat.lt_of_lt_of_le q1 hbx.size
    replace kb5_0 := (hc _ _ qb5).trans kb5_0
    replace kb5_1 := (hc _ _ qb5).trans kb5_1
    replace qb5 := Nat.lt_of_lt_of_le qb5 hbx.size
    replace kb6_0 := (hc _ _ qb6).trans kb6_0
    replace kb6_1 := (hc _ _ qb6).trans kb6_1
    replace qb6 := Nat.lt_of_lt_of_le qb6 hbx.size
    replace k2_0 := (hc _ _ q2).trans k2_0
    replace f2_0 := (hfz _ _ q2).trans f2_0
    replace k2_1 := (hc _ _ q2).trans k2_1
    replace f2_1 := (hfz _ _ q2).trans f2_1
    replace k2_2 := (hc _ _ q2).trans k2_2
    replace f2_2 := (hfz _ _ q2).trans f2_2
    replace k2_3 := (hc _ _ q2).trans k2_3
    replace f2_3 := (hfz _ _ q2).trans f2_3
    replace NR := Lib.hid ((hbx.block _ q2).trans NR.out)
    replace q2 := Nat.lt_of_lt_of_le q2 hbx.size
    replace hw0 := below_step' hw0 hbx
    replace H1 := hide ((unhide H1).below hbx)
    replace H3 := hide ((unhide H3).below hbx)
    replace H5 := hide ((unhide H5).below hbx)
    replace H6 := hide ((unhide H6).below hbx)
    clear hbx hc hfz
    go_upto_region 3 with fail
    have KEEP := hide (show ∀ X, Below W3.heap.size W3 X → X.cell? ⟨w.heap.size, 0, none⟩ = some (.slice A1 l1.length c1) ∧ X.cell? ⟨w.heap.size, 1, none⟩ = some (.bool m1) ∧ X.cell? ⟨w.heap.size, 2, none⟩ = some (.slice A2 l2.length c2) ∧ X.cell? ⟨w.heap.size, 3, none⟩ = some (.bool m2) ∧ X.cell? ⟨w.heap.size + 1, 0, none⟩ = some (.slice A3 l3.length c3) ∧ X.cell? ⟨w.heap.size + 1, 1, none⟩ = some (.bool m3) ∧ X.cell? ⟨w.heap.size + 1, 2, none⟩ = some (.slice A4 l4.length c4) ∧ X.cell? ⟨w.heap.size + 1, 3, none⟩ = some (.bool m4) ∧ X.cell? ⟨b5, 0, none⟩ = some (.slice A5 l5.length c5) ∧ X.cell? ⟨b5, 1, none⟩ = some (.bool m5) ∧ X.cell? ⟨b6, 0, none⟩ = some (.slice A6 l6.length c6) ∧ X.cell? ⟨b6, 1, none⟩ = some (.bool m6) from fun X hB => ⟨keep_cell hB q0 k0_0, keep_cell hB q0 k0_1, keep_cell hB q0 k0_2, keep_cell hB q0 k0_3, keep_cell hB q1 k1_0, keep_cell hB q1 k1_1, keep_cell hB q1 k1_2, keep_cell hB q1 k1_3, keep_cell hB qb5 kb5_0, keep_cell hB qb5 kb5_1, keep_cell hB qb6 kb6_0, keep_cell hB qb6 kb6_1⟩)
    go_region_held3 (fun w' => w'.cell? ⟨w.heap.size, 0, none⟩ = some (.slice A1 l1.length c1) ∧ w'.cell? ⟨w.heap.size, 1, none⟩ = some (.bool m1) ∧ w'.cell? ⟨w.heap.size, 2, none⟩ = some (.slice A2 l2.length c2) ∧ w'.cell? ⟨w.heap.size, 3, none⟩ = some (.bool m2) ∧ w'.cell? ⟨w.heap.size + 1, 0, none⟩ = some (.slice A3 l3.length c3) ∧ w'.cell? ⟨w.heap.size + 1, 1, none⟩ = some (.bool m3) ∧ w'.cell? ⟨w.heap.size + 1, 2, none⟩ = some (.slice A4 l4.length c4) ∧ w'.cell? ⟨w.heap.size + 1, 3, none⟩ = some (.bool m4) ∧ w'.cell? ⟨b5, 0, none⟩ = some (.slice A5 l5.length c5) ∧ w'.cell? ⟨b5, 1, none⟩ = some (.bool m5) ∧ w'.cell? ⟨b6, 0, none⟩ = some (.slice A6 l6.length c6) ∧ w'.cell? ⟨b6, 1, none⟩ = some (.bool m6)) (first | with_reducible exact ⟨(cell_set4 _ _ _ _ _ _ (by omega)).trans (keep_cell hbw q0 k0_0), (cell_set4 _ _ _ _ _ _ (by omega)).trans (keep_cell hbw q0 k0_1), (cell_set4 _ _ _ _ _ _ (by omega)).trans (keep_cell hbw q0 k0_2), (cell_set4 _ _ _ _ _ _ (by omega)).trans (keep_cell hbw q0 k0_3), (cell_set4 _ _ _ _ _ _ (by omega)).trans (keep_cell hbw q1 k1_0), (cell_set4 _ _ _ _ _ _ (by omega)).trans (keep_cell hbw q1 k1_1), (cell_set4 _ _ _ _ _ _ (by omega)).trans (keep_cell hbw q1 k1_2), (cell_set4 _ _ _ _ _ _ (by omega)).trans (keep_cell hbw q1 k1_3), (cell_set4 _ _ _ _ _ _ (by omega)).trans (keep_cell hbw qb5 kb5_0), (cell_set4 _ _ _ _ _ _ (by omega)).trans (keep_cell hbw qb5 kb5_1), (cell_set4 _ _ _ _ _ _ (by omega)).trans (keep_cell hbw qb6 kb6_0), (cell_set4 _ _ _ _ _ _ (by omega)).trans (keep_cell hbw qb6 kb6_1)⟩ | with_reducible exact (unhide KEEP) _ (by (repeat (first | with_reducible exact Below.refl _ _ | with_reducible assumption | with_reducible refine Below.drew ?_ | with_reducible refine below_alloc ?_ _)))) (first | (go_at_call_of 97 (Value.agg #[.slice A1 l1.length c1, .bool m1]); refine ((unhide HN) A1 c1 l1 m1 A3 c3 l3 m3 _ (below_step' hw0 (by (repeat (first | with_reducible exact Below.refl _ _ | with_reducible assumption | with_reducible refine Below.drew ?_ | with_reducible refine below_alloc ?_ _)))) (WholeF.below (unhide H1) (by (repeat (first | with_reducible exact Below.refl _ _ | with_reducible assumption | with_reducible refine Below.drew ?_ | with_reducible refine below_alloc ?_ _)))) (WholeF.below (unhide H3) (by (repeat (first | with_reducible exact Below.refl _ _ | with_reducible assumption | with_reducible refine Below.drew ?_ | with_reducible refine below_alloc ?_ _))))).mono ?_; rintro e w' ⟨A10, c10, l10, m10, rfl, hf10, hb10⟩; have hbw := below_step (w := W3) (by (repeat (first | with_reducible exact Below.refl _ _ | with_reducible assumption | with_reducible refine Below.drew ?_ | with_reducible refine below_alloc ?_ _))) hb10; have hsw := hbw.size; obtain ⟨hc, hfz⟩ := bcell hbw))
    all_goals
      have hblk : w'.heap[w.heap.size + 1 + 1]? = some (.cells #[.slice none 0 0, .bool false, .slice none 0 0, .bool false] 52 (0, 0)) := (hbw.block _ q2).trans NR.out
      have HBLK := Lib.hid hblk
      have hb9 : Below w.heap.size w w' := below_step' hw0 hbw
      have hfi := (hf10)
      have hfj := ((unhide H5).below hbw)
      clear hblk
      go_wp2_with fail
      exact bodyPost_ret (v := (Value.agg #[.slice A10 l10.length c10, .bool m10, .slice A5 l5.length c5, .bool m5])) (by simp [results, Tryz.results43, go_sem, hc, k2_0, k2_1, k2_2, k2_3, q2]) rfl
        ⟨A10, c10, l10, m10, A5, c5, l5, m5, rfl, hnum ▸ hfi.upto HBLK.out (noW2_4 _ _ _ _ _ _ _ _) (set4_grown _ _ _ _ _ _), hden ▸ hfj.upto HBLK.out (noW2_4 _ _ _ _ _ _ _ _) (set4_grown _ _ _ _ _ _), hb9.grown (set4_grown _ _ _ _ _ _) hb9.size (fun k hk => by injection hk with hk; omega)⟩

end Go.Proofs.YtmahhmdodfimbaaGreatDoor
/- The walk through the sum of two numbers of the reference: the first is no integer. -/
namespace Go.Proofs.YtmahhmdodfimbaaGreatDoor
open Go.RowKit

set_option maxRecDepth 100000 in
set_option maxHeartbeats 16000000 in
theorem qadd_f (A1 : Option Addr) (c1 : Nat) (l1 : List Nat) (m1 : Bool) (A2 : Option Addr) (c2 : Nat) (l2 : List Nat) (m2 : Bool) (A3 : Option Addr) (c3 : Nat) (l3 : List Nat) (m3 : Bool) (A4 : Option Addr) (c4 : Nat) (l4 : List Nat) (m4 : Bool) (z1 b1 z3 b3 x1 x3 n d : Int) (q : Rat) (w : World) (f1 : WholeF w A1 c1 l1 m1 z1) (f3 : WholeF w A3 c3 l3 m3 z3)
    (hd1 : ∀ W, Below w.heap.size w W → Calls Tryz.prog 95 #[(Value.agg #[.slice A1 l1.length c1, .bool m1, .slice A2 l2.length c2, .bool m2])] W fun e w' => WholeR W b1 e w') (hd3 : ∀ W, Below w.heap.size w W → Calls Tryz.prog 95 #[(Value.agg #[.slice A3 l3.length c3, .bool m3, .slice A4 l4.length c4, .bool m4])] W fun e w' => WholeR W b3 e w')
    (ho1 : ∀ (A7 : Option Addr) (c7 : Nat) (l7 : List Nat) (m7 : Bool) (W : World), Below w.heap.size w W → WholeF W A7 c7 l7 m7 b1 → Calls Tryz.prog 96 #[(Value.agg #[.slice A7 l7.length c7, .bool m7])] W fun e w' => e = .returned (.bool false) ∧ Below W.heap.size W w')  (hm1 : OpW2 w 98 z1 b3 x1) (hm3 : OpW2 w 98 z3 b1 x3) (hn : OpW2 w 97 x1 x3 n) (hm : OpW2 w 98 b1 b3 d) (hr : OpRQ w 92 n d q) :
    Calls Tryz.prog 43 #[(Value.agg #[.slice A1 l1.length c1, .bool m1, .slice A2 l2.length c2, .bool m2]), (Value.agg #[.slice A3 l3.length c3, .bool m3, .slice A4 l4.length c4, .bool m4])] w fun e w' => QR w q e w' := by
  have H1 := hide f1
  have H3 := hide f3
  clear f1 f3
  have HD1 := hide hd1
  have HD3 := hide hd3
  have HO1 := hide ho1
  have HM1 := hide hm1
  have HM3 := hide hm3
  have HN := hide hn
  have HM := hide hm
  have HR := hide hr
  clear hd1 hd3 ho1 hm1 hm3 hn hm hr
  go_enter Tryz.func43, Tryz.ntmps43
  go_upto_region 1 with fail
  obtain ⟨n0, n1, n2, hsz, hw0⟩ := three_new w (.cells #[.slice A1 l1.length c1, .bool m1, .slice A2 l2.length c2, .bool m2] 52) (.cells #[.slice A3 l3.length c3, .bool m3, .slice A4 l4.length c4, .bool m4] 52) (.cells #[.slice none 0 0, .bool false, .slice none 0 0, .bool false] 52)
  generalize (((w.alloc (.cells #[.slice A1 l1.length c1, .bool m1, .slice A2 l2.length c2, .bool m2] 52)).alloc (.cells #[.slice A3 l3.length c3, .bool m3, .slice A4 l4.length c4, .bool m4] 52)).alloc (.cells #[.slice none 0 0, .bool false, .slice none 0 0, .bool false] 52)) = W0 at *
  have k0_0 : W0.cell? ⟨w.heap.size, 0, none⟩ = some (.slice A1 l1.length c1) := cells_of n0 0
  have k0_1 : W0.cell? ⟨w.heap.size, 1, none⟩ = some (.bool m1) := cells_of n0 1
  have k0_2 : W0.cell? ⟨w.heap.size, 2, none⟩ = some (.slice A2 l2.length c2) := cells_of n0 2
  have k0_3 : W0.cell? ⟨w.heap.size, 3, none⟩ = some (.bool m2) := cells_of n0 3
  have q0 : w.heap.size < W0.heap.size := by omega
  have k1_0 : W0.cell? ⟨w.heap.size + 1, 0, none⟩ = some (.slice A3 l3.length c3) := cells_of n1 0
  have k1_1 : W0.cell? ⟨w.heap.size + 1, 1, none⟩ = some (.bool m3) := cells_of n1 1
  have k1_2 : W0.cell? ⟨w.heap.size + 1, 2, none⟩ = some (.slice A4 l4.length c4) := cells_of n1 2
  have k1_3 : W0.cell? ⟨w.heap.size + 1, 3, none⟩ = some (.bool m4) := cells_of n1 3
  have q1 : w.heap.size + 1 < W0.heap.size := by omega
  have k2_0 : W0.cell? ⟨w.heap.size + 1 + 1, 0, none⟩ = some (.slice none 0 0) := cells_of n2 0
  have k2_1 : W0.cell? ⟨w.heap.size + 1 + 1, 1, none⟩ = some (.bool false) := cells_of n2 1
  have k2_2 : W0.cell? ⟨w.heap.size + 1 + 1, 2, none⟩ = some (.slice none 0 0) := cells_of n2 2
  have k2_3 : W0.cell? ⟨w.heap.size + 1 + 1, 3, none⟩ = some (.bool false) := cells_of n2 3
  have q2 : w.heap.size + 1 + 1 < W0.heap.size := by omega
  have f2_0 := unfrozen_of n2 0
  have f2_1 := unfrozen_of n2 1
  have f2_2 := unfrozen_of n2 2
  have f2_3 := unfrozen_of n2 3
  have NR := Lib.hid n2
  clear hsz n0 n1 n2
  replace H1 := hide ((unhide H1).below hw0)
  replace H3 := hide ((unhide H3).below hw0)
  go_upto_region 1 with fail
  go_cut [5, 6] (fun s5_ s6_ wx => ∃ b5 b6 : Nat, s5_ = .pointer (some ⟨b5, 0, none⟩) ∧ s6_ = .pointer (some ⟨b6, 0, none⟩) ∧ BoxW wx b5 b1 ∧ BoxW wx b6 b3 ∧ Below W0.heap.size W0 wx ∧ W0.heap.size ≤ b5 ∧ W0.heap.size ≤ b6)
  case first =>
    have KEEP := hide (show ∀ X, Below W0.heap.size W0 X → X.cell? ⟨w.heap.size, 0, none⟩ = some (.slice A1 l1.length c1) ∧ X.cell? ⟨w.heap.size, 1, none⟩ = some (.bool m1) ∧ X.cell? ⟨w.heap.size, 2, none⟩ = some (.slice A2 l2.length c2) ∧ X.cell? ⟨w.heap.size, 3, none⟩ = some (.bool m2) ∧ X.cell? ⟨w.heap.size + 1, 0, none⟩ = some (.slice A3 l3.length c3) ∧ X.cell? ⟨w.heap.size + 1, 1, none⟩ = some (.bool m3) ∧ X.cell? ⟨w.heap.size + 1, 2, none⟩ = some (.slice A4 l4.length c4) ∧ X.cell? ⟨w.heap.size + 1, 3, none⟩ = some (.bool m4) from fun X hB => ⟨keep_cell hB q0 k0_0, keep_cell hB q0 k0_1, keep_cell hB q0 k0_2, keep_cell hB q0 k0_3, keep_cell hB q1 k1_0, keep_cell hB q1 k1_1, keep_cell hB q1 k1_2, keep_cell hB q1 k1_3⟩)
    go_region_held3 (fun w' => w'.cell? ⟨w.heap.size, 0, none⟩ = some (.slice A1 l1.length c1) ∧ w'.cell? ⟨w.heap.size, 1, none⟩ = some (.bool m1) ∧ w'.cell? ⟨w.heap.size, 2, none⟩ = some (.slice A2 l2.length c2) ∧ w'.cell? ⟨w.heap.size, 3, none⟩ = some (.bool m2) ∧ w'.cell? ⟨w.heap.size + 1, 0, none⟩ = some (.slice A3 l3.length c3) ∧ w'.cell? ⟨w.heap.size + 1, 1, none⟩ = some (.bool m3) ∧ w'.cell? ⟨w.heap.size + 1, 2, none⟩ = some (.slice A4 l4.length c4) ∧ w'.cell? ⟨w.heap.size + 1, 3, none⟩ = some (.bool m4)) (exact (unhide KEEP) _ (by (repeat (first | with_reducible exact Below.refl _ _ | with_reducible assumption | with_reducible refine Below.drew ?_ | with_reducible refine below_alloc ?_ _ | (with_reducible refine below_set ?_ ?_ _ _; rotate_left; (first | omega | (simp <;> omega))))))) (first | (go_at_call_of 95 (Value.agg #[.slice A1 l1.length c1, .bool m1, .slice A2 l2.length c2, .bool m2]); refine ((unhide HD1) _ (below_step' hw0 (by (repeat (first | with_reducible exact Below.refl _ _ | with_reducible assumption | with_reducible refine Below.drew ?_ | with_reducible refine below_alloc ?_ _))))).mono ?_; rintro e w' ⟨A5, c5, l5, m5, rfl, hf5, hb5⟩; have hbw := below_step (w := W0) (by (repeat (first | with_reducible exact Below.refl _ _ | with_reducible assumption | with_reducible refine Below.drew ?_ | with_reducible refine below_alloc ?_ _))) hb5; have hsw := hbw.size; obtain ⟨hc, hfz⟩ := bcell hbw; (try ((first | have u5a : FrW W0 w' _ := FrW.below (FrW.new (by (repeat (first | with_reducible exact Below.refl _ _ | with_reducible assumption | with_reducible refine Below.drew ?_ | with_reducible refine below_alloc ?_ _))) rfl) hb5 | have u5a : FrW W0 w' _ := FrW.below (FrW.drew (FrW.new (by (repeat (first | with_reducible exact Below.refl _ _ | with_reducible assumption | with_reducible refine Below.drew ?_ | with_reducible refine below_alloc ?_ _))) rfl)) hb5); (try simp only [World.size_alloc] at u5a); (try dsimp only [World.drew] at u5a); (try simp only [World.size_alloc] at u5a); obtain ⟨⟨u5a1, u5a2⟩, ⟨u5a3, u5a4⟩, ⟨u5a5, u5a6⟩, ⟨u5a7, u5a8⟩, u5a9, u5a10⟩ := FrW.facts u5a)); (try ((first | have u5b : FrW W0 w' _ := FrW.below (FrW.alloc (FrW.new (by (repeat (first | with_reducible exact Below.refl _ _ | with_reducible assumption | with_reducible refine Below.drew ?_ | with_reducible refine below_alloc ?_ _))) rfl)) hb5 | have u5b : FrW W0 w' _ := FrW.below (FrW.drew (FrW.alloc (FrW.new (by (repeat (first | with_reducible exact Below.refl _ _ | with_reducible assumption | with_reducible refine Below.drew ?_ | with_reducible refine below_alloc ?_ _))) rfl))) hb5); (try simp only [World.size_alloc] at u5b); (try dsimp only [World.drew] at u5b); (try simp only [World.size_alloc] at u5b); obtain ⟨⟨u5b1, u5b2⟩, ⟨u5b3, u5b4⟩, ⟨u5b5, u5b6⟩, ⟨u5b7, u5b8⟩, u5b9, u5b10⟩ := FrW.facts u5b))) | (go_at_call_of 95 (Value.agg #[.slice A3 l3.length c3, .bool m3, .slice A4 l4.length c4, .bool m4]); refine ((unhide HD3) _ (below_step' hw0 (by (repeat (first | with_reducible exact Below.refl _ _ | with_reducible assumption | with_reducible refine Below.drew ?_ | with_reducible refine below_alloc ?_ _))))).mono ?_; rintro e w' ⟨A6, c6, l6, m6, rfl, hf6, hb6⟩; have hf5 := WholeF.below (WholeF.below hf5 (by (repeat (first | with_reducible exact Below.refl _ _ | with_reducible assumption | with_reducible refine Below.drew ?_ | with_reducible refine below_alloc ?_ _)))) hb6; have hbw := below_step (w := W0) (by (repeat (first | with_reducible exact Below.refl _ _ | with_reducible assumption | with_reducible refine Below.drew ?_ | with_reducible refine below_alloc ?_ _))) hb6; have hsw := hbw.size; obtain ⟨hc, hfz⟩ := bcell hbw; (try ((first | have u6a : FrW W0 w' _ := FrW.below (FrW.new (by (repeat (first | with_reducible exact Below.refl _ _ | with_reducible assumption | with_reducible refine Below.drew ?_ | with_reducible refine below_alloc ?_ _))) rfl) hb6 | have u6a : FrW W0 w' _ := FrW.below (FrW.drew (FrW.new (by (repeat (first | with_reducible exact Below.refl _ _ | with_reducible assumption | with_reducible refine Below.drew ?_ | with_reducible refine below_alloc ?_ _))) rfl)) hb6); (try simp only [World.size_alloc] at u6a); (try dsimp only [World.drew] at u6a); (try simp only [World.size_alloc] at u6a); obtain ⟨⟨u6a1, u6a2⟩, ⟨u6a3, u6a4⟩, ⟨u6a5, u6a6⟩, ⟨u6a7, u6a8⟩, u6a9, u6a10⟩ := FrW.facts u6a)); (try ((first | have u6b : FrW W0 w' _ := FrW.below (FrW.alloc (FrW.new (by (repeat (first | with_reducible exact Below.refl _ _ | with_reducible assumption | with_reducible refine Below.drew ?_ | with_reducible refine below_alloc ?_ _))) rfl)) hb6 | have u6b : FrW W0 w' _ := FrW.below (FrW.drew (FrW.alloc (FrW.new (by (repeat (first | with_reducible exact Below.refl _ _ | with_reducible assumption | with_reducible refine Below.drew ?_ | with_reducible refine below_alloc ?_ _))) rfl))) hb6); (try simp only [World.size_alloc] at u6b); (try dsimp only [World.drew] at u6b); (try simp only [World.size_alloc] at u6b); obtain ⟨⟨u6b1, u6b2⟩, ⟨u6b3, u6b4⟩, ⟨u6b5, u6b6⟩, ⟨u6b7, u6b8⟩, u6b9, u6b10⟩ := FrW.facts u6b)); (try ((first | have u6c : FrW W0 w' _ := FrW.below u5a hb6 | have u6c : FrW W0 w' _ := FrW.below (FrW.alloc u5a) hb6 | have u6c : FrW W0 w' _ := FrW.below (FrW.alloc (FrW.alloc u5a)) hb6); (try simp only [World.size_alloc] at u6c); (try dsimp only [World.drew] at u6c); (try simp only [World.size_alloc] at u6c); obtain ⟨⟨u6c1, u6c2⟩, ⟨u6c3, u6c4⟩, ⟨u6c5, u6c6⟩, ⟨u6c7, u6c8⟩, u6c9, u6c10⟩ := FrW.facts u6c)); (try ((first | have u6d : FrW W0 w' _ := FrW.below u5b hb6 | have u6d : FrW W0 w' _ := FrW.below (FrW.alloc u5b) hb6 | have u6d : FrW W0 w' _ := FrW.below (FrW.alloc (FrW.alloc u5b)) hb6); (try simp only [World.size_alloc] at u6d); (try dsimp only [World.drew] at u6d); (try simp only [World.size_alloc] at u6d); obtain ⟨⟨u6d1, u6d2⟩, ⟨u6d3, u6d4⟩, ⟨u6d5, u6d6⟩, ⟨u6d7, u6d8⟩, u6d9, u6d10⟩ := FrW.facts u6d))))
    all_goals (go_wp2_with fail; go_meet; refine ⟨_, _, rfl, rfl, ?_⟩; first | with_reducible exact wput_two ⟨by assumption, by assumption, by first | assumption | omega⟩ hf5 hf6 hbw | with_reducible exact wput_two (FrW2.newR (by assumption) rfl) hf5.alloc hf6.alloc (below_alloc hbw _) | with_reducible exact wput_two (FrW2.newL (by assumption) rfl) hf5.alloc hf6.alloc (below_alloc hbw _) | with_reducible exact wput_nn hf5 hf6 hbw rfl rfl | with_reducible exact wput_mm hf5 hf6 hbw rfl rfl | with_reducible exact wput_ns (by assumption) hf5 hf6 hbw rfl)
  case rest =>
    revert hcut
    generalize wc = W1
    intro hcut
    obtain ⟨b5, b6, rfl, rfl, B5, B6, hbx, ob5, ob6⟩ := hcut
    obtain ⟨hc, hfz⟩ := bcell hbx
    replace k0_0 := (hc _ _ q0).trans k0_0
    replace k0_1 := (hc _ _ q0).trans k0_1
    replace k0_2 := (hc _ _ q0).trans k0_2
    replace k0_3 := (hc _ _ q0).trans k0_3
    replace q0 := Nat.lt_of_lt_of_le q0 hbx.size
    replace k1_0 := (hc _ _ q1).trans k1_0
    replace k1_1 := (hc _ _ q1).trans k1_1
    replace k1_2 := (hc _ _ q1).trans k1_2
    replace k1_3 := (hc _ _ q1).trans k1_3
    replace q1 := Nat.lt_of_lt_of_le q1 hbx.size
    replace ob5 : w.heap.size + 1 + 1 < b5 := Nat.lt_of_lt_of_le q2 ob5
    replace ob6 : w.heap.size + 1 + 1 < b6 := Nat.lt_of_lt_of_le q2 ob6
    replace k2_0 := (hc _ _ q2).trans k2_0
    replace f2_0 := (hfz _ _ q2).trans f2_0
    replace k2_1 := (hc _ _ q2).trans k2_1
    replace f2_1 := (hfz _ _ q2).trans f2_1
    replace k2_2 := (hc _ _ q2).trans k2_2
    replace f2_2 := (hfz _ _ q2).trans f2_2
    replace k2_3 := (hc _ _ q2).trans k2_3
    replace f2_3 := (hfz _ _ q2).trans f2_3
    replace NR := Lib.hid ((hbx.block _ q2).trans NR.out)
    replace q2 := Nat.lt_of_lt_of_le q2 hbx.size
    replace hw0 := below_step' hw0 hbx
    replace H1 := hide ((unhide H1).below hbx)
    replace H3 := hide ((unhide H3).below hbx)
    obtain ⟨A5, c5, l5, m5, n5, H5⟩ := B5
    have kb5_0 : W1.cell? ⟨b5, 0, none⟩ = some (.slice A5 l5.length c5) := cells_of n5 0
    have kb5_1 : W1.cell? ⟨b5, 1, none⟩ = some (.bool m5) := cells_of n5 1
    have qb5 := lt_of_block n5
    replace H5 := hide H5
    clear n5
    obtain ⟨A6, c6, l6, m6, n6, H6⟩ := B6
    have kb6_0 : W1.cell? ⟨b6, 0, none⟩ = some (.slice A6 l6.length c6) := cells_of n6 0
    have kb6_1 : W1.cell? ⟨b6, 1, none⟩ = some (.bool m6) := cells_of n6 1
    have qb6 := lt_of_block n6
    replace H6 := hide H6
    clear n6
    clear hbx hc hfz
    go_wp2_with fail
    refine ((unhide HO1) A5 c5 l5 m5 _ hw0 (unhide H5)).mono ?_
    rintro e W2 ⟨rfl, hbx⟩
    obtain ⟨hc, hfz⟩ := bcell hbx
    replace k0_0 := (hc _ _ q0).trans k0_0
    replace k0_1 := (hc _ _ q0).trans k0_1
    replace k0_2 := (hc _ _ q0).trans k0_2
    replace k0_3 := (hc _ _ q0).trans k0_3
    replace q0 := Nat.lt_of_lt_of_le q0 hbx.size
    replace k1_0 := (hc _ _ q1).trans k1_0
    replace k1_1 := (hc _ _ q1).trans k1_1
    replace k1_2 := (hc _ _ q1).trans k1_2
    replace k1_3 := (hc _ _ q1).trans k1_3
    replace q1 := Nat.lt_of_lt_of_le q1 hbx.size
    replace kb5_0 := (hc _ _ qb5).trans kb5_0
    replace kb5_1 := (hc _ _ qb5).trans kb5_1
    replace qb5 := Nat.lt_of_lt_of_le qb5 hbx.size
    replace kb6_0 := (hc _ _ qb6).trans kb6_0
    replace kb6_1 := (hc _ _ qb6).trans kb6_1
    replace qb6 := Nat.lt_of_lt_of_le qb6 hbx.size
    replace k2_0 := (hc _ _ q2).trans k2_0
    replace f2_0 := (hfz _ _ q2).trans f2_0
    replace k2_1 := (hc _ _ q2).trans k2_1
    replace f2_1 := (hfz _ _ q2).trans f2_1
    replace k2_2 := (hc _ _ q2).trans k2_2
    replace f2_2 := (hfz _ _ q2).trans f2_2
    replace k2_3 := (hc _ _ q2).trans k2_3
    replace f2_3 := (hfz _ _ q2).trans f2_3
    replace NR := Lib.hid ((hbx.block _ q2).trans NR.out)
    replace q2 := Nat.lt_of_lt_of_le q2 hbx.size
    replace hw0 := below_step' hw0 hbx
    replace H1 := hide ((unhide H1).below hbx)
    replace H3 := hide ((unhide H3).below hbx)
    replace H5 := hide ((unhide H5).below hbx)
    replace H6 := hide ((unhide H6).below hbx)
    clear hbx hc hfz
    go_upto_region 4 with fail
    have KEEP := hide (show ∀ X, Below W2.heap.size W2 X → X.cell? ⟨w.heap.size, 0, none⟩ = some (.slice A1 l1.length c1) ∧ X.cell? ⟨w.heap.size, 1, none⟩ = some (.bool m1) ∧ X.cell? ⟨w.heap.size, 2, none⟩ = some (.slice A2 l2.length c2) ∧ X.cell? ⟨w.heap.size, 3, none⟩ = some (.bool m2) ∧ X.cell? ⟨w.heap.size + 1, 0, none⟩ = some (.slice A3 l3.length c3) ∧ X.cell? ⟨w.heap.size + 1, 1, none⟩ = some (.bool m3) ∧ X.cell? ⟨w.heap.size + 1, 2, none⟩ = some (.slice A4 l4.length c4) ∧ X.cell? ⟨w.heap.size + 1, 3, none⟩ = some (.bool m4) ∧ X.cell? ⟨b5, 0, none⟩ = some (.slice A5 l5.length c5) ∧ X.cell? ⟨b5, 1, none⟩ = some (.bool m5) ∧ X.cell? ⟨b6, 0, none⟩ = some (.slice A6 l6.length c6) ∧ X.cell? ⟨b6, 1, none⟩ = some (.bool m6) from fun X hB => ⟨keep_cell hB q0 k0_0, keep_cell hB q0 k0_1, keep_cell hB q0 k0_2, keep_cell hB q0 k0_3, keep_cell hB q1 k1_0, keep_cell hB q1 k1_1, keep_cell hB q1 k1_2, keep_cell hB q1 k1_3, keep_cell hB qb5 kb5_0, keep_cell hB qb5 kb5_1, keep_cell hB qb6 kb6_0, keep_cell hB qb6 kb6_1⟩)
    go_region_held3 (fun w' => w'.cell? ⟨w.heap.size, 0, none⟩ = some (.slice A1 l1.length c1) ∧ w'.cell? ⟨w.heap.size, 1, none⟩ = some (.bool m1) ∧ w'.cell? ⟨w.heap.size, 2, none⟩ = some (.slice A2 l2.length c2) ∧ w'.cell? ⟨w.heap.size, 3, none⟩ = some (.bool m2) ∧ w'.cell? ⟨w.heap.size + 1, 0, none⟩ = some (.slice A3 l3.length c3) ∧ w'.cell? ⟨w.heap.size + 1, 1, none⟩ = some (.bool m3) ∧ w'.cell? ⟨w.heap.size + 1, 2, none⟩ = some (.slice A4 l4.length c4) ∧ w'.cell? ⟨w.heap.size + 1, 3, none⟩ = some (.bool m4) ∧ w'.cell? ⟨b5, 0, none⟩ = some (.slice A5 l5.length c5) ∧ w'.cell? ⟨b5, 1, none⟩ = some (.bool m5) ∧ w'.cell? ⟨b6, 0, none⟩ = some (.slice A6 l6.length c6) ∧ w'.cell? ⟨b6, 1, none⟩ = some (.bool m6)) (first | with_reducible exact ⟨(cell_set4 _ _ _ _ _ _ (by omega)).trans (keep_cell hbw q0 k0_0), (cell_set4 _ _ _ _ _ _ (by omega)).trans (keep_cell hbw q0 k0_1), (cell_set4 _ _ _ _ _ _ (by omega)).trans (keep_cell hbw q0 k0_2), (cell_set4 _ _ _ _ _ _ (by omega)).trans (keep_cell hbw q0 k0_3), (cell_set4 _ _ _ _ _ _ (by omega)).trans (keep_cell hbw q1 k1_0), (cell_set4 _ _ _ _ _ _ (by omega)).trans (keep_cell hbw q1 k1_1), (cell_set4 _ _ _ _ _ _ (by omega)).trans (keep_cell hbw q1 k1_2), (cell_set4 _ _ _ _ _ _ (by omega)).trans (keep_cell hbw q1 k1_3), (cell_set4 _ _ _ _ _ _ (by omega)).trans (keep_cell hbw qb5 kb5_0), (cell_set4 _ _ _ _ _ _ (by omega)).trans (keep_cell hbw qb5 kb5_1), (cell_set4 _ _ _ _ _ _ (by omega)).trans (keep_cell hbw qb6 kb6_0), (cell_set4 _ _ _ _ _ _ (by omega)).trans (keep_cell hbw qb6 kb6_1)⟩ | with_reducible exact (unhide KEEP) _ (by (repeat (first | with_reducible exact Below.refl _ _ | with_reducible assumption | with_reducible refine Below.drew ?_ | with_reducible refine below_alloc ?_ _)))) (first | (go_at_call_of 98 (Value.agg #[.slice A1 l1.length c1, .bool m1]); refine ((unhide HM1) A1 c1 l1 m1 A6 c6 l6 m6 _ (below_step' hw0 (by (repeat (first | with_reducible exact Below.refl _ _ | with_reducible assumption | with_reducible refine Below.drew ?_ | with_reducible refine below_alloc ?_ _)))) (WholeF.below (unhide H1) (by (repeat (first | with_reducible exact Below.refl _ _ | with_reducible assumption | with_reducible refine Below.drew ?_ | with_reducible refine below_alloc ?_ _)))) (WholeF.below (unhide H6) (by (repeat (first | with_reducible exact Below.refl _ _ | with_reducible assumption | with_reducible refine Below.drew ?_ | with_reducible refine below_alloc ?_ _))))).mono ?_; rintro e w' ⟨A8, c8, l8, m8, rfl, hf8, hb8⟩; have hbw := below_step (w := W2) (by (repeat (first | with_reducible exact Below.refl _ _ | with_reducible assumption | with_reducible refine Below.drew ?_ | with_reducible refine below_alloc ?_ _))) hb8; have hsw := hbw.size; obtain ⟨hc, hfz⟩ := bcell hbw) | (go_at_call_of 98 (Value.agg #[.slice A3 l3.length c3, .bool m3]); refine ((unhide HM3) A3 c3 l3 m3 A5 c5 l5 m5 _ (below_step' hw0 (by (repeat (first | with_reducible exact Below.refl _ _ | with_reducible assumption | with_reducible refine Below.drew ?_ | with_reducible refine below_alloc ?_ _)))) (WholeF.below (unhide H3) (by (repeat (first | with_reducible exact Below.refl _ _ | with_reducible assumption | with_reducible refine Below.drew ?_ | with_reducible refine below_alloc ?_ _)))) (WholeF.below (unhide H5) (by (repeat (first | with_reducible exact Below.refl _ _ | with_reducible assumption | with_reducible refine Below.drew ?_ | with_reducible refine below_alloc ?_ _))))).mono ?_; rintro e w' ⟨A9, c9, l9, m9, rfl, hf9, hb9⟩; have hf8 := WholeF.below (WholeF.below hf8 (by (repeat (first | with_reducible exact Below.refl _ _ | with_reducible assumption | with_reducible refine Below.drew ?_ | with_reducible refine below_alloc ?_ _)))) hb9; have hbw := below_step (w := W2) (by (repeat (first | with_reducible exact Below.refl _ _ | with_reducible assumption | with_reducible refine Below.drew ?_ | with_reducible refine below_alloc ?_ _))) hb9; have hsw := hbw.size; obtain ⟨hc, hfz⟩ := bcell hbw) | (go_at_call_of 97 (Value.agg #[.slice A8 l8.length c8, .bool m8]); refine ((unhide HN) A8 c8 l8 m8 A9 c9 l9 m9 _ (below_step' hw0 (by (repeat (first | with_reducible exact Below.refl _ _ | with_reducible assumption | with_reducible refine Below.drew ?_ | with_reducible refine below_alloc ?_ _)))) (WholeF.below hf8 (by (repeat (first | with_reducible exact Below.refl _ _ | with_reducible assumption | with_reducible refine Below.drew ?_ | with_reducible refine below_alloc ?_ _)))) (WholeF.below hf9 (by (repeat (first | with_reducible exact Below.refl _ _ | with_reducible assumption | with_reducible refine Below.drew ?_ | with_reducible refine below_alloc ?_ _))))).mono ?_; rintro e w' ⟨A10, c10, l10, m10, rfl, hf10, hb10⟩; have hf8 := WholeF.below (WholeF.below hf8 (by (repeat (first | with_reducible exact Below.refl _ _ | with_reducible assumption | with_reducible refine Below.drew ?_ | with_reducible refine below_alloc ?_ _)))) hb10; have hf9 := WholeF.below (WholeF.below hf9 (by (repeat (first | with_reducible exact Below.refl _ _ | with_reducible assumption | with_reducible refine Below.drew ?_ | with_reducible refine below_alloc ?_ _)))) hb10; have hbw := below_step (w := W2) (by (repeat (first | with_reducible exact Below.refl _ _ | with_reducible assumption | with_reducible refine Below.drew ?_ | with_reducible refine below_alloc ?_ _))) hb10; have hsw := hbw.size; obtain ⟨hc, hfz⟩ := bcell hbw) | (go_at_call_of 98 (Value.agg #[.slice A5 l5.length c5, .bool m5]); refine ((unhide HM) A5 c5 l5 m5 A6 c6 l6 m6 _ (below_step' hw0 (by (repeat (first | with_reducible exact Below.refl _ _ | with_reducible assumption | with_reducible refine Below.drew ?_ | with_reducible refine below_alloc ?_ _)))) (WholeF.below (unhide H5) (by (repeat (first | with_reducible exact Below.refl _ _ | with_reducible assumption | with_reducible refine Below.drew ?_ | with_reducible refine below_alloc ?_ _)))) (WholeF.below (unhide H6) (by (repeat (first | with_reducible exact Below.refl _ _ | with_reducible assumption | with_reducible refine Below.drew ?_ | with_reducible refine below_alloc ?_ _))))).mono ?_; rintro e w' ⟨A11, c11, l11, m11, rfl, hf11, hb11⟩; have hf8 := WholeF.below (WholeF.below hf8 (by (repeat (first | with_reducible exact Below.refl _ _ | with_reducible assumption | with_reducible refine Below.drew ?_ | with_reducible refine below_alloc ?_ _)))) hb11; have hf9 := WholeF.below (WholeF.below hf9 (by (repeat (first | with_reducible exact Below.refl _ _ | with_reducible assumption | with_reducible refine Below.drew ?_ | with_reducible refine below_alloc ?_ _)))) hb11; have hf10 := WholeF.below (WholeF.below hf10 (by (repeat (first | with_reducible exact Below.refl _ _ | with_reducible assumption | with_reducible refine Below.drew ?_ | with_reducible refine below_alloc ?_ _)))) hb11; have hbw := below_step (w := W2) (by (repeat (first | with_reducible exact Below.refl _ _ | with_reducible assumption | with_reducible refine Below.drew ?_ | with_reducible refine below_alloc ?_ _))) hb11; have hsw := hbw.size; obtain ⟨hc, hfz⟩ := bcell hbw) | (go_at_call_of 92 (Value.agg #[.slice A10 l10.length c10, .bool m10]); refine ((unhide HR) A10 c10 l10 m10 A11 c11 l11 m11 _ (below_step' hw0 (by (repeat (first | with_reducible exact Below.refl _ _ | with_reducible assumption | with_reducible refine Below.drew ?_ | with_reducible refine below_alloc ?_ _)))) (WholeF.below hf10 (by (repeat (first | with_reducible exact Below.refl _ _ | with_reducible assumption | with_reducible refine Below.drew ?_ | with_reducible refine below_alloc ?_ _)))) (WholeF.below hf11 (by (repeat (first | with_reducible exact Below.refl _ _ | with_reducible assumption | with_reducible refine Below.drew ?_ | with_reducible refine below_alloc ?_ _))))).mono ?_; rintro e w' ⟨A12, c12, l12, m12, A13, c13, l13, m13, rfl, hf12, hf13, hb12⟩; have hf8 := WholeF.below (WholeF.below hf8 (by (repeat (first | with_reducible exact Below.refl _ _ | with_reducible assumption | with_reducible refine Below.drew ?_ | with_reducible refine below_alloc ?_ _)))) hb12; have hf9 := WholeF.below (WholeF.below hf9 (by (repeat (first | with_reducible exact Below.refl _ _ | with_reducible assumption | with_reducible refine Below.drew ?_ | with_reducible refine below_alloc ?_ _)))) hb12; have hf10 := WholeF.below (WholeF.below hf10 (by (repeat (first | with_reducible exact Below.refl _ _ | with_reducible assumption | with_reducible refine Below.drew ?_ | with_reducible refine below_alloc ?_ _)))) hb12; have hf11 := WholeF.below (WholeF.below hf11 (by (repeat (first | with_reducible exact Below.refl _ _ | with_reducible assumption | with_reducible refine Below.drew ?_ | with_reducible refine below_alloc ?_ _)))) hb12; have hbw := below_step (w := W2) (by (repeat (first | with_reducible exact Below.refl _ _ | with_reducible assumption | with_reducible refine Below.drew ?_ | with_reducible refine below_alloc ?_ _))) hb12; have hsw := hbw.size; obtain ⟨hc, hfz⟩ := bcell hbw))
    all_goals
      have hblk : w'.heap[w.heap.size + 1 + 1]? = some (.cells #[.slice none 0 0, .bool false, .slice none 0 0, .bool false] 52 (0, 0)) := (hbw.block _ q2).trans NR.out
      have HBLK := Lib.hid hblk
      have hb9 : Below w.heap.size w w' := below_step' hw0 hbw
      have hfi := (hf12)
      have hfj := (hf13)
      clear hblk
      go_wp2_with fail
      exact bodyPost_ret (v := (Value.agg #[.slice A12 l12.length c12, .bool m12, .slice A13 l13.length c13, .bool m13])) (by simp [results, Tryz.results43, go_sem, hc, k2_0, k2_1, k2_2, k2_3, q2]) rfl
        ⟨A12, c12, l12, m12, A13, c13, l13, m13, rfl, hfi.upto HBLK.out (noW2_4 _ _ _ _ _ _ _ _) (set4_grown _ _ _ _ _ _), hfj.upto HBLK.out (noW2_4 _ _ _ _ _ _ _ _) (set4_grown _ _ _ _ _ _), hb9.grown (set4_grown _ _ _ _ _ _) hb9.size (fun k hk => by injection hk with hk; omega)⟩

end Go.Proofs.YtmahhmdodfimbaaGreatDoor
/- The walk through the sum of two numbers of the reference: the second is no integer. -/
namespace Go.Proofs.YtmahhmdodfimbaaGreatDoor
open Go.RowKit

set_option maxRecDepth 100000 in
set_option maxHeartbeats 16000000 in
theorem qadd_tf (A1 : Option Addr) (c1 : Nat) (l1 : List Nat) (m1 : Bool) (A2 : Option Addr) (c2 : Nat) (l2 : List Nat) (m2 : Bool) (A3 : Option Addr) (c3 : Nat) (l3 : List Nat) (m3 : Bool) (A4 : Option Addr) (c4 : Nat) (l4 : List Nat) (m4 : Bool) (z1 b1 z3 b3 x1 x3 n d : Int) (q : Rat) (w : World) (f1 : WholeF w A1 c1 l1 m1 z1) (f3 : WholeF w A3 c3 l3 m3 z3)
    (hd1 : ∀ W, Below w.heap.size w W → Calls Tryz.prog 95 #[(Value.agg #[.slice A1 l1.length c1, .bool m1, .slice A2 l2.length c2, .bool m2])] W fun e w' => WholeR W b1 e w') (hd3 : ∀ W, Below w.heap.size w W → Calls Tryz.prog 95 #[(Value.agg #[.slice A3 l3.length c3, .bool m3, .slice A4 l4.length c4, .bool m4])] W fun e w' => WholeR W b3 e w')
    (ho1 : ∀ (A7 : Option Addr) (c7 : Nat) (l7 : List Nat) (m7 : Bool) (W : World), Below w.heap.size w W → WholeF W A7 c7 l7 m7 b1 → Calls Tryz.prog 96 #[(Value.agg #[.slice A7 l7.length c7, .bool m7])] W fun e w' => e = .returned (.bool true) ∧ Below W.heap.size W w') (ho3 : ∀ (A7 : Option Addr) (c7 : Nat) (l7 : List Nat) (m7 : Bool) (W : World), Below w.heap.size w W → WholeF W A7 c7 l7 m7 b3 → Calls Tryz.prog 96 #[(Value.agg #[.slice A7 l7.length c7, .bool m7])] W fun e w' => e = .returned (.bool false) ∧ Below W.heap.size W w') (hm1 : OpW2 w 98 z1 b3 x1) (hm3 : OpW2 w 98 z3 b1 x3) (hn : OpW2 w 97 x1 x3 n) (hm : OpW2 w 98 b1 b3 d) (hr : OpRQ w 92 n d q) :
    Calls Tryz.prog 43 #[(Value.agg #[.slice A1 l1.length c1, .bool m1, .slice A2 l2.length c2, .bool m2]), (Value.agg #[.slice A3 l3.length c3, .bool m3, .slice A4 l4.length c4, .bool m4])] w fun e w' => QR w q e w' := by
  have H1 := hide f1
  have H3 := hide f3
  clear f1 f3
  have HD1 := hide hd1
  have HD3 := hide hd3
  have HO1 := hide ho1
  have HO3 := hide ho3
  have HM1 := hide hm1
  have HM3 := hide hm3
  have HN := hide hn
  have HM := hide hm
  have HR := hide hr
  clear hd1 hd3 ho1 ho3 hm1 hm3 hn hm hr
  go_enter Tryz.func43, Tryz.ntmps43
  go_upto_region 1 with fail
  obtain ⟨n0, n1, n2, hsz, hw0⟩ := three_new w (.cells #[.slice A1 l1.length c1, .bool m1, .slice A2 l2.length c2, .bool m2] 52) (.cells #[.slice A3 l3.length c3, .bool m3, .slice A4 l4.length c4, .bool m4] 52) (.cells #[.slice none 0 0, .bool false, .slice none 0 0, .bool false] 52)
  generalize (((w.alloc (.cells #[.slice A1 l1.length c1, .bool m1, .slice A2 l2.length c2, .bool m2] 52)).alloc (.cells #[.slice A3 l3.length c3, .bool m3, .slice A4 l4.length c4, .bool m4] 52)).alloc (.cells #[.slice none 0 0, .bool false, .slice none 0 0, .bool false] 52)) = W0 at *
  have k0_0 : W0.cell? ⟨w.heap.size, 0, none⟩ = some (.slice A1 l1.length c1) := cells_of n0 0
  have k0_1 : W0.cell? ⟨w.heap.size, 1, none⟩ = some (.bool m1) := cells_of n0 1
  have k0_2 : W0.cell? ⟨w.heap.size, 2, none⟩ = some (.slice A2 l2.length c2) := cells_of n0 2
  have k0_3 : W0.cell? ⟨w.heap.size, 3, none⟩ = some (.bool m2) := cells_of n0 3
  have q0 : w.heap.size < W0.heap.size := by omega
  have k1_0 : W0.cell? ⟨w.heap.size + 1, 0, none⟩ = some (.slice A3 l3.length c3) := cells_of n1 0
  have k1_1 : W0.cell? ⟨w.heap.size + 1, 1, none⟩ = some (.bool m3) := cells_of n1 1
  have k1_2 : W0.cell? ⟨w.heap.size + 1, 2, none⟩ = some (.slice A4 l4.length c4) := cells_of n1 2
  have k1_3 : W0.cell? ⟨w.heap.size + 1, 3, none⟩ = some (.bool m4) := cells_of n1 3
  have q1 : w.heap.size + 1 < W0.heap.size := by omega
  have k2_0 : W0.cell? ⟨w.heap.size + 1 + 1, 0, none⟩ = some (.slice none 0 0) := cells_of n2 0
  have k2_1 : W0.cell? ⟨w.heap.size + 1 + 1, 1, none⟩ = some (.bool false) := cells_of n2 1
  have k2_2 : W0.cell? ⟨w.heap.size + 1 + 1, 2, none⟩ = some (.slice none 0 0) := cells_of n2 2
  have k2_3 : W0.cell? ⟨w.heap.size + 1 + 1, 3, none⟩ = some (.bool false) := cells_of n2 3
  have q2 : w.heap.size + 1 + 1 < W0.heap.size := by omega
  have f2_0 := unfrozen_of n2 0
  have f2_1 := unfrozen_of n2 1
  have f2_2 := unfrozen_of n2 2
  have f2_3 := unfrozen_of n2 3
  have NR := Lib.hid n2
  clear hsz n0 n1 n2
  replace H1 := hide ((unhide H1).below hw0)
  replace H3 := hide ((unhide H3).below hw0)
  go_upto_region 1 with fail
  go_cut [5, 6] (fun s5_ s6_ wx => ∃ b5 b6 : Nat, s5_ = .pointer (some ⟨b5, 0, none⟩) ∧ s6_ = .pointer (some ⟨b6, 0, none⟩) ∧ BoxW wx b5 b1 ∧ BoxW wx b6 b3 ∧ Below W0.heap.size W0 wx ∧ W0.heap.size ≤ b5 ∧ W0.heap.size ≤ b6)
  case first =>
    have KEEP := hide (show ∀ X, Below W0.heap.size W0 X → X.cell? ⟨w.heap.size, 0, none⟩ = some (.slice A1 l1.length c1) ∧ X.cell? ⟨w.heap.size, 1, none⟩ = some (.bool m1) ∧ X.cell? ⟨w.heap.size, 2, none⟩ = some (.slice A2 l2.length c2) ∧ X.cell? ⟨w.heap.size, 3, none⟩ = some (.bool m2) ∧ X.cell? ⟨w.heap.size + 1, 0, none⟩ = some (.slice A3 l3.length c3) ∧ X.cell? ⟨w.heap.size + 1, 1, none⟩ = some (.bool m3) ∧ X.cell? ⟨w.heap.size + 1, 2, none⟩ = some (.slice A4 l4.length c4) ∧ X.cell? ⟨w.heap.size + 1, 3, none⟩ = some (.bool m4) from fun X hB => ⟨keep_cell hB q0 k0_0, keep_cell hB q0 k0_1, keep_cell hB q0 k0_2, keep_cell hB q0 k0_3, keep_cell hB q1 k1_0, keep_cell hB q1 k1_1, keep_cell hB q1 k1_2, keep_cell hB q1 k1_3⟩)
    go_region_held3 (fun w' => w'.cell? ⟨w.heap.size, 0, none⟩ = some (.slice A1 l1.length c1) ∧ w'.cell? ⟨w.heap.size, 1, none⟩ = some (.bool m1) ∧ w'.cell? ⟨w.heap.size, 2, none⟩ = some (.slice A2 l2.length c2) ∧ w'.cell? ⟨w.heap.size, 3, none⟩ = some (.bool m2) ∧ w'.cell? ⟨w.heap.size + 1, 0, none⟩ = some (.slice A3 l3.length c3) ∧ w'.cell? ⟨w.heap.size + 1, 1, none⟩ = some (.bool m3) ∧ w'.cell? ⟨w.heap.size + 1, 2, none⟩ = some (.slice A4 l4.length c4) ∧ w'.cell? ⟨w.heap.size + 1, 3, none⟩ = some (.bool m4)) (exact (unhide KEEP) _ (by (repeat (first | with_reducible exact Below.refl _ _ | with_reducible assumption | with_reducible refine Below.drew ?_ | with_reducible refine below_alloc ?_ _ | (with_reducible refine below_set ?_ ?_ _ _; rotate_left; (first | omega | (simp <;> omega))))))) (first | (go_at_call_of 95 (Value.agg #[.slice A1 l1.length c1, .bool m1, .slice A2 l2.length c2, .bool m2]); refine ((unhide HD1) _ (below_step' hw0 (by (repeat (first | with_reducible exact Below.refl _ _ | with_reducible assumption | with_reducible refine Below.drew ?_ | with_reducible refine below_alloc ?_ _))))).mono ?_; rintro e w' ⟨A5, c5, l5, m5, rfl, hf5, hb5⟩; have hbw := below_step (w := W0) (by (repeat (first | with_reducible exact Below.refl _ _ | with_reducible assumption | with_reducible refine Below.drew ?_ | with_reducible refine below_alloc ?_ _))) hb5; have hsw := hbw.size; obtain ⟨hc, hfz⟩ := bcell hbw; (try ((first | have u5a : FrW W0 w' _ := FrW.below (FrW.new (by (repeat (first | with_reducible exact Below.refl _ _ | with_reducible assumption | with_reducible refine Below.drew ?_ | with_reducible refine below_alloc ?_ _))) rfl) hb5 | have u5a : FrW W0 w' _ := FrW.below (FrW.drew (FrW.new (by (repeat (first | with_reducible exact Below.refl _ _ | with_reducible assumption | with_reducible refine Below.drew ?_ | with_reducible refine below_alloc ?_ _))) rfl)) hb5); (try simp only [World.size_alloc] at u5a); (try dsimp only [World.drew] at u5a); (try simp only [World.size_alloc] at u5a); obtain ⟨⟨u5a1, u5a2⟩, ⟨u5a3, u5a4⟩, ⟨u5a5, u5a6⟩, ⟨u5a7, u5a8⟩, u5a9, u5a10⟩ := FrW.facts u5a)); (try ((first | have u5b : FrW W0 w' _ := FrW.below (FrW.alloc (FrW.new (by (repeat (first | with_reducible exact Below.refl _ _ | with_reducible assumption | with_reducible refine Below.drew ?_ | with_reducible refine below_alloc ?_ _))) rfl)) hb5 | have u5b : FrW W0 w' _ := FrW.below (FrW.drew (FrW.alloc (FrW.new (by (repeat (first | with_reducible exact Below.refl _ _ | with_reducible assumption | with_reducible refine Below.drew ?_ | with_reducible refine below_alloc ?_ _))) rfl))) hb5); (try simp only [World.size_alloc] at u5b); (try dsimp only [World.drew] at u5b); (try simp only [World.size_alloc] at u5b); obtain ⟨⟨u5b1, u5b2⟩, ⟨u5b3, u5b4⟩, ⟨u5b5, u5b6⟩, ⟨u5b7, u5b8⟩, u5b9, u5b10⟩ := FrW.facts u5b))) | (go_at_call_of 95 (Value.agg #[.slice A3 l3.length c3, .bool m3, .slice A4 l4.length c4, .bool m4]); refine ((unhide HD3) _ (below_step' hw0 (by (repeat (first | with_reducible exact Below.refl _ _ | with_reducible assumption | with_reducible refine Below.drew ?_ | with_reducible refine below_alloc ?_ _))))).mono ?_; rintro e w' ⟨A6, c6, l6, m6, rfl, hf6, hb6⟩; have hf5 := WholeF.below (WholeF.below hf5 (by (repeat (first | with_reducible exact Below.refl _ _ | with_reducible assumption | with_reducible refine Below.drew ?_ | with_reducible refine below_alloc ?_ _)))) hb6; have hbw := below_step (w := W0) (by (repeat (first | with_reducible exact Below.refl _ _ | with_reducible assumption | with_reducible refine Below.drew ?_ | with_reducible refine below_alloc ?_ _))) hb6; have hsw := hbw.size; obtain ⟨hc, hfz⟩ := bcell hbw; (try ((first | have u6a : FrW W0 w' _ := FrW.below (FrW.new (by (repeat (first | with_reducible exact Below.refl _ _ | with_reducible assumption | with_reducible refine Below.drew ?_ | with_reducible refine below_alloc ?_ _))) rfl) hb6 | have u6a : FrW W0 w' _ := FrW.below (FrW.drew (FrW.new (by (repeat (first | with_reducible exact Below.refl _ _ | with_reducible assumption | with_reducible refine Below.drew ?_ | with_reducible refine below_alloc ?_ _))) rfl)) hb6); (try simp only [World.size_alloc] at u6a); (try dsimp only [World.drew] at u6a); (try simp only [World.size_alloc] at u6a); obtain ⟨⟨u6a1, u6a2⟩, ⟨u6a3, u6a4⟩, ⟨u6a5, u6a6⟩, ⟨u6a7, u6a8⟩, u6a9, u6a10⟩ := FrW.facts u6a)); (try ((first | have u6b : FrW W0 w' _ := FrW.below (FrW.alloc (FrW.new (by (repeat (first | with_reducible exact Below.refl _ _ | with_reducible assumption | with_reducible refine Below.drew ?_ | with_reducible refine below_alloc ?_ _))) rfl)) hb6 | have u6b : FrW W0 w' _ := FrW.below (FrW.drew (FrW.alloc (FrW.new (by (repeat (first | with_reducible exact Below.refl _ _ | with_reducible assumption | with_reducible refine Below.drew ?_ | with_reducible refine below_alloc ?_ _))) rfl))) hb6); (try simp only [World.size_alloc] at u6b); (try dsimp only [World.drew] at u6b); (try simp only [World.size_alloc] at u6b); obtain ⟨⟨u6b1, u6b2⟩, ⟨u6b3, u6b4⟩, ⟨u6b5, u6b6⟩, ⟨u6b7, u6b8⟩, u6b9, u6b10⟩ := FrW.facts u6b)); (try ((first | have u6c : FrW W0 w' _ := FrW.below u5a hb6 | have u6c : FrW W0 w' _ := FrW.below (FrW.alloc u5a) hb6 | have u6c : FrW W0 w' _ := FrW.below (FrW.alloc (FrW.alloc u5a)) hb6); (try simp only [World.size_alloc] at u6c); (try dsimp only [World.drew] at u6c); (try simp only [World.size_alloc] at u6c); obtain ⟨⟨u6c1, u6c2⟩, ⟨u6c3, u6c4⟩, ⟨u6c5, u6c6⟩, ⟨u6c7, u6c8⟩, u6c9, u6c10⟩ := FrW.facts u6c)); (try ((first | have u6d : FrW W0 w' _ := FrW.below u5b hb6 | have u6d : FrW W0 w' _ := FrW.below (FrW.alloc u5b) hb6 | have u6d : FrW W0 w' _ := FrW.below (FrW.alloc (FrW.alloc u5b)) hb6); (try simp only [World.size_alloc] at u6d); (try dsimp only [World.drew] at u6d); (try simp only [World.size_alloc] at u6d); obtain ⟨⟨u6d1, u6d2⟩, ⟨u6d3, u6d4⟩, ⟨u6d5, u6d6⟩, ⟨u6d7, u6d8⟩, u6d9, u6d10⟩ := FrW.facts u6d))))
    all_goals (go_wp2_with fail; go_meet; refine ⟨_, _, rfl, rfl, ?_⟩; first | with_reducible exact wput_two ⟨by assumption, by assumption, by first | assumption | omega⟩ hf5 hf6 hbw | with_reducible exact wput_two (FrW2.newR (by assumption) rfl) hf5.alloc hf6.alloc (below_alloc hbw _) | with_reducible exact wput_two (FrW2.newL (by assumption) rfl) hf5.alloc hf6.alloc (below_alloc hbw _) | with_reducible exact wput_nn hf5 hf6 hbw rfl rfl | with_reducible exact wput_mm hf5 hf6 hbw rfl rfl | with_reducible exact wput_ns (by assumption) hf5 hf6 hbw rfl)
  case rest =>
    revert hcut
    generalize wc = W1
    intro hcut
    obtain ⟨b5, b6, rfl, rfl, B5, B6, hbx, ob5, ob6⟩ := hcut
    obtain ⟨hc, hfz⟩ := bcell hbx
    replace k0_0 := (hc _ _ q0).trans k0_0
    replace k0_1 := (hc _ _ q0).trans k0_1
    replace k0_2 := (hc _ _ q0).trans k0_2
    replace k0_3 := (hc _ _ q0).trans k0_3
    replace q0 := Nat.lt_of_lt_of_le q0 hbx.size
    replace k1_0 := (hc _ _ q1).trans k1_0
    replace k1_1 := (hc _ _ q1).trans k1_1
    replace k1_2 := (hc _ _ q1).trans k1_2
    replace k1_3 := (hc _ _ q1).trans k1_3
    replace q1 := Nat.lt_of_lt_of_le q1 hbx.size
    replace ob5 : w.heap.size + 1 + 1 < b5 := Nat.lt_of_lt_of_le q2 ob5
    replace ob6 : w.heap.size + 1 + 1 < b6 := Nat.lt_of_lt_of_le q2 ob6
    replace k2_0 := (hc _ _ q2).trans k2_0
    replace f2_0 := (hfz _ _ q2).trans f2_0
    replace k2_1 := (hc _ _ q2).trans k2_1
    replace f2_1 := (hfz _ _ q2).trans f2_1
    replace k2_2 := (hc _ _ q2).trans k2_2
    replace f2_2 := (hfz _ _ q2).trans f2_2
    replace k2_3 := (hc _ _ q2).trans k2_3
    replace f2_3 := (hfz _ _ q2).trans f2_3
    replace NR := Lib.hid ((hbx.block _ q2).trans NR.out)
    replace q2 := Nat.lt_of_lt_of_le q2 hbx.size
    replace hw0 := below_step' hw0 hbx
    replace H1 := hide ((unhide H1).below hbx)
    replace H3 := hide ((unhide H3).below hbx)
    obtain ⟨A5, c5, l5, m5, n5, H5⟩ := B5
    have kb5_0 : W1.cell? ⟨b5, 0, none⟩ = some (.slice A5 l5.length c5) := cells_of n5 0
    have kb5_1 : W1.cell? ⟨b5, 1, none⟩ = some (.bool m5) := cells_of n5 1
    have qb5 := lt_of_block n5
    replace H5 := hide H5
    clear n5
    obtain ⟨A6, c6, l6, m6, n6, H6⟩ := B6
    have kb6_0 : W1.cell? ⟨b6, 0, none⟩ = some (.slice A6 l6.length c6) := cells_of n6 0
    have kb6_1 : W1.cell? ⟨b6, 1, none⟩ = some (.bool m6) := cells_of n6 1
    have qb6 := lt_of_block n6
    replace H6 := hide H6
    clear n6
    clear hbx hc hfz
    go_wp2_with fail
    refine ((unhide HO1) A5 c5 l5 m5 _ hw0 (unhide H5)).mono ?_
    rintro e W2 ⟨rfl, hbx⟩
    obtain ⟨hc, hfz⟩ := bcell hbx
    replace k0_0 := (hc _ _ q0).trans k0_0
    replace k0_1 := (hc _ _ q0).trans k0_1
    replace k0_2 := (hc _ _ q0).trans k0_2
    replace k0_3 := (hc _ _ q0).trans k0_3
    replace q0 := Nat.lt_of_lt_of_le q0 hbx.size
    replace k1_0 := (hc _ _ q1).trans k1_0
    replace k1_1 := (hc _ _ q1).trans k1_1
    replace k1_2 := (hc _ _ q1).trans k1_2
    replace k1_3 := (hc _ _ q1).trans k1_3
    replace q1 := Nat.lt_of_lt_of_le q1 hbx.size
    replace kb5_0 := (hc _ _ qb5).trans kb5_0
    replace kb5_1 := (hc _ _ qb5).trans kb5_1
    replace qb5 := Nat.lt_of_lt_of_le qb5 hbx.size
    replace kb6_0 := (hc _ _ qb6).trans kb6_0
    replace kb6_1 := (hc _ _ qb6).trans kb6_1
    replace qb6 := Nat.lt_of_lt_of_le qb6 hbx.size
    replace k2_0 := (hc _ _ q2).trans k2_0
    replace f2_0 := (hfz _ _ q2).trans f2_0
    replace k2_1 := (hc _ _ q2).trans k2_1
    replace f2_1 := (hfz _ _ q2).trans f2_1
    replace k2_2 := (hc _ _ q2).trans k2_2
    replace f2_2 := (hfz _ _ q2).trans f2_2
    replace k2_3 := (hc _ _ q2).trans k2_3
    replace f2_3 := (hfz _ _ q2).trans f2_3
    replace NR := Lib.hid ((hbx.block _ q2).trans NR.out)
    replace q2 := Nat.lt_of_lt_of_le q2 hbx.size
    replace hw0 := below_step' hw0 hbx
    replace H1 := hide ((unhide H1).below hbx)
    replace H3 := hide ((unhide H3).below hbx)
    replace H5 := hide ((unhide H5).below hbx)
    replace H6 := hide ((unhide H6).below hbx)
    clear hbx hc hfz
    go_wp2_with fail
    refine ((unhide HO3) A6 c6 l6 m6 _ hw0 (unhide H6)).mono ?_
    rintro e W3 ⟨rfl, hbx⟩
    obtain ⟨hc, hfz⟩ := bcell hbx
    replace k0_0 := (hc _ _ q0).trans k0_0
    replace k0_1 := (hc _ _ q0).trans k0_1
    replace k0_2 := (hc _ _ q0).trans k0_2
    replace k0_3 := (hc _ _ q0).trans k0_3
    replace q0 := Nat.lt_of_lt_of_le q0 hbx.size
    replace k1_0 := (hc _ _ q1).trans k1_0
    replace k1_1 := (hc _ _ q1).trans k1_1
    replace k1_2 := (hc _ _ q1).trans k1_2
    replace k1_3 := (hc _ _ q1).trans k1_3
    replace q1 := Nat.lt_of_lt_of_le q1 hbx.size
    replace kb5_0 := (hc _ _ qb5).trans kb5_0
    replace kb5_1 := (hc _ _ qb5).trans kb5_1
    replace qb5 := Nat.lt_of_lt_of_le qb5 hbx.size
    replace kb6_0 := (hc _ _ qb6).trans kb6_0
    replace kb6_1 := (hc _ _ qb6).trans kb6_1
    replace qb6 := Nat.lt_of_lt_of_le qb6 hbx.size
    replace k2_0 := (hc _ _ q2).trans k2_0
    replace f2_0 := (hfz _ _ q2).trans f2_0
    replace k2_1 := (hc _ _ q2).trans k2_1
    replace f2_1 := (hfz _ _ q2).trans f2_1
    replace k2_2 := (hc _ _ q2).trans k2_2
    replace f2_2 := (hfz _ _ q2).trans f2_2
    replace k2_3 := (hc _ _ q2).trans k2_3
    replace f2_3 := (hfz _ _ q2).trans f2_3
    replace NR := Lib.hid ((hbx.block _ q2).trans NR.out)
    replace q2 := Nat.lt_of_lt_of_le q2 hbx.size
    replace hw0 := below_step' hw0 hbx
    replace H1 := hide ((unhide H1).below hbx)
    replace H3 := hide ((unhide H3).below hbx)
    replace H5 := hide ((unhide H5).below hbx)
    replace H6 := hide ((unhide H6).below hbx)
    clear hbx hc hfz
    go_upto_region 4 with fail
    have KEEP := hide (show ∀ X, Below W3.heap.size W3 X → X.cell? ⟨w.heap.size, 0, none⟩ = some (.slice A1 l1.length c1) ∧ X.cell? ⟨w.heap.size, 1, none⟩ = some (.bool m1) ∧ X.cell? ⟨w.heap.size, 2, none⟩ = some (.slice A2 l2.length c2) ∧ X.cell? ⟨w.heap.size, 3, none⟩ = some (.bool m2) ∧ X.cell? ⟨w.heap.size + 1, 0, none⟩ = some (.slice A3 l3.length c3) ∧ X.cell? ⟨w.heap.size + 1, 1, none⟩ = some (.bool m3) ∧ X.cell? ⟨w.heap.size + 1, 2, none⟩ = some (.slice A4 l4.length c4) ∧ X.cell? ⟨w.heap.size + 1, 3, none⟩ = some (.bool m4) ∧ X.cell? ⟨b5, 0, none⟩ = some (.slice A5 l5.length c5) ∧ X.cell? ⟨b5, 1, none⟩ = some (.bool m5) ∧ X.cell? ⟨b6, 0, none⟩ = some (.slice A6 l6.length c6) ∧ X.cell? ⟨b6, 1, none⟩ = some (.bool m6) from fun X hB => ⟨keep_cell hB q0 k0_0, keep_cell hB q0 k0_1, keep_cell hB q0 k0_2, keep_cell hB q0 k0_3, keep_cell hB q1 k1_0, keep_cell hB q1 k1_1, keep_cell hB q1 k1_2, keep_cell hB q1 k1_3, keep_cell hB qb5 kb5_0, keep_cell hB qb5 kb5_1, keep_cell hB qb6 kb6_0, keep_cell hB qb6 kb6_1⟩)
    go_region_held3 (fun w' => w'.cell? ⟨w.heap.size, 0, none⟩ = some (.slice A1 l1.length c1) ∧ w'.cell? ⟨w.heap.size, 1, none⟩ = some (.bool m1) ∧ w'.cell? ⟨w.heap.size, 2, none⟩ = some (.slice A2 l2.length c2) ∧ w'.cell? ⟨w.heap.size, 3, none⟩ = some (.bool m2) ∧ w'.cell? ⟨w.heap.size + 1, 0, none⟩ = some (.slice A3 l3.length c3) ∧ w'.cell? ⟨w.heap.size + 1, 1, none⟩ = some (.bool m3) ∧ w'.cell? ⟨w.heap.size + 1, 2, none⟩ = some (.slice A4 l4.length c4) ∧ w'.cell? ⟨w.heap.size + 1, 3, none⟩ = some (.bool m4) ∧ w'.cell? ⟨b5, 0, none⟩ = some (.slice A5 l5.length c5) ∧ w'.cell? ⟨b5, 1, none⟩ = some (.bool m5) ∧ w'.cell? ⟨b6, 0, none⟩ = some (.slice A6 l6.length c6) ∧ w'.cell? ⟨b6, 1, none⟩ = some (.bool m6)) (first | with_reducible exact ⟨(cell_set4 _ _ _ _ _ _ (by omega)).trans (keep_cell hbw q0 k0_0), (cell_set4 _ _ _ _ _ _ (by omega)).trans (keep_cell hbw q0 k0_1), (cell_set4 _ _ _ _ _ _ (by omega)).trans (keep_cell hbw q0 k0_2), (cell_set4 _ _ _ _ _ _ (by omega)).trans (keep_cell hbw q0 k0_3), (cell_set4 _ _ _ _ _ _ (by omega)).trans (keep_cell hbw q1 k1_0), (cell_set4 _ _ _ _ _ _ (by omega)).trans (keep_cell hbw q1 k1_1), (cell_set4 _ _ _ _ _ _ (by omega)).trans (keep_cell hbw q1 k1_2), (cell_set4 _ _ _ _ _ _ (by omega)).trans (keep_cell hbw q1 k1_3), (cell_set4 _ _ _ _ _ _ (by omega)).trans (keep_cell hbw qb5 kb5_0), (cell_set4 _ _ _ _ _ _ (by omega)).trans (keep_cell hbw qb5 kb5_1), (cell_set4 _ _ _ _ _ _ (by omega)).trans (keep_cell hbw qb6 kb6_0), (cell_set4 _ _ _ _ _ _ (by omega)).trans (keep_cell hbw qb6 kb6_1)⟩ | with_reducible exact (unhide KEEP) _ (by (repeat (first | with_reducible exact Below.refl _ _ | with_reducible assumption | with_reducible refine Below.drew ?_ | with_reducible refine below_alloc ?_ _)))) (first | (go_at_call_of 98 (Value.agg #[.slice A1 l1.length c1, .bool m1]); refine ((unhide HM1) A1 c1 l1 m1 A6 c6 l6 m6 _ (below_step' hw0 (by (repeat (first | with_reducible exact Below.refl _ _ | with_reducible assumption | with_reducible refine Below.drew ?_ | with_reducible refine below_alloc ?_ _)))) (WholeF.below (unhide H1) (by (repeat (first | with_reducible exact Below.refl _ _ | with_reducible assumption | with_reducible refine Below.drew ?_ | with_reducible refine below_alloc ?_ _)))) (WholeF.below (unhide H6) (by (repeat (first | with_reducible exact Below.refl _ _ | with_reducible assumption | with_reducible refine Below.drew ?_ | with_reducible refine below_alloc ?_ _))))).mono ?_; rintro e w' ⟨A8, c8, l8, m8, rfl, hf8, hb8⟩; have hbw := below_step (w := W3) (by (repeat (first | with_reducible exact Below.refl _ _ | with_reducible assumption | with_reducible refine Below.drew ?_ | with_reducible refine below_alloc ?_ _))) hb8; have hsw := hbw.size; obtain ⟨hc, hfz⟩ := bcell hbw) | (go_at_call_of 98 (Value.agg #[.slice A3 l3.length c3, .bool m3]); refine ((unhide HM3) A3 c3 l3 m3 A5 c5 l5 m5 _ (below_step' hw0 (by (repeat (first | with_reducible exact Below.refl _ _ | with_reducible assumption | with_reducible refine Below.drew ?_ | with_reducible refine below_alloc ?_ _)))) (WholeF.below (unhide H3) (by (repeat (first | with_reducible exact Below.refl _ _ | with_reducible assumption | with_reducible refine Below.drew ?_ | with_reducible refine below_alloc ?_ _)))) (WholeF.below (unhide H5) (by (repeat (first | with_reducible exact Below.refl _ _ | with_reducible assumption | with_reducible refine Below.drew ?_ | with_reducible refine below_alloc ?_ _))))).mono ?_; rintro e w' ⟨A9, c9, l9, m9, rfl, hf9, hb9⟩; have hf8 := WholeF.below (WholeF.below hf8 (by (repeat (first | with_reducible exact Below.refl _ _ | with_reducible assumption | with_reducible refine Below.drew ?_ | with_reducible refine below_alloc ?_ _)))) hb9; have hbw := below_step (w := W3) (by (repeat (first | with_reducible exact Below.refl _ _ | with_reducible assumption | with_reducible refine Below.drew ?_ | with_reducible refine below_alloc ?_ _))) hb9; have hsw := hbw.size; obtain ⟨hc, hfz⟩ := bcell hbw) | (go_at_call_of 97 (Value.agg #[.slice A8 l8.length c8, .bool m8]); refine ((unhide HN) A8 c8 l8 m8 A9 c9 l9 m9 _ (below_step' hw0 (by (repeat (first | with_reducible exact Below.refl _ _ | with_reducible assumption | with_reducible refine Below.drew ?_ | with_reducible refine below_alloc ?_ _)))) (WholeF.below hf8 (by (repeat (first | with_reducible exact Below.refl _ _ | with_reducible assumption | with_reducible refine Below.drew ?_ | with_reducible refine below_alloc ?_ _)))) (WholeF.below hf9 (by (repeat (first | with_reducible exact Below.refl _ _ | with_reducible assumption | with_reducible refine Below.drew ?_ | with_reducible refine below_alloc ?_ _))))).mono ?_; rintro e w' ⟨A10, c10, l10, m10, rfl, hf10, hb10⟩; have hf8 := WholeF.below (WholeF.below hf8 (by (repeat (first | with_reducible exact Below.refl _ _ | with_reducible assumption | with_reducible refine Below.drew ?_ | with_reducible refine below_alloc ?_ _)))) hb10; have hf9 := WholeF.below (WholeF.below hf9 (by (repeat (first | with_reducible exact Below.refl _ _ | with_reducible assumption | with_reducible refine Below.drew ?_ | with_reducible refine below_alloc ?_ _)))) hb10; have hbw := below_step (w := W3) (by (repeat (first | with_reducible exact Below.refl _ _ | with_reducible assumption | with_reducible refine Below.drew ?_ | with_reducible refine below_alloc ?_ _))) hb10; have hsw := hbw.size; obtain ⟨hc, hfz⟩ := bcell hbw) | (go_at_call_of 98 (Value.agg #[.slice A5 l5.length c5, .bool m5]); refine ((unhide HM) A5 c5 l5 m5 A6 c6 l6 m6 _ (below_step' hw0 (by (repeat (first | with_reducible exact Below.refl _ _ | with_reducible assumption | with_reducible refine Below.drew ?_ | with_reducible refine below_alloc ?_ _)))) (WholeF.below (unhide H5) (by (repeat (first | with_reducible exact Below.refl _ _ | with_reducible assumption | with_reducible refine Below.drew ?_ | with_reducible refine below_alloc ?_ _)))) (WholeF.below (unhide H6) (by (repeat (first | with_reducible exact Below.refl _ _ | with_reducible assumption | with_reducible refine Below.drew ?_ | with_reducible refine below_alloc ?_ _))))).mono ?_; rintro e w' ⟨A11, c11, l11, m11, rfl, hf11, hb11⟩; have hf8 := WholeF.below (WholeF.below hf8 (by (repeat (first | with_reducible exact Below.refl _ _ | with_reducible assumption | with_reducible refine Below.drew ?_ | with_reducible refine below_alloc ?_ _)))) hb11; have hf9 := WholeF.below (WholeF.below hf9 (by (repeat (first | with_reducible exact Below.refl _ _ | with_reducible assumption | with_reducible refine Below.drew ?_ | with_reducible refine below_alloc ?_ _)))) hb11; have hf10 := WholeF.below (WholeF.below hf10 (by (repeat (first | with_reducible exact Below.refl _ _ | with_reducible assumption | with_reducible refine Below.drew ?_ | with_reducible refine below_alloc ?_ _)))) hb11; have hbw := below_step (w := W3) (by (repeat (first | with_reducible exact Below.refl _ _ | with_reducible assumption | with_reducible refine Below.drew ?_ | with_reducible refine below_alloc ?_ _))) hb11; have hsw := hbw.size; obtain ⟨hc, hfz⟩ := bcell hbw) | (go_at_call_of 92 (Value.agg #[.slice A10 l10.length c10, .bool m10]); refine ((unhide HR) A10 c10 l10 m10 A11 c11 l11 m11 _ (below_step' hw0 (by (repeat (first | with_reducible exact Below.refl _ _ | with_reducible assumption | with_reducible refine Below.drew ?_ | with_reducible refine below_alloc ?_ _)))) (WholeF.below hf10 (by (repeat (first | with_reducible exact Below.refl _ _ | with_reducible assumption | with_reducible refine Below.drew ?_ | with_reducible refine below_alloc ?_ _)))) (WholeF.below hf11 (by (repeat (first | with_reducible exact Below.refl _ _ | with_reducible assumption | with_reducible refine Below.drew ?_ | with_reducible refine below_alloc ?_ _))))).mono ?_; rintro e w' ⟨A12, c12, l12, m12, A13, c13, l13, m13, rfl, hf12, hf13, hb12⟩; have hf8 := WholeF.below (WholeF.below hf8 (by (repeat (first | with_reducible exact Below.refl _ _ | with_reducible assumption | with_reducible refine Below.drew ?_ | with_reducible refine below_alloc ?_ _)))) hb12; have hf9 := WholeF.below (WholeF.below hf9 (by (repeat (first | with_reducible exact Below.refl _ _ | with_reducible assumption | with_reducible refine Below.drew ?_ | with_reducible refine below_alloc ?_ _)))) hb12; have hf10 := WholeF.below (WholeF.below hf10 (by (repeat (first | with_reducible exact Below.refl _ _ | with_reducible assumption | with_reducible refine Below.drew ?_ | with_reducible refine below_alloc ?_ _)))) hb12; have hf11 := WholeF.below (WholeF.below hf11 (by (repeat (first | with_reducible exact Below.refl _ _ | with_reducible assumption | with_reducible refine Below.drew ?_ | with_reducible refine below_alloc ?_ _)))) hb12; have hbw := below_step (w := W3) (by (repeat (first | with_reducible exact Below.refl _ _ | with_reducible assumption | with_reducible refine Below.drew ?_ | with_reducible refine below_alloc ?_ _))) hb12; have hsw := hbw.size; obtain ⟨hc, hfz⟩ := bcell hbw))
    all_goals
      have hblk : w'.heap[w.heap.size + 1 + 1]? = some (.cells #[.slice none 0 0, .bool false, .slice none 0 0, .bool false] 52 (0, 0)) := (hbw.block _ q2).trans NR.out
      have HBLK := Lib.hid hblk
      have hb9 : Below w.heap.size w w' := below_step' hw0 hbw
      have hfi := (hf12)
      have hfj := (hf13)
      clear hblk
      go_wp2_with fail
      exact bodyPost_ret (v := (Value.agg #[.slice A12 l12.length c12, .bool m12, .slice A13 l13.length c13, .bool m13])) (by simp [results, Tryz.results43, go_sem, hc, k2_0, k2_1, k2_2, k2_3, q2]) rfl
        ⟨A12, c12, l12, m12, A13, c13, l13, m13, rfl, hfi.upto HBLK.out (noW2_4 _ _ _ _ _ _ _ _) (set4_grown _ _ _ _ _ _), hfj.upto HBLK.out (noW2_4 _ _ _ _ _ _ _ _) (set4_grown _ _ _ _ _ _), hb9.grown (set4_grown _ _ _ _ _ _) hb9.size (fun k hk => by injection hk with hk; omega)⟩

end Go.Proofs.YtmahhmdodfimbaaGreatDoor
/- The walk through the product of two integers as numbers of the reference. -/
namespace Go.Proofs.YtmahhmdodfimbaaGreatDoor
open Go.RowKit

end Go.Proofs.YtmahhmdodfimbaaGreatDoor
/- The walk through the product of two numbers of the reference: the first is no integer. -/
namespace Go.Proofs.YtmahhmdodfimbaaGreatDoor
open Go.RowKit

end Go.Proofs.YtmahhmdodfimbaaGreatDoor
/- The walk through the product of two numbers of the reference: the second is no integer. -/
namespace Go.Proofs.YtmahhmdodfimbaaGreatDoor
open Go.RowKit

end Go.Proofs.YtmahhmdodfimbaaGreatDoor
