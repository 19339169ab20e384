/- Part 9 of the texts beneath a law of layer 1: Cf, Join, Med, RatFl, NbK, JnW, SpA, SbS. -/
import Derived.Test.YtfbcdfoohpkfeaaDoorCs8
import Derived.BigQuiet
/- Continued fractions, on ints. -/
namespace Go.Proofs.YtfbcdfoohpkfeaaDoor
namespace Wd

/-- The continued fraction of n/d. -/
def cf : Nat → Int → Int → List Int
  | 0, _, _ => []
  | f + 1, n, d => if d = 0 then [] else n / d :: cf f d (n % d)
theorem cf_len : ∀ (f : Nat) (n d : Int), (cf f n d).length ≤ f
  | 0, _, _ => Nat.le_refl _
  | f + 1, n, d => by
    unfold cf
    split
    · exact Nat.zero_le _
    · have := cf_len f d (n % d)
      rw [List.length_cons]; omega
theorem cf_zero (f : Nat) (n : Int) : cf f n 0 = [] := by
  cases f with
  | zero => rfl
  | succ f => simp [cf]
/-- Ahead of a round: what has been told and what is left. -/
structure CfInv (L l : List Int) (n d : Int) : Prop where
  ok : ∃ f : Nat, d < f ∧ l ++ cf f n d = L ∧ L.length ≤ l.length + f
  d0 : 0 ≤ d
  nb : -1000000000000 ≤ n ∧ n ≤ 1000000000000
  db : d ≤ 1000000000000
theorem CfInv.start {n d : Int} (h : okR n d) : CfInv (cf (d.toNat + 1) n d) [] n d := by
  obtain ⟨h1, h2, h3, h4, _⟩ := h
  exact ⟨⟨d.toNat + 1, by omega, rfl, by have := cf_len (d.toNat + 1) n d; simpa using this⟩, by omega, ⟨by omega, by omega⟩, by omega⟩
theorem CfInv.step {L l : List Int} {n d : Int} (h : CfInv L l n d) (hd : 0 < d) : CfInv L (l ++ [n / d]) d (n % d) ∧ n - n / d * d = n % d ∧ -1000000000000 ≤ n / d ∧ n / d ≤ 1000000000000 ∧ -2000000000000 ≤ n / d * d ∧ n / d * d ≤ 2000000000000 := by
  obtain ⟨⟨f, h1, h2, h3⟩, h4, h5, h6⟩ := h
  have e1 := Int.emod_nonneg n (show d ≠ 0 by omega)
  have e2 := Int.emod_lt_of_pos n hd
  have e3 := Int.mul_ediv_add_emod n d
  rw [Int.mul_comm] at e3
  have lo : -1000000000000 ≤ n / d := by
    rw [Int.le_ediv_iff_mul_le hd]
    omega
  have hi : n / d ≤ 1000000000000 := by
    rcases Int.lt_or_le n 0 with hn | hn
    · have : n / d < 0 := Int.ediv_neg_of_neg_of_pos hn hd
      omega
    · have := Int.ediv_le_self d hn
      omega
  have e4 : n - n / d * d = n % d ∧ -2000000000000 ≤ n / d * d ∧ n / d * d ≤ 2000000000000 := by
    generalize n / d * d = t at *
    generalize n % d = r at *
    exact ⟨by omega, by omega, by omega⟩
  refine ⟨⟨?_, e1, by omega, by omega⟩, e4.1, lo, hi, e4.2.1, e4.2.2⟩
  cases f with
  | zero => omega
  | succ f =>
    refine ⟨f, by omega, ?_, by simp; omega⟩
    rw [← h2]
    simp only [cf, if_neg (show ¬ d = 0 by omega), List.append_assoc, List.cons_append, List.nil_append]
theorem CfInv.done {L l : List Int} {n : Int} (h : CfInv L l n 0) : l = L := by
  obtain ⟨⟨f, h1, h2, h3⟩, _, _, _⟩ := h
  rw [cf_zero, List.append_nil] at h2
  exact h2
theorem CfInv.len {L l : List Int} {n d : Int} (h : CfInv L l n d) (hL : L.length ≤ 1000000000001) : l.length ≤ 1000000000001 := by
  obtain ⟨⟨f, h1, h2, h3⟩, _, _, _⟩ := h
  rw [← h2, List.length_append] at hL
  omega
end Wd
end Go.Proofs.YtfbcdfoohpkfeaaDoor
/- The number of a continued fraction. -/
namespace Go.Proofs.YtfbcdfoohpkfeaaDoor
namespace Wd

theorem one_parts (a : Int) : (Rat.divInt a 1).num = a ∧ ((Rat.divInt a 1).den : Int) = 1 := by
  have h : Rat.divInt a 1 = (a : Rat) := by
    rw [← Rat.num_divInt_den (a : Rat)]; rfl
  rw [h]
  exact ⟨rfl, rfl⟩
/-- Which lists are continued fractions. -/
def JoinOk (l : List Int) : Prop := 0 < l.length ∧ (∀ i, i < l.length → 1 ≤ i → 1 ≤ l.getD i 0) ∧ (l.length = 1 ∨ l.getD (l.length - 1) 0 ≠ 1)
instance (l : List Int) : Decidable (JoinOk l) := by unfold JoinOk; infer_instance
end Wd
end Go.Proofs.YtfbcdfoohpkfeaaDoor
/- A sum of numerators and denominators. -/
namespace Go.Proofs.YtfbcdfoohpkfeaaDoor
open Go.RowKit

end Go.Proofs.YtfbcdfoohpkfeaaDoor
/- The integer below a number. -/
namespace Go.Proofs.YtfbcdfoohpkfeaaDoor
open Go.RowKit

end Go.Proofs.YtfbcdfoohpkfeaaDoor
/- The neighbours of 22/7. -/
namespace Go.Proofs.YtfbcdfoohpkfeaaDoor
open Go.RowKit

theorem set2_block {W : World} {b : Nat} {a0 a1 u0 u1 : Value} {T : TypeId} (h : W.heap[b]? = some (.cells #[a0, a1] T (0, 0))) : ((W.setCell ⟨b, 0, none⟩ u0).setCell ⟨b, 1, none⟩ u1).heap[b]? = some (.cells #[u0, u1] T (0, 0)) := by
  simp [World.setCell, Array.getElem?_modify, h]
/-- What lies in the memory of the search at its rounds' heads. -/
structure NbW (w wr : World) (b0 b1 l0 l1 : Int) : Prop where
  below : Below w.heap.size w wr
  x : wr.heap[w.heap.size]? = some (.cells #[.int .i64 22, .int .i64 7] 23 (0, 0))
  lo : wr.heap[w.heap.size + 1]? = some (.cells #[.int .i64 0, .int .i64 0] 23 (0, 0))
  hi : wr.heap[w.heap.size + 2]? = some (.cells #[.int .i64 0, .int .i64 0] 23 (0, 0))
  bef : wr.heap[w.heap.size + 3]? = some (.cells #[.int .i64 b0, .int .i64 b1] 23 (0, 0))
  last : wr.heap[w.heap.size + 4]? = some (.cells #[.int .i64 l0, .int .i64 l1] 23 (0, 0))
theorem NbW.step {w wr w' : World} {b0 b1 l0 l1 : Int} (h : NbW w wr b0 b1 l0 l1) (hb : Below wr.heap.size wr w') : NbW w w' b0 b1 l0 l1 :=
  ⟨below_step' h.below hb, (hb.block _ (lt_of_block h.x)).trans h.x, (hb.block _ (lt_of_block h.lo)).trans h.lo, (hb.block _ (lt_of_block h.hi)).trans h.hi, (hb.block _ (lt_of_block h.bef)).trans h.bef, (hb.block _ (lt_of_block h.last)).trans h.last⟩
theorem NbW.set {w wr : World} {b0 b1 l0 l1 : Int} (h : NbW w wr b0 b1 l0 l1) (u0 u1 v0 v1 : Int) :
    NbW w ((((wr.setCell ⟨w.heap.size + 3, 0, none⟩ (.int .i64 u0)).setCell ⟨w.heap.size + 3, 1, none⟩ (.int .i64 u1)).setCell ⟨w.heap.size + 4, 0, none⟩ (.int .i64 v0)).setCell ⟨w.heap.size + 4, 1, none⟩ (.int .i64 v1)) u0 u1 v0 v1 := by
  have g1 := set2_grown wr (w.heap.size + 3) (.int .i64 u0) (.int .i64 u1)
  have g2 := set2_grown ((wr.setCell ⟨w.heap.size + 3, 0, none⟩ (.int .i64 u0)).setCell ⟨w.heap.size + 3, 1, none⟩ (.int .i64 u1)) (w.heap.size + 4) (.int .i64 v0) (.int .i64 v1)
  have s1 := g1.size
  have old : ∀ k, k < w.heap.size + 3 → ((((wr.setCell ⟨w.heap.size + 3, 0, none⟩ (.int .i64 u0)).setCell ⟨w.heap.size + 3, 1, none⟩ (.int .i64 u1)).setCell ⟨w.heap.size + 4, 0, none⟩ (.int .i64 v0)).setCell ⟨w.heap.size + 4, 1, none⟩ (.int .i64 v1)).heap[k]? = wr.heap[k]? := fun k hk => by
    have hl := lt_of_block h.last
    exact (g2.block k (by omega) (fun e => by injection e with e; omega)).trans (g1.block k (by omega) (fun e => by injection e with e; omega))
  have hl := lt_of_block h.last
  have e1 := set2_block (u0 := .int .i64 u0) (u1 := .int .i64 u1) h.bef
  refine ⟨(h.below.grown g1 h.below.size (fun k hk => by injection hk with hk; omega)).grown g2 (by have := h.below.size; omega) (fun k hk => by injection hk with hk; omega), (old _ (by omega)).trans h.x, (old _ (by omega)).trans h.lo, (old _ (by omega)).trans h.hi, ?_, ?_⟩
  · exact (g2.block _ (lt_of_block e1) (fun e => by injection e with e; omega)).trans e1
  · exact set2_block ((g1.block _ hl (fun e => by injection e with e; omega)).trans h.last)
end Go.Proofs.YtfbcdfoohpkfeaaDoor
/- The program: quotients in memory, an int as a quotient. -/
namespace Go.Proofs.YtfbcdfoohpkfeaaDoor
open Go.RowKit

/-- A quotient of the program in memory. -/
structure IQ (w : World) (s1a : Int) (neg1a : Bool) (A1a : Option Addr) (c1a : Nat) (l1a : List Nat) (s1b : Int) (neg1b : Bool) (A1b : Option Addr) (c1b : Nat) (l1b : List Nat) (q : Rat) : Prop where
  n : IntF w s1a neg1a A1a c1a l1a q.num
  d : IntF w s1b neg1b A1b c1b l1b (q.den : Int)
theorem IQ.below {w w' : World} {s1a : Int} {neg1a : Bool} {A1a : Option Addr} {c1a : Nat} {l1a : List Nat} {s1b : Int} {neg1b : Bool} {A1b : Option Addr} {c1b : Nat} {l1b : List Nat} {q : Rat} (h : IQ w s1a neg1a A1a c1a l1a s1b neg1b A1b c1b l1b q) (hb : Below w.heap.size w w') : IQ w' s1a neg1a A1a c1a l1a s1b neg1b A1b c1b l1b q := ⟨h.n.below hb, h.d.below hb⟩
set_option maxRecDepth 100000 in
set_option maxHeartbeats 16000000 in
theorem rwhole_any (n : Int) (w : World) (b1 : -9223372036854775808 ≤ n) (b2 : n ≤ 9223372036854775807) :
    Calls Tryd.prog 71 #[.int .i64 n] w fun e w' => PairR w (Rat.divInt n 1).num ((Rat.divInt n 1).den : Int) e w' := by
  have hN := hide (fun W => newInt_any n b1 b2 W)
  have hO := hide (fun W => newInt_any 1 (by omega) (by omega) W)
  rw [(Wd.one_parts n).1, (Wd.one_parts n).2]
  clear b1 b2
  go_enter Tryd.func71, Tryd.ntmps71
  go_wp2_with fail
  obtain ⟨n0, hsz, hw0⟩ := one_new w (.cells #[.int .i64 0, .bool false, .slice none 0 0, .int .i64 0, .bool false, .slice none 0 0] 48)
  generalize w.alloc (.cells #[.int .i64 0, .bool false, .slice none 0 0, .int .i64 0, .bool false, .slice none 0 0] 48) = W0 at *
  have r0 : W0.cell? ⟨w.heap.size, 0, none⟩ = some (.int .i64 0) := cells_of n0 0
  have f0 := unfrozen_of n0 0
  have r1 : W0.cell? ⟨w.heap.size, 1, none⟩ = some (.bool false) := cells_of n0 1
  have f1 := unfrozen_of n0 1
  have r2 : W0.cell? ⟨w.heap.size, 2, none⟩ = some (.slice none 0 0) := cells_of n0 2
  have f2 := unfrozen_of n0 2
  have r3 : W0.cell? ⟨w.heap.size, 3, none⟩ = some (.int .i64 0) := cells_of n0 3
  have f3 := unfrozen_of n0 3
  have r4 : W0.cell? ⟨w.heap.size, 4, none⟩ = some (.bool false) := cells_of n0 4
  have f4 := unfrozen_of n0 4
  have r5 : W0.cell? ⟨w.heap.size, 5, none⟩ = some (.slice none 0 0) := cells_of n0 5
  have f5 := unfrozen_of n0 5
  have q0 := lt_of_block n0
  have NR := Lib.hid n0
  clear n0 hsz
  refine ((unhide hN) _).mono ?_
  rintro e W1 ⟨s1a, neg1a, A1a, c1a, l1a, rfl, g1, hb⟩
  have G1 := hide g1; have HB := hide hb
  clear g1 hb
  go_wp2_with fail
  refine ((unhide hO) _).mono ?_
  rintro e w' ⟨s1b, neg1b, A1b, c1b, l1b, rfl, g2, hb2⟩
  have G1' := hide ((unhide G1).below hb2)
  have hb := below_step' (unhide HB) hb2
  obtain ⟨hc, hfz⟩ := bcell hb
  have hblk := (hb.block _ q0).trans NR.out
  have HBLK := Lib.hid hblk
  have hb9 := below_step' hw0 hb
  have HB9 := hide hb9
  have G2 := hide g2
  clear g2 hb hb2 hb9 hblk
  go_wp2_with fail
  exact bodyPost_ret (v := (Value.agg #[.int .i64 s1a, .bool neg1a, .slice A1a l1a.length c1a, .int .i64 s1b, .bool neg1b, .slice A1b l1b.length c1b])) (by simp [results, Tryd.results71, go_sem, hc, r0, r1, r2, r3, r4, r5, q0]) rfl
    ⟨s1a, neg1a, A1a, c1a, l1a, s1b, neg1b, A1b, c1b, l1b, rfl, (unhide G1').upto HBLK.out (noWord6 _ _ _ _ _ _ _ _ _ _) (set6_grown _ _ _ _ _ _ _ _), (unhide G2).upto HBLK.out (noWord6 _ _ _ _ _ _ _ _ _ _) (set6_grown _ _ _ _ _ _ _ _), (unhide HB9).grown (set6_grown _ _ _ _ _ _ _ _) (unhide HB9).size (fun k hk => by injection hk with hk; omega)⟩

end Go.Proofs.YtfbcdfoohpkfeaaDoor
/- Whole numbers rounded down; the ends of a span, its middle, and what is told of it. -/
namespace Go.Proofs.YtfbcdfoohpkfeaaDoor
open Go.RowKit

namespace Sb
section
variable {W : World} {v0 v1 : Value} {K : Nat}
theorem c_iquo {a b : Int} (ha : Wd.Sz B64 K a) (hb : Wd.Sz B64 K b) (hK : K ≤ 1000000) (h : b ≠ 0) (h0 : AggT [.z a] W v0) (h1 : AggT [.z b] W v1) : Calls Tryd.prog 52 #[v0, v1] W (RetT (AggT [.z (a.tdiv b)]) W) :=
  c_iop2 (op_quo ha hb (by have := lim_big; omega) h rfl) h0 h1
theorem c_imul {a b : Int} (ha : Wd.Sz B64 K a) (hb : Wd.Sz B64 K b) (hK : K ≤ 1000000) (h0 : AggT [.z a] W v0) (h1 : AggT [.z b] W v1) : Calls Tryd.prog 59 #[v0, v1] W (RetT (AggT [.z (a * b)]) W) :=
  c_iop2 (op_mul ha hb (by have := lim_big; omega) rfl) h0 h1
theorem c_iadd {a b : Int} (ha : Wd.Sz B64 K a) (hb : Wd.Sz B64 K b) (hK : K ≤ 1000000) (h0 : AggT [.z a] W v0) (h1 : AggT [.z b] W v1) : Calls Tryd.prog 68 #[v0, v1] W (RetT (AggT [.z (a + b)]) W) :=
  c_iop2 (op_add ha hb (by have := lim_big; omega) rfl) h0 h1
theorem c_icmp {a b : Int} (h0 : AggT [.z a] W v0) (h1 : AggT [.z b] W v1) : Calls Tryd.prog 60 #[v0, v1] W (RetT (Rg.EqT (.int .i64 (sgn (a - b)))) W) := by
  obtain ⟨s1, n1, A1, c1, l1, rfl, f1⟩ := agg_z h0
  obtain ⟨s2, n2, A2, c2, l2, rfl, f2⟩ := agg_z h1
  exact (icmp_any s1 n1 A1 c1 l1 a s2 n2 A2 c2 l2 b W f1 f2).mono fun e w' h => eq_ret h
theorem c_whole (n : Int) (b1 : -9223372036854775808 ≤ n) (b2 : n ≤ 9223372036854775807) (W : World) : Calls Tryd.prog 71 #[.int .i64 n] W (RetT (AggT [.q (Rat.divInt n 1)]) W) :=
  (rwhole_any n W b1 b2).mono fun e w' h => pair_ret h
theorem sgn_ltB {z : Int} (h : 0 < z) : decide (0 < sgn z) = true := decide_eq_true (by unfold sgn; (repeat' split) <;> omega)
theorem sgn_nltB {z : Int} (h : ¬ 0 < z) : decide (0 < sgn z) = false := decide_eq_false (by unfold sgn; (repeat' split) <;> omega)
theorem floor_tdiv {x y : Int} (hy : 0 < y) : x / y = if 0 < x.tdiv y * y - x then x.tdiv y - 1 else x.tdiv y := by
  have h1 := Int.mul_tdiv_add_tmod x y
  have h2 := Int.mul_ediv_add_emod x y
  have h3 := Int.emod_nonneg x (show y ≠ 0 by omega)
  have h4 := Int.emod_lt_of_pos x hy
  have h5 : x.tmod y < y := Int.tmod_lt_of_pos x hy
  have h6 : -y < x.tmod y := by
    have := Int.lt_tmod_of_pos x hy
    omega
  generalize x.tdiv y = q at *
  generalize x / y = p at *
  generalize x % y = r at *
  generalize x.tmod y = s at *
  have e1 : q * y = y * q := Int.mul_comm _ _
  have e3 : y * p - y * q = y * (p - q) := by rw [Int.mul_sub]
  split
  · have hs : s < 0 := by omega
    have e2 : y * (p - q) = s - r := by omega
    have : p - q < 0 := by
      rcases Int.lt_or_le (p - q) 0 with h | h
      · exact h
      · have := Int.mul_nonneg (Int.le_of_lt hy) h; omega
    have : -2 < p - q := by
      rcases Int.lt_or_le (-2) (p - q) with h | h
      · exact h
      · have := Int.mul_le_mul_of_nonneg_left h (Int.le_of_lt hy); omega
    omega
  · have e2 : y * (p - q) = s - r := by omega
    have : p - q < 1 := by
      rcases Int.lt_or_le (p - q) 1 with h | h
      · exact h
      · have := Int.mul_le_mul_of_nonneg_left h (Int.le_of_lt hy); omega
    have : -1 < p - q := by
      rcases Int.lt_or_le (-1) (p - q) with h | h
      · exact h
      · have := Int.mul_le_mul_of_nonneg_left h (Int.le_of_lt hy); omega
    omega
end
set_option maxRecDepth 100000 in
set_option maxHeartbeats 16000000 in
theorem c_isub {a b : Int} {K : Nat} (sa : Wd.Sz B64 K a) (sb : Wd.Sz B64 K (-b)) (hK : K ≤ 1000000) (w : World) (u0 : Value) (h0 : AggT [.z a] w u0) (u1 : Value) (h1 : AggT [.z b] w u1) :
    Calls Tryd.prog 124 #[u0, u1] w (RetT (AggT [.z (a - b)]) w) := by
  rw [show a - b = a + -b from Int.sub_eq_add_neg]
  have HSA := hide sa
  have HSB := hide sb
  have HHK := hide hK
  clear sa sb hK
  obtain ⟨s0a, n0a, A0a, c0a, l0a, rfl, f0a⟩ := agg_z h0
  obtain ⟨s1a, n1a, A1a, c1a, l1a, rfl, f1a⟩ := agg_z h1
  go_enter Tryd.func124, Tryd.ntmps124
  go_upto_region 1 with fail
  have hO := (Own.push (T := 46) (ls := [.v (.int .i64 0), .v (.bool false), .v (.slice none 0 0)]) (cs := [.int .i64 0, .bool false, .slice none 0 0]) (Own.push (T := 46) (ls := [.z b]) (cs := [.int .i64 s1a, .bool n1a, .slice A1a (List.length l1a) c1a]) (Own.push (T := 46) (ls := [.z a]) (cs := [.int .i64 s0a, .bool n0a, .slice A0a (List.length l0a) c0a]) (Own.nil w) (LOk.z f0a rfl) (w.heap.size) rfl) (((LOk.z f1a rfl) : LOk w [.z b] [.int .i64 s1a, .bool n1a, .slice A1a (List.length l1a) c1a]).below (by repeat (first | exact Below.refl _ _ | refine below_alloc ?_ _))) (w.heap.size + 1) (by simp only [World.size_alloc])) (((LOk.vs w [.int .i64 0, .bool false, .slice none 0 0] rfl) : LOk w [.v (.int .i64 0), .v (.bool false), .v (.slice none 0 0)] [.int .i64 0, .bool false, .slice none 0 0]).below (by repeat (first | exact Below.refl _ _ | refine below_alloc ?_ _))) (w.heap.size + 2) (by simp only [World.size_alloc]))
  generalize ((w.alloc (.cells #[.int .i64 s0a, .bool n0a, .slice A0a (List.length l0a) c0a] 46)).alloc (.cells #[.int .i64 s1a, .bool n1a, .slice A1a (List.length l1a) c1a] 46)).alloc (.cells #[.int .i64 0, .bool false, .slice none 0 0] 46) = W0 at *
  have HO := hide hO
  clear hO
  go_upto_region 1 with fail
  refine Rg.region 4 9 (Rg.pick [AggT [.z a], AggT [.z b], AggT [.z (-b)], AggT [.z (a + -b)]]) (OwnG w [(w.heap.size + 2, 46, [.v (.int .i64 0), .v (.bool false), .v (.slice none 0 0)]), (w.heap.size + 1, 46, [.z b]), (w.heap.size, 46, [.z a])] W0) Bel [] (by kernel_rfl) (by kernel_rfl) rfl (Rg.Stabs.pick ⟨stab_agg _, stab_agg _, stab_agg _, stab_agg _, trivial⟩) (OwnG.start (unhide HO))
    (Rg.steps_cons (Rg.plain rfl (s_load (b := w.heap.size) (off := 0) (TB := 46) (pre := []) (mid := [.z a]) (post := []) load_z rfl (Rg.argF (by kernel_rfl) rfl) (fun W h => OwnG.box (List.Mem.tail _ (List.Mem.tail _ (List.Mem.head _))) h) rfl rfl rfl))
      (Rg.steps_cons (Rg.plain rfl (s_load (b := w.heap.size + 1) (off := 0) (TB := 46) (pre := []) (mid := [.z b]) (post := []) load_z rfl (Rg.argF (by kernel_rfl) rfl) (fun W h => OwnG.box (List.Mem.tail _ (List.Mem.head _)) h) rfl rfl rfl))
      (Rg.steps_cons (Rg.plain rfl (s_call1 Tryd.func51 (by kernel_rfl) rfl OwnG.step (Rg.argT 1 (by kernel_rfl)) (fun W v0 hG h0 => c_ineg h0)))
      (Rg.steps_cons (Rg.plain rfl (s_call2 Tryd.func68 (by kernel_rfl) rfl OwnG.step (Rg.argT 0 (by kernel_rfl)) (Rg.argT 2 (by kernel_rfl)) (fun W v0 v1 hG h0 h1 => c_iadd (unhide HSA) (unhide HSB) (unhide HHK) h0 h1)))
      Rg.steps_nil)))) ?_
  intro v1 V1 hG1 hv1 hne1
  simp only [Rg.puts, List.take_succ_cons, List.take_zero, List.drop_succ_cons, List.drop_zero, Act.put, List.setIfInBounds_toArray, List.set_cons_zero, List.set_cons_succ]
  have hO := hG1.1
  refine tl_store (xs := []) (ys := [(w.heap.size + 1, 46, [.z b]), (w.heap.size, 46, [.z a])]) (pre := []) (old := [.v (.int .i64 0), .v (.bool false), .v (.slice none 0 0)]) (new := [.z (a + -b)]) (post := []) (b := w.heap.size + 2) (off := 0) store_z rfl (show AggT [.z (a + -b)] V1 (v1 3) from hv1 3 (by decide)) hO rfl rfl rfl ?_
  intro U1_0 hO0 hk0
  replace hO : Own w [(w.heap.size + 2, 46, [.z (a + -b)]), (w.heap.size + 1, 46, [.z b]), (w.heap.size, 46, [.z a])] U1_0 := hO0
  clear hO0
  clear HO
  have HO := hide hO
  clear hO hG1 hv1 hne1 hk0
  go_wp2_with fail
  exact end_c Tryd.results124 loadv_z rfl (unhide HO) (List.Mem.head _) rfl rfl
theorem sz_m1 {K : Nat} : Wd.Sz B64 (K + 1) (-1) := Wd.Sz.of_le (by rw [B64_eq]; omega) B64_pos (by omega)
set_option maxRecDepth 100000 in
set_option maxHeartbeats 16000000 in
theorem c_ifloor {x y : Int} {K : Nat} (sx : Wd.Sz B64 (K + 1) x) (sy : Wd.Sz B64 (K + 1) y) (hK : K + 1 ≤ 1000000) (hy : 0 < y) (w : World) (u0 : Value) (h0 : AggT [.z x] w u0) (u1 : Value) (h1 : AggT [.z y] w u1) :
    Calls Tryd.prog 123 #[u0, u1] w (RetT (AggT [.z (x / y)]) w) := by
  obtain ⟨rr, hrr⟩ : ∃ rr, rr = x / y := ⟨_, rfl⟩
  rw [← hrr]
  rw [floor_tdiv hy] at hrr
  have HR := hide hrr
  have HX := hide (And.intro sx (And.intro sy (And.intro hK (show y ≠ 0 by omega))))
  clear hrr sx sy hK hy
  obtain ⟨s0a, n0a, A0a, c0a, l0a, rfl, f0a⟩ := agg_z h0
  obtain ⟨s1a, n1a, A1a, c1a, l1a, rfl, f1a⟩ := agg_z h1
  go_enter Tryd.func123, Tryd.ntmps123
  go_upto_region 1 with fail
  have hO := (Own.push (T := 46) (ls := [.v (.int .i64 0), .v (.bool false), .v (.slice none 0 0)]) (cs := [.int .i64 0, .bool false, .slice none 0 0]) (Own.push (T := 46) (ls := [.z y]) (cs := [.int .i64 s1a, .bool n1a, .slice A1a (List.length l1a) c1a]) (Own.push (T := 46) (ls := [.z x]) (cs := [.int .i64 s0a, .bool n0a, .slice A0a (List.length l0a) c0a]) (Own.nil w) (LOk.z f0a rfl) (w.heap.size) rfl) (((LOk.z f1a rfl) : LOk w [.z y] [.int .i64 s1a, .bool n1a, .slice A1a (List.length l1a) c1a]).below (by repeat (first | exact Below.refl _ _ | refine below_alloc ?_ _))) (w.heap.size + 1) (by simp only [World.size_alloc])) (((LOk.vs w [.int .i64 0, .bool false, .slice none 0 0] rfl) : LOk w [.v (.int .i64 0), .v (.bool false), .v (.slice none 0 0)] [.int .i64 0, .bool false, .slice none 0 0]).below (by repeat (first | exact Below.refl _ _ | refine below_alloc ?_ _))) (w.heap.size + 2) (by simp only [World.size_alloc]))
  generalize ((w.alloc (.cells #[.int .i64 s0a, .bool n0a, .slice A0a (List.length l0a) c0a] 46)).alloc (.cells #[.int .i64 s1a, .bool n1a, .slice A1a (List.length l1a) c1a] 46)).alloc (.cells #[.int .i64 0, .bool false, .slice none 0 0] 46) = W0 at *
  have HO := hide hO
  clear hO
  go_upto_region 1 with fail
  refine Rg.regionS 4 19 (Rg.pick [AggT [.z x], AggT [.z y], AggT [.z (x.tdiv y)], NewB 46 [.v (.int .i64 0), .v (.bool false), .v (.slice none 0 0)] W0.heap.size]) (OwnG w [(w.heap.size + 2, 46, [.v (.int .i64 0), .v (.bool false), .v (.slice none 0 0)]), (w.heap.size + 1, 46, [.z y]), (w.heap.size, 46, [.z x])] W0) Bel [3] (by kernel_rfl) rfl (Rg.Stabs.pick ⟨stab_agg _, stab_agg _, stab_agg _, stab_new _ _ _, trivial⟩) (OwnG.begin (unhide HO))
    (Rg.steps_cons (Rg.plain rfl (s_load (b := w.heap.size) (off := 0) (TB := 46) (pre := []) (mid := [.z x]) (post := []) load_z rfl (Rg.argF (by kernel_rfl) rfl) (fun W h => OwnG.box (List.Mem.tail _ (List.Mem.tail _ (List.Mem.head _))) h) rfl rfl rfl))
      (Rg.steps_cons (Rg.plain rfl (s_load (b := w.heap.size + 1) (off := 0) (TB := 46) (pre := []) (mid := [.z y]) (post := []) load_z rfl (Rg.argF (by kernel_rfl) rfl) (fun W h => OwnG.box (List.Mem.tail _ (List.Mem.head _)) h) rfl rfl rfl))
      (Rg.steps_cons (Rg.plain rfl (s_call2 Tryd.func52 (by kernel_rfl) rfl OwnG.step (Rg.argT 0 (by kernel_rfl)) (Rg.argT 1 (by kernel_rfl)) (fun W v0 v1 hG h0 h1 => c_iquo (unhide HX).1 (unhide HX).2.1 (unhide HX).2.2.1 (unhide HX).2.2.2 h0 h1)))
      (Rg.steps_cons (Rg.plain rfl (s_alloc new_z rfl OwnG.step OwnG.size rfl (new_lt (by intro j hj; simp at hj; (repeat' (first | (rcases hj with rfl | hj))) <;> first | (subst hj; exact ⟨_, _, _, rfl⟩) | exact ⟨_, _, _, rfl⟩))))
      Rg.steps_nil)))) ?_
  intro v1 V1 hG1 hv1 hne1
  simp only [Rg.puts, List.take_succ_cons, List.take_zero, List.drop_succ_cons, List.drop_zero, Act.put, List.setIfInBounds_toArray, List.set_cons_zero, List.set_cons_succ]
  obtain ⟨b1_3, e3, hge3, hz3⟩ := (show NewB 46 [.v (.int .i64 0), .v (.bool false), .v (.slice none 0 0)] W0.heap.size V1 (v1 3) from hv1 3 (by decide))
  simp only [e3]
  have hO := hG1.1
  replace hO := Own.add (unhide HO) hG1.2 hge3 hz3
  clear hge3 hz3
  refine tl_store (xs := []) (ys := [(w.heap.size + 2, 46, [.v (.int .i64 0), .v (.bool false), .v (.slice none 0 0)]), (w.heap.size + 1, 46, [.z y]), (w.heap.size, 46, [.z x])]) (pre := []) (old := [.v (.int .i64 0), .v (.bool false), .v (.slice none 0 0)]) (new := [.z (x.tdiv y)]) (post := []) (b := b1_3) (off := 0) store_z rfl (show AggT [.z (x.tdiv y)] V1 (v1 2) from hv1 2 (by decide)) hO rfl rfl rfl ?_
  intro U1_0 hO0 hk0
  replace hO : Own w [(b1_3, 46, [.z (x.tdiv y)]), (w.heap.size + 2, 46, [.v (.int .i64 0), .v (.bool false), .v (.slice none 0 0)]), (w.heap.size + 1, 46, [.z y]), (w.heap.size, 46, [.z x])] U1_0 := hO0
  clear hO0
  clear HO
  have HO := hide hO
  clear hO hG1 hv1 hne1 hk0
  try clear e3
  by_cases g : 0 < x.tdiv y * y - x
  · have d1 : decide (0 < sgn (x.tdiv y * y - x)) = true := sgn_ltB g
    have hr : rr = x.tdiv y - 1 := by rw [(unhide HR), if_pos g]
    clear HR g
    subst hr
    go_upto_region 2 with fail
    refine Rg.region 6 19 (Rg.pick [AggT [.z (x.tdiv y)], AggT [.z y], AggT [.z (x.tdiv y * y)], AggT [.z x], Rg.EqT (.int .i64 (sgn (x.tdiv y * y - x))), Rg.EqT (.bool true)]) (OwnG w [(b1_3, 46, [.z (x.tdiv y)]), (w.heap.size + 2, 46, [.v (.int .i64 0), .v (.bool false), .v (.slice none 0 0)]), (w.heap.size + 1, 46, [.z y]), (w.heap.size, 46, [.z x])] U1_0) Bel [] (by kernel_rfl) (by kernel_rfl) rfl (Rg.Stabs.pick ⟨stab_agg _, stab_agg _, stab_agg _, stab_agg _, Rg.stab_eq _, Rg.stab_eq _, trivial⟩) (OwnG.start (unhide HO))
      (Rg.steps_cons (Rg.plain rfl (s_load (b := b1_3) (off := 0) (TB := 46) (pre := []) (mid := [.z (x.tdiv y)]) (post := []) load_z rfl (Rg.argF (by kernel_rfl) rfl) (fun W h => OwnG.box (List.Mem.head _) h) rfl rfl rfl))
        (Rg.steps_cons (Rg.plain rfl (s_load (b := w.heap.size + 1) (off := 0) (TB := 46) (pre := []) (mid := [.z y]) (post := []) load_z rfl (Rg.argF (by kernel_rfl) rfl) (fun W h => OwnG.box (List.Mem.tail _ (List.Mem.tail _ (List.Mem.head _))) h) rfl rfl rfl))
        (Rg.steps_cons (Rg.plain rfl (s_call2 Tryd.func59 (by kernel_rfl) rfl OwnG.step (Rg.argT 0 (by kernel_rfl)) (Rg.argT 1 (by kernel_rfl)) (fun W v0 v1 hG h0 h1 => c_imul ((unhide HX).1.tdiv y) (unhide HX).2.1 (unhide HX).2.2.1 h0 h1)))
        (Rg.steps_cons (Rg.plain rfl (s_load (b := w.heap.size) (off := 0) (TB := 46) (pre := []) (mid := [.z x]) (post := []) load_z rfl (Rg.argF (by kernel_rfl) rfl) (fun W h => OwnG.box (List.Mem.tail _ (List.Mem.tail _ (List.Mem.tail _ (List.Mem.head _)))) h) rfl rfl rfl))
        (Rg.steps_cons (Rg.plain rfl (s_call2 Tryd.func60 (by kernel_rfl) rfl OwnG.step (Rg.argT 2 (by kernel_rfl)) (Rg.argT 3 (by kernel_rfl)) (fun W v0 v1 hG h0 h1 => c_icmp h0 h1)))
        (Rg.steps_cons (Rg.plain rfl (s_gtr rfl (Rg.argT 4 (by kernel_rfl)) (Rg.argC _) rfl d1))
        Rg.steps_nil)))))) ?_
    intro v2 V2 hG2 hv2 hne2
    simp only [Rg.puts, List.take_succ_cons, List.take_zero, List.drop_succ_cons, List.drop_zero, Act.put, List.setIfInBounds_toArray, List.set_cons_zero, List.set_cons_succ]
    have e4 : v2 4 = .int .i64 (sgn (x.tdiv y * y - x)) := hv2 4 (by decide)
    have e5 : v2 5 = .bool true := hv2 5 (by decide)
    simp only [e4, e5]
    have hO := hG2.1
    clear HO
    have HO := hide hO
    clear hO hG2 hv2 hne2
    try clear e4 e5
    go_upto_region 3 with fail
    refine Rg.region 3 19 (Rg.pick [AggT [.z (x.tdiv y)], AggT [.z 1], AggT [.z (x.tdiv y - 1)]]) (OwnG w [(b1_3, 46, [.z (x.tdiv y)]), (w.heap.size + 2, 46, [.v (.int .i64 0), .v (.bool false), .v (.slice none 0 0)]), (w.heap.size + 1, 46, [.z y]), (w.heap.size, 46, [.z x])] V2) Bel [] (by kernel_rfl) (by kernel_rfl) rfl (Rg.Stabs.pick ⟨stab_agg _, stab_agg _, stab_agg _, trivial⟩) (OwnG.start (unhide HO))
      (Rg.steps_cons (Rg.plain rfl (s_load (b := b1_3) (off := 0) (TB := 46) (pre := []) (mid := [.z (x.tdiv y)]) (post := []) load_z rfl (Rg.argF (by kernel_rfl) rfl) (fun W h => OwnG.box (List.Mem.head _) h) rfl rfl rfl))
        (Rg.steps_cons (Rg.plain rfl (s_call1 Tryd.func22 (by kernel_rfl) rfl OwnG.step (Rg.argC _) (fun W v0 hG h0 => by cases h0; exact c_newi 1 (by omega) (by omega) W)))
        (Rg.steps_cons (Rg.plain rfl (s_call2 Tryd.func124 (by kernel_rfl) rfl OwnG.step (Rg.argT 0 (by kernel_rfl)) (Rg.argT 1 (by kernel_rfl)) (fun W v0 v1 hG h0 h1 => c_isub ((unhide HX).1.tdiv y) sz_m1 (unhide HX).2.2.1 W _ h0 _ h1)))
        Rg.steps_nil))) ?_
    intro v3 V3 hG3 hv3 hne3
    simp only [Rg.puts, List.take_succ_cons, List.take_zero, List.drop_succ_cons, List.drop_zero, Act.put, List.setIfInBounds_toArray, List.set_cons_zero, List.set_cons_succ]
    have hO := hG3.1
    refine tl_store (xs := [(b1_3, 46, [.z (x.tdiv y)])]) (ys := [(w.heap.size + 1, 46, [.z y]), (w.heap.size, 46, [.z x])]) (pre := []) (old := [.v (.int .i64 0), .v (.bool false), .v (.slice none 0 0)]) (new := [.z (x.tdiv y - 1)]) (post := []) (b := w.heap.size + 2) (off := 0) store_z rfl (show AggT [.z (x.tdiv y - 1)] V3 (v3 2) from hv3 2 (by decide)) hO rfl rfl rfl ?_
    intro U3_0 hO0 hk0
    replace hO : Own w [(b1_3, 46, [.z (x.tdiv y)]), (w.heap.size + 2, 46, [.z (x.tdiv y - 1)]), (w.heap.size + 1, 46, [.z y]), (w.heap.size, 46, [.z x])] U3_0 := hO0
    clear hO0
    clear HO
    have HO := hide hO
    clear hO hG3 hv3 hne3 hk0
    go_wp2_with fail
    exact end_c Tryd.results123 loadv_z rfl (unhide HO) (List.Mem.tail _ (List.Mem.head _)) rfl rfl
  · have d1 : decide (0 < sgn (x.tdiv y * y - x)) = false := sgn_nltB g
    have hr : rr = x.tdiv y := by rw [(unhide HR), if_neg g]
    clear HR g
    subst hr
    go_upto_region 2 with fail
    refine Rg.region 6 19 (Rg.pick [AggT [.z (x.tdiv y)], AggT [.z y], AggT [.z (x.tdiv y * y)], AggT [.z x], Rg.EqT (.int .i64 (sgn (x.tdiv y * y - x))), Rg.EqT (.bool false)]) (OwnG w [(b1_3, 46, [.z (x.tdiv y)]), (w.heap.size + 2, 46, [.v (.int .i64 0), .v (.bool false), .v (.slice none 0 0)]), (w.heap.size + 1, 46, [.z y]), (w.heap.size, 46, [.z x])] U1_0) Bel [] (by kernel_rfl) (by kernel_rfl) rfl (Rg.Stabs.pick ⟨stab_agg _, stab_agg _, stab_agg _, stab_agg _, Rg.stab_eq _, Rg.stab_eq _, trivial⟩) (OwnG.start (unhide HO))
      (Rg.steps_cons (Rg.plain rfl (s_load (b := b1_3) (off := 0) (TB := 46) (pre := []) (mid := [.z (x.tdiv y)]) (post := []) load_z rfl (Rg.argF (by kernel_rfl) rfl) (fun W h => OwnG.box (List.Mem.head _) h) rfl rfl rfl))
        (Rg.steps_cons (Rg.plain rfl (s_load (b := w.heap.size + 1) (off := 0) (TB := 46) (pre := []) (mid := [.z y]) (post := []) load_z rfl (Rg.argF (by kernel_rfl) rfl) (fun W h => OwnG.box (List.Mem.tail _ (List.Mem.tail _ (List.Mem.head _))) h) rfl rfl rfl))
        (Rg.steps_cons (Rg.plain rfl (s_call2 Tryd.func59 (by kernel_rfl) rfl OwnG.step (Rg.argT 0 (by kernel_rfl)) (Rg.argT 1 (by kernel_rfl)) (fun W v0 v1 hG h0 h1 => c_imul ((unhide HX).1.tdiv y) (unhide HX).2.1 (unhide HX).2.2.1 h0 h1)))
        (Rg.steps_cons (Rg.plain rfl (s_load (b := w.heap.size) (off := 0) (TB := 46) (pre := []) (mid := [.z x]) (post := []) load_z rfl (Rg.argF (by kernel_rfl) rfl) (fun W h => OwnG.box (List.Mem.tail _ (List.Mem.tail _ (List.Mem.tail _ (List.Mem.head _)))) h) rfl rfl rfl))
        (Rg.steps_cons (Rg.plain rfl (s_call2 Tryd.func60 (by kernel_rfl) rfl OwnG.step (Rg.argT 2 (by kernel_rfl)) (Rg.argT 3 (by kernel_rfl)) (fun W v0 v1 hG h0 h1 => c_icmp h0 h1)))
        (Rg.steps_cons (Rg.plain rfl (s_gtr rfl (Rg.argT 4 (by kernel_rfl)) (Rg.argC _) rfl d1))
        Rg.steps_nil)))))) ?_
    intro v2 V2 hG2 hv2 hne2
    simp only [Rg.puts, List.take_succ_cons, List.take_zero, List.drop_succ_cons, List.drop_zero, Act.put, List.setIfInBounds_toArray, List.set_cons_zero, List.set_cons_succ]
    have e4 : v2 4 = .int .i64 (sgn (x.tdiv y * y - x)) := hv2 4 (by decide)
    have e5 : v2 5 = .bool false := hv2 5 (by decide)
    simp only [e4, e5]
    have hO := hG2.1
    clear HO
    have HO := hide hO
    clear hO hG2 hv2 hne2
    try clear e4 e5
    go_upto_region 4 with fail
    refine Rg.regionS 1 19 (Rg.pick [AggT [.z (x.tdiv y)]]) (OwnG w [(b1_3, 46, [.z (x.tdiv y)]), (w.heap.size + 2, 46, [.v (.int .i64 0), .v (.bool false), .v (.slice none 0 0)]), (w.heap.size + 1, 46, [.z y]), (w.heap.size, 46, [.z x])] V2) Bel [] (by kernel_rfl) rfl (Rg.Stabs.pick ⟨stab_agg _, trivial⟩) (OwnG.begin (unhide HO))
      (Rg.steps_cons (Rg.plain rfl (s_load (b := b1_3) (off := 0) (TB := 46) (pre := []) (mid := [.z (x.tdiv y)]) (post := []) load_z rfl (Rg.argF (by kernel_rfl) rfl) (fun W h => OwnG.box (List.Mem.head _) h) rfl rfl rfl))
        Rg.steps_nil) ?_
    intro v3 V3 hG3 hv3 hne3
    simp only [Rg.puts, List.take_succ_cons, List.take_zero, List.drop_succ_cons, List.drop_zero, Act.put, List.setIfInBounds_toArray, List.set_cons_zero, List.set_cons_succ]
    have hO := hG3.1
    refine tl_store (xs := [(b1_3, 46, [.z (x.tdiv y)])]) (ys := [(w.heap.size + 1, 46, [.z y]), (w.heap.size, 46, [.z x])]) (pre := []) (old := [.v (.int .i64 0), .v (.bool false), .v (.slice none 0 0)]) (new := [.z (x.tdiv y)]) (post := []) (b := w.heap.size + 2) (off := 0) store_z rfl (show AggT [.z (x.tdiv y)] V3 (v3 0) from hv3 0 (by decide)) hO rfl rfl rfl ?_
    intro U3_0 hO0 hk0
    replace hO : Own w [(b1_3, 46, [.z (x.tdiv y)]), (w.heap.size + 2, 46, [.z (x.tdiv y)]), (w.heap.size + 1, 46, [.z y]), (w.heap.size, 46, [.z x])] U3_0 := hO0
    clear hO0
    clear HO
    have HO := hide hO
    clear hO hG3 hv3 hne3 hk0
    go_wp2_with fail
    exact end_c Tryd.results123 loadv_z rfl (unhide HO) (List.Mem.tail _ (List.Mem.head _)) rfl rfl
theorem q_zz {W : World} {x : Rat} {v : Value} (h : AggT [.q x] W v) : AggT [.z x.num, .z (x.den : Int)] W v := by
  obtain ⟨s1, n1, A1, c1, l1, s2, n2, A2, c2, l2, rfl, f1, f2⟩ := agg_q h
  exact ⟨_, rfl, LOk.z f1 (LOk.z f2 rfl)⟩
theorem agg_zz {W : World} {a b : Int} {v : Value} (h : AggT [.z a, .z b] W v) : ∃ s1 n1 A1 c1 l1 s2 n2 A2 c2 l2, v = .agg #[.int .i64 s1, .bool n1, .slice A1 (List.length l1) c1, .int .i64 s2, .bool n2, .slice A2 (List.length l2) c2] ∧ IntF W s1 n1 A1 c1 l1 a ∧ IntF W s2 n2 A2 c2 l2 b := by
  obtain ⟨cs, rfl, h⟩ := h
  obtain ⟨s1, n1, A1, c1, l1, r, rfl, h1, h⟩ := h.z_inv
  obtain ⟨s2, n2, A2, c2, l2, r, rfl, h2, h⟩ := h.z_inv
  cases h
  exact ⟨_, _, _, _, _, _, _, _, _, _, rfl, h1, h2⟩
set_option maxRecDepth 100000 in
set_option maxHeartbeats 16000000 in
theorem c_floor {x : Rat} {K : Nat} (sx : Sm (K + 1) x) (w : World) (u0 : Value) (h0 : AggT [.q x] w u0) :
    Calls Tryd.prog 118 #[u0] w (RetT (AggT [.z (x.num / (x.den : Int))]) w) := by
  have HX := hide (And.intro sx.1.1 (And.intro sx.1.2 (And.intro sx.2 (show (0 : Int) < (x.den : Int) by have := x.den_pos; omega))))
  clear sx
  replace h0 := q_zz h0
  obtain ⟨s0a, n0a, A0a, c0a, l0a, s0b, n0b, A0b, c0b, l0b, rfl, f0a, f0b⟩ := agg_zz h0
  go_enter Tryd.func118, Tryd.ntmps118
  go_upto_region 1 with fail
  have hO := (Own.push (T := 46) (ls := [.v (.int .i64 0), .v (.bool false), .v (.slice none 0 0)]) (cs := [.int .i64 0, .bool false, .slice none 0 0]) (Own.push (T := 48) (ls := [.z x.num, .z (x.den : Int)]) (cs := [.int .i64 s0a, .bool n0a, .slice A0a (List.length l0a) c0a, .int .i64 s0b, .bool n0b, .slice A0b (List.length l0b) c0b]) (Own.nil w) (LOk.z f0a (LOk.z f0b rfl)) (w.heap.size) rfl) (((LOk.vs w [.int .i64 0, .bool false, .slice none 0 0] rfl) : LOk w [.v (.int .i64 0), .v (.bool false), .v (.slice none 0 0)] [.int .i64 0, .bool false, .slice none 0 0]).below (by repeat (first | exact Below.refl _ _ | refine below_alloc ?_ _))) (w.heap.size + 1) (by simp only [World.size_alloc]))
  generalize (w.alloc (.cells #[.int .i64 s0a, .bool n0a, .slice A0a (List.length l0a) c0a, .int .i64 s0b, .bool n0b, .slice A0b (List.length l0b) c0b] 48)).alloc (.cells #[.int .i64 0, .bool false, .slice none 0 0] 46) = W0 at *
  have HO := hide hO
  clear hO
  go_upto_region 1 with fail
  refine Rg.regionS 5 8 (Rg.pick [Rg.EqT (.pointer (some ⟨w.heap.size, 0, none⟩)), AggT [.z x.num], Rg.EqT (.pointer (some ⟨w.heap.size, 3, none⟩)), AggT [.z (x.den : Int)], AggT [.z (x.num / (x.den : Int))]]) (OwnG w [(w.heap.size + 1, 46, [.v (.int .i64 0), .v (.bool false), .v (.slice none 0 0)]), (w.heap.size, 48, [.z x.num, .z (x.den : Int)])] W0) Bel [] (by kernel_rfl) rfl (Rg.Stabs.pick ⟨Rg.stab_eq _, stab_agg _, Rg.stab_eq _, stab_agg _, stab_agg _, trivial⟩) (OwnG.begin (unhide HO))
    (Rg.steps_cons (Rg.plain rfl (s_addr_q0 (b := w.heap.size) (off := 0) rfl (Rg.argF (by kernel_rfl) rfl) rfl rfl))
      (Rg.steps_cons (Rg.plain rfl (s_load (b := w.heap.size) (off := 0) (TB := 48) (pre := []) (mid := [.z x.num]) (post := [.z (x.den : Int)]) load_z rfl (Rg.argT 0 (by kernel_rfl)) (fun W h => OwnG.box (List.Mem.tail _ (List.Mem.head _)) h) rfl rfl rfl))
      (Rg.steps_cons (Rg.plain rfl (s_addr_q1 (b := w.heap.size) (off := 0) rfl (Rg.argF (by kernel_rfl) rfl) rfl rfl))
      (Rg.steps_cons (Rg.plain rfl (s_load (b := w.heap.size) (off := 3) (TB := 48) (pre := [.z x.num]) (mid := [.z (x.den : Int)]) (post := []) load_z rfl (Rg.argT 2 (by kernel_rfl)) (fun W h => OwnG.box (List.Mem.tail _ (List.Mem.head _)) h) rfl rfl rfl))
      (Rg.steps_cons (Rg.plain rfl (s_call2 Tryd.func123 (by kernel_rfl) rfl OwnG.step (Rg.argT 1 (by kernel_rfl)) (Rg.argT 3 (by kernel_rfl)) (fun W v0 v1 hG h0 h1 => c_ifloor (unhide HX).1 (unhide HX).2.1 (unhide HX).2.2.1 (unhide HX).2.2.2 W _ h0 _ h1)))
      Rg.steps_nil))))) ?_
  intro v1 V1 hG1 hv1 hne1
  simp only [Rg.puts, List.take_succ_cons, List.take_zero, List.drop_succ_cons, List.drop_zero, Act.put, List.setIfInBounds_toArray, List.set_cons_zero, List.set_cons_succ]
  have e0 : v1 0 = .pointer (some ⟨w.heap.size, 0, none⟩) := hv1 0 (by decide)
  have e2 : v1 2 = .pointer (some ⟨w.heap.size, 3, none⟩) := hv1 2 (by decide)
  simp only [e0, e2]
  have hO := hG1.1
  refine tl_store (xs := []) (ys := [(w.heap.size, 48, [.z x.num, .z (x.den : Int)])]) (pre := []) (old := [.v (.int .i64 0), .v (.bool false), .v (.slice none 0 0)]) (new := [.z (x.num / (x.den : Int))]) (post := []) (b := w.heap.size + 1) (off := 0) store_z rfl (show AggT [.z (x.num / (x.den : Int))] V1 (v1 4) from hv1 4 (by decide)) hO rfl rfl rfl ?_
  intro U1_0 hO0 hk0
  replace hO : Own w [(w.heap.size + 1, 46, [.z (x.num / (x.den : Int))]), (w.heap.size, 48, [.z x.num, .z (x.den : Int)])] U1_0 := hO0
  clear hO0
  clear HO
  have HO := hide hO
  clear hO hG1 hv1 hne1 hk0
  try clear e0 e2
  go_wp2_with fail
  exact end_c Tryd.results118 loadv_z rfl (unhide HO) (List.Mem.head _) rfl rfl
set_option maxRecDepth 100000 in
set_option maxHeartbeats 16000000 in
theorem c_span {n d p e : Int} (ok : Wd.okR n d ∧ Wd.okR p e) (w : World) (u0 : Value) (h0 : AggT [.v (.int .i64 n), .v (.int .i64 d), .v (.int .i64 p), .v (.int .i64 e)] w u0) :
    Calls Tryd.prog 42 #[u0] w (RetT (AggT [.q (Wd.qR n d), .q (Wd.qR p e)]) w) := by
  have HOK := hide ok
  clear ok
  have hu0 := agg_v4 h0
  subst hu0
  go_enter Tryd.func42, Tryd.ntmps42
  go_upto_region 1 with fail
  have hO := (Own.push (T := 74) (ls := [.v (.int .i64 0), .v (.bool false), .v (.slice none 0 0), .v (.int .i64 0), .v (.bool false), .v (.slice none 0 0), .v (.int .i64 0), .v (.bool false), .v (.slice none 0 0), .v (.int .i64 0), .v (.bool false), .v (.slice none 0 0)]) (cs := [.int .i64 0, .bool false, .slice none 0 0, .int .i64 0, .bool false, .slice none 0 0, .int .i64 0, .bool false, .slice none 0 0, .int .i64 0, .bool false, .slice none 0 0]) (Own.push (T := 35) (ls := [.v (.int .i64 n), .v (.int .i64 d), .v (.int .i64 p), .v (.int .i64 e)]) (cs := [.int .i64 n, .int .i64 d, .int .i64 p, .int .i64 e]) (Own.nil w) (LOk.v (notW_i _) (LOk.v (notW_i _) (LOk.v (notW_i _) (LOk.v (notW_i _) rfl)))) (w.heap.size) rfl) (((LOk.vs w [.int .i64 0, .bool false, .slice none 0 0, .int .i64 0, .bool false, .slice none 0 0, .int .i64 0, .bool false, .slice none 0 0, .int .i64 0, .bool false, .slice none 0 0] rfl) : LOk w [.v (.int .i64 0), .v (.bool false), .v (.slice none 0 0), .v (.int .i64 0), .v (.bool false), .v (.slice none 0 0), .v (.int .i64 0), .v (.bool false), .v (.slice none 0 0), .v (.int .i64 0), .v (.bool false), .v (.slice none 0 0)] [.int .i64 0, .bool false, .slice none 0 0, .int .i64 0, .bool false, .slice none 0 0, .int .i64 0, .bool false, .slice none 0 0, .int .i64 0, .bool false, .slice none 0 0]).below (by repeat (first | exact Below.refl _ _ | refine below_alloc ?_ _))) (w.heap.size + 1) (by simp only [World.size_alloc]))
  generalize (w.alloc (.cells #[.int .i64 n, .int .i64 d, .int .i64 p, .int .i64 e] 35)).alloc (.cells #[.int .i64 0, .bool false, .slice none 0 0, .int .i64 0, .bool false, .slice none 0 0, .int .i64 0, .bool false, .slice none 0 0, .int .i64 0, .bool false, .slice none 0 0] 74) = W0 at *
  have HO := hide hO
  clear hO
  go_upto_region 1 with fail
  refine Rg.region 7 10 (Rg.pick [Rg.EqT (.pointer (some ⟨w.heap.size, 0, none⟩)), AggT [.v (.int .i64 n), .v (.int .i64 d)], AggT [.q (Wd.qR n d)], Rg.EqT (.pointer (some ⟨w.heap.size, 2, none⟩)), AggT [.v (.int .i64 p), .v (.int .i64 e)], AggT [.q (Wd.qR p e)], AggT [.q (Wd.qR n d), .q (Wd.qR p e)]]) (OwnG w [(w.heap.size + 1, 74, [.v (.int .i64 0), .v (.bool false), .v (.slice none 0 0), .v (.int .i64 0), .v (.bool false), .v (.slice none 0 0), .v (.int .i64 0), .v (.bool false), .v (.slice none 0 0), .v (.int .i64 0), .v (.bool false), .v (.slice none 0 0)]), (w.heap.size, 35, [.v (.int .i64 n), .v (.int .i64 d), .v (.int .i64 p), .v (.int .i64 e)])] W0) Bel [] (by kernel_rfl) (by kernel_rfl) rfl (Rg.Stabs.pick ⟨Rg.stab_eq _, stab_agg _, stab_agg _, Rg.stab_eq _, stab_agg _, stab_agg _, stab_agg _, trivial⟩) (OwnG.start (unhide HO))
    (Rg.steps_cons (Rg.plain rfl (s_addr_s0 (b := w.heap.size) (off := 0) rfl (Rg.argF (by kernel_rfl) rfl) rfl rfl))
      (Rg.steps_cons (Rg.plain rfl (s_load (b := w.heap.size) (off := 0) (TB := 35) (pre := []) (mid := [.v (.int .i64 n), .v (.int .i64 d)]) (post := [.v (.int .i64 p), .v (.int .i64 e)]) load_r rfl (Rg.argT 0 (by kernel_rfl)) (fun W h => OwnG.box (List.Mem.tail _ (List.Mem.head _)) h) rfl rfl rfl))
      (Rg.steps_cons (Rg.plain rfl (s_call1 Tryd.func27 (by kernel_rfl) rfl OwnG.step (Rg.argT 1 (by kernel_rfl)) (fun W v0 hG h0 => c_of (unhide HOK).1 h0)))
      (Rg.steps_cons (Rg.plain rfl (s_addr_s1 (b := w.heap.size) (off := 0) rfl (Rg.argF (by kernel_rfl) rfl) rfl rfl))
      (Rg.steps_cons (Rg.plain rfl (s_load (b := w.heap.size) (off := 2) (TB := 35) (pre := [.v (.int .i64 n), .v (.int .i64 d)]) (mid := [.v (.int .i64 p), .v (.int .i64 e)]) (post := []) load_r rfl (Rg.argT 3 (by kernel_rfl)) (fun W h => OwnG.box (List.Mem.tail _ (List.Mem.head _)) h) rfl rfl rfl))
      (Rg.steps_cons (Rg.plain rfl (s_call1 Tryd.func27 (by kernel_rfl) rfl OwnG.step (Rg.argT 4 (by kernel_rfl)) (fun W v0 hG h0 => c_of (unhide HOK).2 h0)))
      (Rg.steps_cons (Rg.plain rfl (s_build2 build_e rfl (Rg.argT 2 (by kernel_rfl)) (Rg.argT 5 (by kernel_rfl)) rfl rfl rfl))
      Rg.steps_nil))))))) ?_
  intro v1 V1 hG1 hv1 hne1
  simp only [Rg.puts, List.take_succ_cons, List.take_zero, List.drop_succ_cons, List.drop_zero, Act.put, List.setIfInBounds_toArray, List.set_cons_zero, List.set_cons_succ]
  have e0 : v1 0 = .pointer (some ⟨w.heap.size, 0, none⟩) := hv1 0 (by decide)
  have e3 : v1 3 = .pointer (some ⟨w.heap.size, 2, none⟩) := hv1 3 (by decide)
  simp only [e0, e3]
  have hO := hG1.1
  refine tl_store (xs := []) (ys := [(w.heap.size, 35, [.v (.int .i64 n), .v (.int .i64 d), .v (.int .i64 p), .v (.int .i64 e)])]) (pre := []) (old := [.v (.int .i64 0), .v (.bool false), .v (.slice none 0 0), .v (.int .i64 0), .v (.bool false), .v (.slice none 0 0), .v (.int .i64 0), .v (.bool false), .v (.slice none 0 0), .v (.int .i64 0), .v (.bool false), .v (.slice none 0 0)]) (new := [.q (Wd.qR n d), .q (Wd.qR p e)]) (post := []) (b := w.heap.size + 1) (off := 0) store_e rfl (show AggT [.q (Wd.qR n d), .q (Wd.qR p e)] V1 (v1 6) from hv1 6 (by decide)) hO rfl rfl rfl ?_
  intro U1_0 hO0 hk0
  replace hO : Own w [(w.heap.size + 1, 74, [.q (Wd.qR n d), .q (Wd.qR p e)]), (w.heap.size, 35, [.v (.int .i64 n), .v (.int .i64 d), .v (.int .i64 p), .v (.int .i64 e)])] U1_0 := hO0
  clear hO0
  clear HO
  have HO := hide hO
  clear hO hG1 hv1 hne1 hk0
  try clear e0 e3
  go_wp2_with fail
  exact end_c Tryd.results42 loadv_e rfl (unhide HO) (List.Mem.head _) rfl rfl
theorem two_ne : (Rat.divInt 2 1).num ≠ 0 := by rw [(Wd.one_parts 2).1]; decide
theorem sm_two : Sm 1 (Rat.divInt 2 1) := ⟨⟨by rw [(Wd.one_parts 2).1]; exact Wd.Sz.of_le (by rw [B64_eq]; omega) B64_pos (Nat.le_refl _), by rw [(Wd.one_parts 2).2]; exact Wd.Sz.of_le (by rw [B64_eq]; omega) B64_pos (Nat.le_refl _)⟩, by omega⟩
set_option maxRecDepth 100000 in
set_option maxHeartbeats 16000000 in
theorem c_middle {x y : Rat} {K : Nat} (sx : Sm K x) (sy : Sm K y) (hK : K + K + 1 ≤ 1000000) (w : World) (hT : Tab w) (u0 : Value) (h0 : AggT [.q x, .q y] w u0) :
    Calls Tryd.prog 43 #[u0] w (RetT (AggT [.q ((x + y) / Rat.divInt 2 1)]) w) := by
  have HX := hide (And.intro sx (And.intro sy (And.intro (sx.add sy hK w hT) (sm_two.mono (show 1 ≤ K + K + 1 by omega) hK))))
  have HT := hide hT
  clear sx sy hK hT
  obtain ⟨s0a, n0a, A0a, c0a, l0a, s0b, n0b, A0b, c0b, l0b, s0c, n0c, A0c, c0c, l0c, s0d, n0d, A0d, c0d, l0d, rfl, f0a, f0b, f0c, f0d⟩ := agg_qq h0
  go_enter Tryd.func43, Tryd.ntmps43
  go_upto_region 1 with fail
  have hO := (Own.push (T := 48) (ls := [.v (.int .i64 0), .v (.bool false), .v (.slice none 0 0), .v (.int .i64 0), .v (.bool false), .v (.slice none 0 0)]) (cs := [.int .i64 0, .bool false, .slice none 0 0, .int .i64 0, .bool false, .slice none 0 0]) (Own.push (T := 74) (ls := [.q x, .q y]) (cs := [.int .i64 s0a, .bool n0a, .slice A0a (List.length l0a) c0a, .int .i64 s0b, .bool n0b, .slice A0b (List.length l0b) c0b, .int .i64 s0c, .bool n0c, .slice A0c (List.length l0c) c0c, .int .i64 s0d, .bool n0d, .slice A0d (List.length l0d) c0d]) (Own.nil w) (LOk.q f0a f0b (LOk.q f0c f0d rfl)) (w.heap.size) rfl) (((LOk.vs w [.int .i64 0, .bool false, .slice none 0 0, .int .i64 0, .bool false, .slice none 0 0] rfl) : LOk w [.v (.int .i64 0), .v (.bool false), .v (.slice none 0 0), .v (.int .i64 0), .v (.bool false), .v (.slice none 0 0)] [.int .i64 0, .bool false, .slice none 0 0, .int .i64 0, .bool false, .slice none 0 0]).below (by repeat (first | exact Below.refl _ _ | refine below_alloc ?_ _))) (w.heap.size + 1) (by simp only [World.size_alloc]))
  generalize (w.alloc (.cells #[.int .i64 s0a, .bool n0a, .slice A0a (List.length l0a) c0a, .int .i64 s0b, .bool n0b, .slice A0b (List.length l0b) c0b, .int .i64 s0c, .bool n0c, .slice A0c (List.length l0c) c0c, .int .i64 s0d, .bool n0d, .slice A0d (List.length l0d) c0d] 74)).alloc (.cells #[.int .i64 0, .bool false, .slice none 0 0, .int .i64 0, .bool false, .slice none 0 0] 48) = W0 at *
  have HO := hide hO
  clear hO
  go_upto_region 1 with fail
  refine Rg.regionS 7 10 (Rg.pick [Rg.EqT (.pointer (some ⟨w.heap.size, 0, none⟩)), AggT [.q x], Rg.EqT (.pointer (some ⟨w.heap.size, 6, none⟩)), AggT [.q y], AggT [.q (x + y)], AggT [.q (Rat.divInt 2 1)], AggT [.q ((x + y) / Rat.divInt 2 1)]]) (OwnG w [(w.heap.size + 1, 48, [.v (.int .i64 0), .v (.bool false), .v (.slice none 0 0), .v (.int .i64 0), .v (.bool false), .v (.slice none 0 0)]), (w.heap.size, 74, [.q x, .q y])] W0) Bel [] (by kernel_rfl) rfl (Rg.Stabs.pick ⟨Rg.stab_eq _, stab_agg _, Rg.stab_eq _, stab_agg _, stab_agg _, stab_agg _, stab_agg _, trivial⟩) (OwnG.begin (unhide HO))
    (Rg.steps_cons (Rg.plain rfl (s_addr_e0 (b := w.heap.size) (off := 0) rfl (Rg.argF (by kernel_rfl) rfl) rfl rfl))
      (Rg.steps_cons (Rg.plain rfl (s_load (b := w.heap.size) (off := 0) (TB := 74) (pre := []) (mid := [.q x]) (post := [.q y]) load_q rfl (Rg.argT 0 (by kernel_rfl)) (fun W h => OwnG.box (List.Mem.tail _ (List.Mem.head _)) h) rfl rfl rfl))
      (Rg.steps_cons (Rg.plain rfl (s_addr_e1 (b := w.heap.size) (off := 0) rfl (Rg.argF (by kernel_rfl) rfl) rfl rfl))
      (Rg.steps_cons (Rg.plain rfl (s_load (b := w.heap.size) (off := 6) (TB := 74) (pre := [.q x]) (mid := [.q y]) (post := []) load_q rfl (Rg.argT 2 (by kernel_rfl)) (fun W h => OwnG.box (List.Mem.tail _ (List.Mem.head _)) h) rfl rfl rfl))
      (Rg.steps_cons (Rg.plain rfl (s_call2 Tryd.func37 (by kernel_rfl) rfl OwnG.step (Rg.argT 1 (by kernel_rfl)) (Rg.argT 3 (by kernel_rfl)) (fun W v0 v1 hG h0 h1 => c_add ((unhide HT).below hG.bel) (unhide HX).1 (unhide HX).2.1 h0 h1)))
      (Rg.steps_cons (Rg.plain rfl (s_call1 Tryd.func71 (by kernel_rfl) rfl OwnG.step (Rg.argC _) (fun W v0 hG h0 => by cases h0; exact c_whole 2 (by omega) (by omega) W)))
      (Rg.steps_cons (Rg.plain rfl (s_call2 Tryd.func40 (by kernel_rfl) rfl OwnG.step (Rg.argT 4 (by kernel_rfl)) (Rg.argT 5 (by kernel_rfl)) (fun W v0 v1 hG h0 h1 => c_quo ((unhide HT).below hG.bel) (unhide HX).2.2.1 (unhide HX).2.2.2 two_ne h0 h1)))
      Rg.steps_nil))))))) ?_
  intro v1 V1 hG1 hv1 hne1
  simp only [Rg.puts, List.take_succ_cons, List.take_zero, List.drop_succ_cons, List.drop_zero, Act.put, List.setIfInBounds_toArray, List.set_cons_zero, List.set_cons_succ]
  have e0 : v1 0 = .pointer (some ⟨w.heap.size, 0, none⟩) := hv1 0 (by decide)
  have e2 : v1 2 = .pointer (some ⟨w.heap.size, 6, none⟩) := hv1 2 (by decide)
  simp only [e0, e2]
  have hO := hG1.1
  refine tl_store (xs := []) (ys := [(w.heap.size, 74, [.q x, .q y])]) (pre := []) (old := [.v (.int .i64 0), .v (.bool false), .v (.slice none 0 0), .v (.int .i64 0), .v (.bool false), .v (.slice none 0 0)]) (new := [.q ((x + y) / Rat.divInt 2 1)]) (post := []) (b := w.heap.size + 1) (off := 0) store_q rfl (show AggT [.q ((x + y) / Rat.divInt 2 1)] V1 (v1 6) from hv1 6 (by decide)) hO rfl rfl rfl ?_
  intro U1_0 hO0 hk0
  replace hO : Own w [(w.heap.size + 1, 48, [.q ((x + y) / Rat.divInt 2 1)]), (w.heap.size, 74, [.q x, .q y])] U1_0 := hO0
  clear hO0
  clear HO
  have HO := hide hO
  clear hO hG1 hv1 hne1 hk0
  try clear e0 e2
  go_wp2_with fail
  exact end_c Tryd.results43 loadv_q rfl (unhide HO) (List.Mem.head _) rfl rfl
theorem c_ratT {W : World} {v0 : Value} {x : Rat} (h0 : AggT [.q x] W v0) : Calls Tryd.prog 23 #[v0] W (RetT (TupT [AggT [.v (.int .i64 (Wd.told x).n), .v (.int .i64 (Wd.told x).d)], Rg.EqT (.int .i64 (Wd.told x).e)]) W) :=
  (c_rat h0).mono fun e w' ⟨u, h1, h2, h3⟩ => ⟨u, h1, h2, by
    have h4 : u = _ := h3
    subst h4
    exact ⟨[_, _], rfl, _, _, rfl, agg_ofi2 _ _ _, _, _, rfl, rfl, rfl⟩⟩
set_option maxRecDepth 100000 in
set_option maxHeartbeats 16000000 in
theorem span_walk {x y : Rat} (xn xd xe yn yd ye r1 r2 r3 r4 re : Int) (w : World) (u0 : Value) (h0 : AggT [.q x, .q y] w u0)
    (cx : ∀ (W : World) (v0 : Value), AggT [.q x] W v0 → Calls Tryd.prog 23 #[v0] W (RetT (TupT [AggT [.v (.int .i64 xn), .v (.int .i64 xd)], Rg.EqT (.int .i64 xe)]) W))
    (cy : ∀ (W : World) (v0 : Value), AggT [.q y] W v0 → Calls Tryd.prog 23 #[v0] W (RetT (TupT [AggT [.v (.int .i64 yn), .v (.int .i64 yd)], Rg.EqT (.int .i64 ye)]) W))
    (hr : (xe ≠ 0 → r1 = 0 ∧ r2 = 0 ∧ r3 = 0 ∧ r4 = 0 ∧ xe = re) ∧ (ye ≠ 0 → r1 = 0 ∧ r2 = 0 ∧ r3 = 0 ∧ r4 = 0 ∧ ye = re) ∧ (xe = 0 → ye = 0 → xn = r1 ∧ xd = r2 ∧ yn = r3 ∧ yd = r4 ∧ re = 0)) :
    Calls Tryd.prog 47 #[u0] w (RetT (TupT [AggT [.v (.int .i64 r1), .v (.int .i64 r2), .v (.int .i64 r3), .v (.int .i64 r4)], Rg.EqT (.int .i64 re)]) w) := by
  have HCX := hide cx
  have HCY := hide cy
  have HR := hide hr
  clear cx cy hr
  obtain ⟨s0a, n0a, A0a, c0a, l0a, s0b, n0b, A0b, c0b, l0b, s0c, n0c, A0c, c0c, l0c, s0d, n0d, A0d, c0d, l0d, rfl, f0a, f0b, f0c, f0d⟩ := agg_qq h0
  go_enter Tryd.func47, Tryd.ntmps47
  go_upto_region 1 with fail
  have hO := (Own.push (T := 35) (ls := [.v (.int .i64 0), .v (.int .i64 0), .v (.int .i64 0), .v (.int .i64 0)]) (cs := [.int .i64 0, .int .i64 0, .int .i64 0, .int .i64 0]) (Own.push (T := 74) (ls := [.q x, .q y]) (cs := [.int .i64 s0a, .bool n0a, .slice A0a (List.length l0a) c0a, .int .i64 s0b, .bool n0b, .slice A0b (List.length l0b) c0b, .int .i64 s0c, .bool n0c, .slice A0c (List.length l0c) c0c, .int .i64 s0d, .bool n0d, .slice A0d (List.length l0d) c0d]) (Own.nil w) (LOk.q f0a f0b (LOk.q f0c f0d rfl)) (w.heap.size) rfl) (((LOk.vs w [.int .i64 0, .int .i64 0, .int .i64 0, .int .i64 0] rfl) : LOk w [.v (.int .i64 0), .v (.int .i64 0), .v (.int .i64 0), .v (.int .i64 0)] [.int .i64 0, .int .i64 0, .int .i64 0, .int .i64 0]).below (by repeat (first | exact Below.refl _ _ | refine below_alloc ?_ _))) (w.heap.size + 1) (by simp only [World.size_alloc]))
  generalize (w.alloc (.cells #[.int .i64 s0a, .bool n0a, .slice A0a (List.length l0a) c0a, .int .i64 s0b, .bool n0b, .slice A0b (List.length l0b) c0b, .int .i64 s0c, .bool n0c, .slice A0c (List.length l0c) c0c, .int .i64 s0d, .bool n0d, .slice A0d (List.length l0d) c0d] 74)).alloc (.cells #[.int .i64 0, .int .i64 0, .int .i64 0, .int .i64 0] 35) = W0 at *
  have HO := hide hO
  clear hO
  go_upto_region 1 with fail
  refine Rg.regionS 7 30 (Rg.pick [Rg.EqT (.pointer (some ⟨w.heap.size, 0, none⟩)), AggT [.q x], TupT [AggT [.v (.int .i64 xn), .v (.int .i64 xd)], Rg.EqT (.int .i64 xe)], TupT [AggT [.v (.int .i64 xn), .v (.int .i64 xd)], Rg.EqT (.int .i64 xe)], AggT [.v (.int .i64 xn), .v (.int .i64 xd)], Rg.EqT (.int .i64 xe), NewB 23 [.v (.int .i64 0), .v (.int .i64 0)] W0.heap.size]) (OwnG w [(w.heap.size + 1, 35, [.v (.int .i64 0), .v (.int .i64 0), .v (.int .i64 0), .v (.int .i64 0)]), (w.heap.size, 74, [.q x, .q y])] W0) Bel [6] (by kernel_rfl) rfl (Rg.Stabs.pick ⟨Rg.stab_eq _, stab_agg _, stab_tup ⟨(stab_agg _), (Rg.stab_eq _), trivial⟩, stab_tup ⟨(stab_agg _), (Rg.stab_eq _), trivial⟩, stab_agg _, Rg.stab_eq _, stab_new _ _ _, trivial⟩) (OwnG.begin (unhide HO))
    (Rg.steps_cons (Rg.plain rfl (s_addr_e0 (b := w.heap.size) (off := 0) rfl (Rg.argF (by kernel_rfl) rfl) rfl rfl))
      (Rg.steps_cons (Rg.plain rfl (s_load (b := w.heap.size) (off := 0) (TB := 74) (pre := []) (mid := [.q x]) (post := [.q y]) load_q rfl (Rg.argT 0 (by kernel_rfl)) (fun W h => OwnG.box (List.Mem.tail _ (List.Mem.head _)) h) rfl rfl rfl))
      (Rg.steps_cons (Rg.plain rfl (s_call1 Tryd.func23 (by kernel_rfl) rfl OwnG.step (Rg.argT 1 (by kernel_rfl)) (fun W v0 hG h0 => unhide HCX W v0 h0)))
      (Rg.steps_cons (Rg.plain rfl (s_move rfl (Rg.argT 2 (by kernel_rfl))))
      (Rg.steps_cons (Rg.plain rfl (s_extT (ts := [AggT [.v (.int .i64 xn), .v (.int .i64 xd)], Rg.EqT (.int .i64 xe)]) rfl (Rg.argT 3 (by kernel_rfl)) (of_decide_eq_true rfl) rfl))
      (Rg.steps_cons (Rg.plain rfl (s_extT (ts := [AggT [.v (.int .i64 xn), .v (.int .i64 xd)], Rg.EqT (.int .i64 xe)]) rfl (Rg.argT 3 (by kernel_rfl)) (of_decide_eq_true rfl) rfl))
      (Rg.steps_cons (Rg.plain rfl (s_alloc new_r rfl OwnG.step OwnG.size rfl (new_lt (by intro j hj; simp at hj; (repeat' (first | (rcases hj with rfl | hj))) <;> first | (subst hj; exact ⟨_, _, _, rfl⟩) | exact ⟨_, _, _, rfl⟩))))
      Rg.steps_nil))))))) ?_
  intro v1 V1 hG1 hv1 hne1
  simp only [Rg.puts, List.take_succ_cons, List.take_zero, List.drop_succ_cons, List.drop_zero, Act.put, List.setIfInBounds_toArray, List.set_cons_zero, List.set_cons_succ]
  have e0 : v1 0 = .pointer (some ⟨w.heap.size, 0, none⟩) := hv1 0 (by decide)
  have e5 : v1 5 = .int .i64 xe := hv1 5 (by decide)
  obtain ⟨b1_6, e6, hge6, hz6⟩ := (show NewB 23 [.v (.int .i64 0), .v (.int .i64 0)] W0.heap.size V1 (v1 6) from hv1 6 (by decide))
  simp only [e0, e5, e6]
  have hO := hG1.1
  replace hO := Own.add (unhide HO) hG1.2 hge6 hz6
  clear hge6 hz6
  refine tl_store (xs := []) (ys := [(w.heap.size + 1, 35, [.v (.int .i64 0), .v (.int .i64 0), .v (.int .i64 0), .v (.int .i64 0)]), (w.heap.size, 74, [.q x, .q y])]) (pre := []) (old := [.v (.int .i64 0), .v (.int .i64 0)]) (new := [.v (.int .i64 xn), .v (.int .i64 xd)]) (post := []) (b := b1_6) (off := 0) store_r rfl (show AggT [.v (.int .i64 xn), .v (.int .i64 xd)] V1 (v1 4) from hv1 4 (by decide)) hO rfl rfl rfl ?_
  intro U1_0 hO0 hk0
  replace hO : Own w [(b1_6, 23, [.v (.int .i64 xn), .v (.int .i64 xd)]), (w.heap.size + 1, 35, [.v (.int .i64 0), .v (.int .i64 0), .v (.int .i64 0), .v (.int .i64 0)]), (w.heap.size, 74, [.q x, .q y])] U1_0 := hO0
  clear hO0
  clear HO
  have HO := hide hO
  clear hO hG1 hv1 hne1 hk0
  try clear e0 e5 e6
  by_cases g : xe = 0
  · have hx0 := g
    have d1 : (xe != 0) = false := by simp [bne, beq_iff_eq.2 g]
    clear g
    go_upto_region 2 with fail
    refine Rg.regionS 2 30 (Rg.pick [Rg.EqT (.int .i64 xe), Rg.EqT (.bool false)]) (OwnG w [(b1_6, 23, [.v (.int .i64 xn), .v (.int .i64 xd)]), (w.heap.size + 1, 35, [.v (.int .i64 0), .v (.int .i64 0), .v (.int .i64 0), .v (.int .i64 0)]), (w.heap.size, 74, [.q x, .q y])] U1_0) Bel [] (by kernel_rfl) rfl (Rg.Stabs.pick ⟨Rg.stab_eq _, Rg.stab_eq _, trivial⟩) (OwnG.begin (unhide HO))
      (Rg.steps_cons (Rg.plain rfl (s_move rfl (Rg.argF (by kernel_rfl) rfl)))
        (Rg.steps_cons (Rg.plain rfl (s_neqE rfl (Rg.argT 0 (by kernel_rfl)) (Rg.argC _) rfl d1))
        Rg.steps_nil)) ?_
    intro v2 V2 hG2 hv2 hne2
    simp only [Rg.puts, List.take_succ_cons, List.take_zero, List.drop_succ_cons, List.drop_zero, Act.put, List.setIfInBounds_toArray, List.set_cons_zero, List.set_cons_succ]
    have e0 : v2 0 = .int .i64 xe := hv2 0 (by decide)
    have e1 : v2 1 = .bool false := hv2 1 (by decide)
    simp only [e0, e1]
    have hO := hG2.1
    clear HO
    have HO := hide hO
    clear hO hG2 hv2 hne2
    try clear e0 e1
    go_upto_region 4 with fail
    refine Rg.regionS 7 30 (Rg.pick [Rg.EqT (.pointer (some ⟨w.heap.size, 6, none⟩)), AggT [.q y], TupT [AggT [.v (.int .i64 yn), .v (.int .i64 yd)], Rg.EqT (.int .i64 ye)], TupT [AggT [.v (.int .i64 yn), .v (.int .i64 yd)], Rg.EqT (.int .i64 ye)], AggT [.v (.int .i64 yn), .v (.int .i64 yd)], Rg.EqT (.int .i64 ye), NewB 23 [.v (.int .i64 0), .v (.int .i64 0)] V2.heap.size]) (OwnG w [(b1_6, 23, [.v (.int .i64 xn), .v (.int .i64 xd)]), (w.heap.size + 1, 35, [.v (.int .i64 0), .v (.int .i64 0), .v (.int .i64 0), .v (.int .i64 0)]), (w.heap.size, 74, [.q x, .q y])] V2) Bel [6] (by kernel_rfl) rfl (Rg.Stabs.pick ⟨Rg.stab_eq _, stab_agg _, stab_tup ⟨(stab_agg _), (Rg.stab_eq _), trivial⟩, stab_tup ⟨(stab_agg _), (Rg.stab_eq _), trivial⟩, stab_agg _, Rg.stab_eq _, stab_new _ _ _, trivial⟩) (OwnG.begin (unhide HO))
      (Rg.steps_cons (Rg.plain rfl (s_addr_e1 (b := w.heap.size) (off := 0) rfl (Rg.argF (by kernel_rfl) rfl) rfl rfl))
        (Rg.steps_cons (Rg.plain rfl (s_load (b := w.heap.size) (off := 6) (TB := 74) (pre := [.q x]) (mid := [.q y]) (post := []) load_q rfl (Rg.argT 0 (by kernel_rfl)) (fun W h => OwnG.box (List.Mem.tail _ (List.Mem.tail _ (List.Mem.head _))) h) rfl rfl rfl))
        (Rg.steps_cons (Rg.plain rfl (s_call1 Tryd.func23 (by kernel_rfl) rfl OwnG.step (Rg.argT 1 (by kernel_rfl)) (fun W v0 hG h0 => unhide HCY W v0 h0)))
        (Rg.steps_cons (Rg.plain rfl (s_move rfl (Rg.argT 2 (by kernel_rfl))))
        (Rg.steps_cons (Rg.plain rfl (s_extT (ts := [AggT [.v (.int .i64 yn), .v (.int .i64 yd)], Rg.EqT (.int .i64 ye)]) rfl (Rg.argT 3 (by kernel_rfl)) (of_decide_eq_true rfl) rfl))
        (Rg.steps_cons (Rg.plain rfl (s_extT (ts := [AggT [.v (.int .i64 yn), .v (.int .i64 yd)], Rg.EqT (.int .i64 ye)]) rfl (Rg.argT 3 (by kernel_rfl)) (of_decide_eq_true rfl) rfl))
        (Rg.steps_cons (Rg.plain rfl (s_alloc new_r rfl OwnG.step OwnG.size rfl (new_lt (by intro j hj; simp at hj; (repeat' (first | (rcases hj with rfl | hj))) <;> first | (subst hj; exact ⟨_, _, _, rfl⟩) | exact ⟨_, _, _, rfl⟩))))
        Rg.steps_nil))))))) ?_
    intro v3 V3 hG3 hv3 hne3
    simp only [Rg.puts, List.take_succ_cons, List.take_zero, List.drop_succ_cons, List.drop_zero, Act.put, List.setIfInBounds_toArray, List.set_cons_zero, List.set_cons_succ]
    have e0 : v3 0 = .pointer (some ⟨w.heap.size, 6, none⟩) := hv3 0 (by decide)
    have e5 : v3 5 = .int .i64 ye := hv3 5 (by decide)
    obtain ⟨b3_6, e6, hge6, hz6⟩ := (show NewB 23 [.v (.int .i64 0), .v (.int .i64 0)] V2.heap.size V3 (v3 6) from hv3 6 (by decide))
    simp only [e0, e5, e6]
    have hO := hG3.1
    replace hO := Own.add (unhide HO) hG3.2 hge6 hz6
    clear hge6 hz6
    refine tl_store (xs := []) (ys := [(b1_6, 23, [.v (.int .i64 xn), .v (.int .i64 xd)]), (w.heap.size + 1, 35, [.v (.int .i64 0), .v (.int .i64 0), .v (.int .i64 0), .v (.int .i64 0)]), (w.heap.size, 74, [.q x, .q y])]) (pre := []) (old := [.v (.int .i64 0), .v (.int .i64 0)]) (new := [.v (.int .i64 yn), .v (.int .i64 yd)]) (post := []) (b := b3_6) (off := 0) store_r rfl (show AggT [.v (.int .i64 yn), .v (.int .i64 yd)] V3 (v3 4) from hv3 4 (by decide)) hO rfl rfl rfl ?_
    intro U3_0 hO0 hk0
    replace hO : Own w [(b3_6, 23, [.v (.int .i64 yn), .v (.int .i64 yd)]), (b1_6, 23, [.v (.int .i64 xn), .v (.int .i64 xd)]), (w.heap.size + 1, 35, [.v (.int .i64 0), .v (.int .i64 0), .v (.int .i64 0), .v (.int .i64 0)]), (w.heap.size, 74, [.q x, .q y])] U3_0 := hO0
    clear hO0
    clear HO
    have HO := hide hO
    clear hO hG3 hv3 hne3 hk0
    try clear e0 e5 e6
    by_cases g2 : ye = 0
    · have d2 : (ye != 0) = false := by simp [bne, beq_iff_eq.2 g2]
      have hr := (unhide HR).2.2 hx0 g2
      clear HR
      obtain ⟨rfl, rfl, rfl, rfl, rfl⟩ := hr
      go_upto_region 5 with fail
      refine Rg.regionS 2 30 (Rg.pick [Rg.EqT (.int .i64 ye), Rg.EqT (.bool false)]) (OwnG w [(b3_6, 23, [.v (.int .i64 yn), .v (.int .i64 yd)]), (b1_6, 23, [.v (.int .i64 xn), .v (.int .i64 xd)]), (w.heap.size + 1, 35, [.v (.int .i64 0), .v (.int .i64 0), .v (.int .i64 0), .v (.int .i64 0)]), (w.heap.size, 74, [.q x, .q y])] U3_0) Bel [] (by kernel_rfl) rfl (Rg.Stabs.pick ⟨Rg.stab_eq _, Rg.stab_eq _, trivial⟩) (OwnG.begin (unhide HO))
        (Rg.steps_cons (Rg.plain rfl (s_move rfl (Rg.argF (by kernel_rfl) rfl)))
          (Rg.steps_cons (Rg.plain rfl (s_neqE rfl (Rg.argT 0 (by kernel_rfl)) (Rg.argC _) rfl d2))
          Rg.steps_nil)) ?_
      intro v4 V4 hG4 hv4 hne4
      simp only [Rg.puts, List.take_succ_cons, List.take_zero, List.drop_succ_cons, List.drop_zero, Act.put, List.setIfInBounds_toArray, List.set_cons_zero, List.set_cons_succ]
      have e0 : v4 0 = .int .i64 ye := hv4 0 (by decide)
      have e1 : v4 1 = .bool false := hv4 1 (by decide)
      simp only [e0, e1]
      have hO := hG4.1
      clear HO
      have HO := hide hO
      clear hO hG4 hv4 hne4
      try clear e0 e1
      go_upto_region 7 with fail
      refine Rg.regionS 3 30 (Rg.pick [AggT [.v (.int .i64 xn), .v (.int .i64 xd)], AggT [.v (.int .i64 yn), .v (.int .i64 yd)], AggT [.v (.int .i64 xn), .v (.int .i64 xd), .v (.int .i64 yn), .v (.int .i64 yd)]]) (OwnG w [(b3_6, 23, [.v (.int .i64 yn), .v (.int .i64 yd)]), (b1_6, 23, [.v (.int .i64 xn), .v (.int .i64 xd)]), (w.heap.size + 1, 35, [.v (.int .i64 0), .v (.int .i64 0), .v (.int .i64 0), .v (.int .i64 0)]), (w.heap.size, 74, [.q x, .q y])] V4) Bel [] (by kernel_rfl) rfl (Rg.Stabs.pick ⟨stab_agg _, stab_agg _, stab_agg _, trivial⟩) (OwnG.begin (unhide HO))
        (Rg.steps_cons (Rg.plain rfl (s_load (b := b1_6) (off := 0) (TB := 23) (pre := []) (mid := [.v (.int .i64 xn), .v (.int .i64 xd)]) (post := []) load_r rfl (Rg.argF (by kernel_rfl) rfl) (fun W h => OwnG.box (List.Mem.tail _ (List.Mem.head _)) h) rfl rfl rfl))
          (Rg.steps_cons (Rg.plain rfl (s_load (b := b3_6) (off := 0) (TB := 23) (pre := []) (mid := [.v (.int .i64 yn), .v (.int .i64 yd)]) (post := []) load_r rfl (Rg.argF (by kernel_rfl) rfl) (fun W h => OwnG.box (List.Mem.head _) h) rfl rfl rfl))
          (Rg.steps_cons (Rg.plain rfl (s_build2 build_s rfl (Rg.argT 0 (by kernel_rfl)) (Rg.argT 1 (by kernel_rfl)) rfl rfl rfl))
          Rg.steps_nil))) ?_
      intro v5 V5 hG5 hv5 hne5
      simp only [Rg.puts, List.take_succ_cons, List.take_zero, List.drop_succ_cons, List.drop_zero, Act.put, List.setIfInBounds_toArray, List.set_cons_zero, List.set_cons_succ]
      have hO := hG5.1
      refine tl_store (xs := [(b3_6, 23, [.v (.int .i64 yn), .v (.int .i64 yd)]), (b1_6, 23, [.v (.int .i64 xn), .v (.int .i64 xd)])]) (ys := [(w.heap.size, 74, [.q x, .q y])]) (pre := []) (old := [.v (.int .i64 0), .v (.int .i64 0), .v (.int .i64 0), .v (.int .i64 0)]) (new := [.v (.int .i64 xn), .v (.int .i64 xd), .v (.int .i64 yn), .v (.int .i64 yd)]) (post := []) (b := w.heap.size + 1) (off := 0) store_s rfl (show AggT [.v (.int .i64 xn), .v (.int .i64 xd), .v (.int .i64 yn), .v (.int .i64 yd)] V5 (v5 2) from hv5 2 (by decide)) hO rfl rfl rfl ?_
      intro U5_0 hO0 hk0
      replace hO : Own w [(b3_6, 23, [.v (.int .i64 yn), .v (.int .i64 yd)]), (b1_6, 23, [.v (.int .i64 xn), .v (.int .i64 xd)]), (w.heap.size + 1, 35, [.v (.int .i64 xn), .v (.int .i64 xd), .v (.int .i64 yn), .v (.int .i64 yd)]), (w.heap.size, 74, [.q x, .q y])] U5_0 := hO0
      clear hO0
      clear HO
      have HO := hide hO
      clear hO hG5 hv5 hne5 hk0
      go_wp2_with fail
      exact end_ct Tryd.results47 loadv_s rfl rfl (unhide HO) (List.Mem.tail _ (List.Mem.tail _ (List.Mem.head _))) rfl rfl
    · have d2 : (ye != 0) = true := by simp [bne, beq_eq_false_iff_ne.2 g2]
      have hr := (unhide HR).2.1 g2
      clear HR
      obtain ⟨rfl, rfl, rfl, rfl, rfl⟩ := hr
      go_upto_region 5 with fail
      refine Rg.regionS 2 30 (Rg.pick [Rg.EqT (.int .i64 ye), Rg.EqT (.bool true)]) (OwnG w [(b3_6, 23, [.v (.int .i64 yn), .v (.int .i64 yd)]), (b1_6, 23, [.v (.int .i64 xn), .v (.int .i64 xd)]), (w.heap.size + 1, 35, [.v (.int .i64 0), .v (.int .i64 0), .v (.int .i64 0), .v (.int .i64 0)]), (w.heap.size, 74, [.q x, .q y])] U3_0) Bel [] (by kernel_rfl) rfl (Rg.Stabs.pick ⟨Rg.stab_eq _, Rg.stab_eq _, trivial⟩) (OwnG.begin (unhide HO))
        (Rg.steps_cons (Rg.plain rfl (s_move rfl (Rg.argF (by kernel_rfl) rfl)))
          (Rg.steps_cons (Rg.plain rfl (s_neqE rfl (Rg.argT 0 (by kernel_rfl)) (Rg.argC _) rfl d2))
          Rg.steps_nil)) ?_
      intro v4 V4 hG4 hv4 hne4
      simp only [Rg.puts, List.take_succ_cons, List.take_zero, List.drop_succ_cons, List.drop_zero, Act.put, List.setIfInBounds_toArray, List.set_cons_zero, List.set_cons_succ]
      have e0 : v4 0 = .int .i64 ye := hv4 0 (by decide)
      have e1 : v4 1 = .bool true := hv4 1 (by decide)
      simp only [e0, e1]
      have hO := hG4.1
      clear HO
      have HO := hide hO
      clear hO hG4 hv4 hne4
      try clear e0 e1
      go_upto_region 6 with fail
      refine Rg.regionS 2 30 (Rg.pick [AggT [.v (.int .i64 0), .v (.int .i64 0), .v (.int .i64 0), .v (.int .i64 0)], Rg.EqT (.int .i64 ye)]) (OwnG w [(b3_6, 23, [.v (.int .i64 yn), .v (.int .i64 yd)]), (b1_6, 23, [.v (.int .i64 xn), .v (.int .i64 xd)]), (w.heap.size + 1, 35, [.v (.int .i64 0), .v (.int .i64 0), .v (.int .i64 0), .v (.int .i64 0)]), (w.heap.size, 74, [.q x, .q y])] V4) Bel [] (by kernel_rfl) rfl (Rg.Stabs.pick ⟨stab_agg _, Rg.stab_eq _, trivial⟩) (OwnG.begin (unhide HO))
        (Rg.steps_cons (Rg.plain rfl (s_build0 build0_s rfl rfl rfl))
          (Rg.steps_cons (Rg.plain rfl (s_move rfl (Rg.argF (by kernel_rfl) rfl)))
          Rg.steps_nil)) ?_
      intro v5 V5 hG5 hv5 hne5
      simp only [Rg.puts, List.take_succ_cons, List.take_zero, List.drop_succ_cons, List.drop_zero, Act.put, List.setIfInBounds_toArray, List.set_cons_zero, List.set_cons_succ]
      have e1 : v5 1 = .int .i64 ye := hv5 1 (by decide)
      simp only [e1]
      have hO := hG5.1
      refine tl_store (xs := [(b3_6, 23, [.v (.int .i64 yn), .v (.int .i64 yd)]), (b1_6, 23, [.v (.int .i64 xn), .v (.int .i64 xd)])]) (ys := [(w.heap.size, 74, [.q x, .q y])]) (pre := []) (old := [.v (.int .i64 0), .v (.int .i64 0), .v (.int .i64 0), .v (.int .i64 0)]) (new := [.v (.int .i64 0), .v (.int .i64 0), .v (.int .i64 0), .v (.int .i64 0)]) (post := []) (b := w.heap.size + 1) (off := 0) store_s rfl (show AggT [.v (.int .i64 0), .v (.int .i64 0), .v (.int .i64 0), .v (.int .i64 0)] V5 (v5 0) from hv5 0 (by decide)) hO rfl rfl rfl ?_
      intro U5_0 hO0 hk0
      replace hO : Own w [(b3_6, 23, [.v (.int .i64 yn), .v (.int .i64 yd)]), (b1_6, 23, [.v (.int .i64 xn), .v (.int .i64 xd)]), (w.heap.size + 1, 35, [.v (.int .i64 0), .v (.int .i64 0), .v (.int .i64 0), .v (.int .i64 0)]), (w.heap.size, 74, [.q x, .q y])] U5_0 := hO0
      clear hO0
      clear HO
      have HO := hide hO
      clear hO hG5 hv5 hne5 hk0
      try clear e1
      go_wp2_with fail
      exact end_ct Tryd.results47 loadv_s rfl rfl (unhide HO) (List.Mem.tail _ (List.Mem.tail _ (List.Mem.head _))) rfl rfl
  · have d1 : (xe != 0) = true := by simp [bne, beq_eq_false_iff_ne.2 g]
    have hr := (unhide HR).1 g
    clear HR
    obtain ⟨rfl, rfl, rfl, rfl, rfl⟩ := hr
    go_upto_region 2 with fail
    refine Rg.regionS 2 30 (Rg.pick [Rg.EqT (.int .i64 xe), Rg.EqT (.bool true)]) (OwnG w [(b1_6, 23, [.v (.int .i64 xn), .v (.int .i64 xd)]), (w.heap.size + 1, 35, [.v (.int .i64 0), .v (.int .i64 0), .v (.int .i64 0), .v (.int .i64 0)]), (w.heap.size, 74, [.q x, .q y])] U1_0) Bel [] (by kernel_rfl) rfl (Rg.Stabs.pick ⟨Rg.stab_eq _, Rg.stab_eq _, trivial⟩) (OwnG.begin (unhide HO))
      (Rg.steps_cons (Rg.plain rfl (s_move rfl (Rg.argF (by kernel_rfl) rfl)))
        (Rg.steps_cons (Rg.plain rfl (s_neqE rfl (Rg.argT 0 (by kernel_rfl)) (Rg.argC _) rfl d1))
        Rg.steps_nil)) ?_
    intro v2 V2 hG2 hv2 hne2
    simp only [Rg.puts, List.take_succ_cons, List.take_zero, List.drop_succ_cons, List.drop_zero, Act.put, List.setIfInBounds_toArray, List.set_cons_zero, List.set_cons_succ]
    have e0 : v2 0 = .int .i64 xe := hv2 0 (by decide)
    have e1 : v2 1 = .bool true := hv2 1 (by decide)
    simp only [e0, e1]
    have hO := hG2.1
    clear HO
    have HO := hide hO
    clear hO hG2 hv2 hne2
    try clear e0 e1
    go_upto_region 3 with fail
    refine Rg.regionS 2 30 (Rg.pick [AggT [.v (.int .i64 0), .v (.int .i64 0), .v (.int .i64 0), .v (.int .i64 0)], Rg.EqT (.int .i64 xe)]) (OwnG w [(b1_6, 23, [.v (.int .i64 xn), .v (.int .i64 xd)]), (w.heap.size + 1, 35, [.v (.int .i64 0), .v (.int .i64 0), .v (.int .i64 0), .v (.int .i64 0)]), (w.heap.size, 74, [.q x, .q y])] V2) Bel [] (by kernel_rfl) rfl (Rg.Stabs.pick ⟨stab_agg _, Rg.stab_eq _, trivial⟩) (OwnG.begin (unhide HO))
      (Rg.steps_cons (Rg.plain rfl (s_build0 build0_s rfl rfl rfl))
        (Rg.steps_cons (Rg.plain rfl (s_move rfl (Rg.argF (by kernel_rfl) rfl)))
        Rg.steps_nil)) ?_
    intro v3 V3 hG3 hv3 hne3
    simp only [Rg.puts, List.take_succ_cons, List.take_zero, List.drop_succ_cons, List.drop_zero, Act.put, List.setIfInBounds_toArray, List.set_cons_zero, List.set_cons_succ]
    have e1 : v3 1 = .int .i64 xe := hv3 1 (by decide)
    simp only [e1]
    have hO := hG3.1
    refine tl_store (xs := [(b1_6, 23, [.v (.int .i64 xn), .v (.int .i64 xd)])]) (ys := [(w.heap.size, 74, [.q x, .q y])]) (pre := []) (old := [.v (.int .i64 0), .v (.int .i64 0), .v (.int .i64 0), .v (.int .i64 0)]) (new := [.v (.int .i64 0), .v (.int .i64 0), .v (.int .i64 0), .v (.int .i64 0)]) (post := []) (b := w.heap.size + 1) (off := 0) store_s rfl (show AggT [.v (.int .i64 0), .v (.int .i64 0), .v (.int .i64 0), .v (.int .i64 0)] V3 (v3 0) from hv3 0 (by decide)) hO rfl rfl rfl ?_
    intro U3_0 hO0 hk0
    replace hO : Own w [(b1_6, 23, [.v (.int .i64 xn), .v (.int .i64 xd)]), (w.heap.size + 1, 35, [.v (.int .i64 0), .v (.int .i64 0), .v (.int .i64 0), .v (.int .i64 0)]), (w.heap.size, 74, [.q x, .q y])] U3_0 := hO0
    clear hO0
    clear HO
    have HO := hide hO
    clear hO hG3 hv3 hne3 hk0
    try clear e1
    go_wp2_with fail
    exact end_ct Tryd.results47 loadv_s rfl rfl (unhide HO) (List.Mem.tail _ (List.Mem.head _)) rfl rfl
/-- A span as it is told. -/
structure ToldS where
  a : Int
  b : Int
  c : Int
  d : Int
  e : Int
def toldS (x y : Rat) : ToldS := if Wd.fits x ∧ Wd.fits y then ⟨x.num, x.den, y.num, y.den, 0⟩ else ⟨0, 0, 0, 0, 3⟩
abbrev SpT (t : ToldS) : World → Value → Prop := TupT [AggT [.v (.int .i64 t.a), .v (.int .i64 t.b), .v (.int .i64 t.c), .v (.int .i64 t.d)], Rg.EqT (.int .i64 t.e)]
theorem c_told {x y : Rat} (w : World) (u0 : Value) (h0 : AggT [.q x, .q y] w u0) : Calls Tryd.prog 47 #[u0] w (RetT (SpT (toldS x y)) w) := by
  refine span_walk _ _ _ _ _ _ _ _ _ _ _ w u0 h0 (fun W v h => c_ratT h) (fun W v h => c_ratT h) ?_
  unfold toldS Wd.told
  by_cases f1 : Wd.fits x <;> by_cases f2 : Wd.fits y <;> simp [f1, f2]
end Sb

end Go.Proofs.YtfbcdfoohpkfeaaDoor
/- Stores as steps of a region that draws its order. -/
namespace Go.Proofs.YtfbcdfoohpkfeaaDoor
open Go.RowKit

namespace Sb
theorem ent_uniq : ∀ {bs : List Ent} {b : Nat} {x y : TypeId × List Leaf}, (bs.map Prod.fst).Nodup → (b, x) ∈ bs → (b, y) ∈ bs → x = y
  | [], _, _, _, _, h, _ => by cases h
  | e :: bs, b, x, y, hn, hx, hy => by
    rw [List.map_cons, List.nodup_cons] at hn
    rcases List.mem_cons.1 hx with h1 | h1 <;> rcases List.mem_cons.1 hy with h2 | h2
    · rw [← h1] at h2; cases h2; rfl
    · rw [← h1] at hn; exact absurd (List.mem_map.2 ⟨_, h2, rfl⟩) hn.1
    · rw [← h2] at hn; exact absurd (List.mem_map.2 ⟨_, h1, rfl⟩) hn.1
    · exact ent_uniq hn.2 h1 h2
end Sb
namespace Sb
/-- The blocks stay as they are, or one of the two targets is filled. -/
def ES (e1 e2 : Ent) (w w' : World) : Prop := Bel w w' ∨ ∃ (e : Ent) (us cs : List Value), (e = e1 ∨ e = e2) ∧ LOk w e.2.2 us ∧ w.heap[e.1]? = some (.cells cs.toArray e.2.1 (0, 0)) ∧ NoWL cs ∧ us.length = cs.length ∧ w' = setM w e.1 0 us
theorem ES.refl (e1 e2 : Ent) (w : World) : ES e1 e2 w w := .inl (Below.refl _ _)
theorem stabS_eq {e1 e2 : Ent} (c : Value) : Rg.Stab (ES e1 e2) (Rg.EqT c) := fun _ _ _ _ h => h
theorem stabS_agg {e1 e2 : Ent} (ls : List Leaf) : Rg.Stab (ES e1 e2) (AggT ls) := by
  rintro w w' v (hb | ⟨e, us, cs, _, h1, h2, h3, h4, rfl⟩) h
  · exact stab_agg ls _ _ _ hb h
  · obtain ⟨ds, rfl, h⟩ := h
    exact ⟨ds, rfl, h.upto h2 h3.arr (setM_grown e.1 us 0 w w (grown_refl _ _))⟩
theorem TupOk.stab {E : World → World → Prop} {W W' : World} (hb : E W W') : ∀ {ts : List (World → Value → Prop)} {vs : List Value}, Rg.Stabs E ts → TupOk W ts vs → TupOk W' ts vs
  | [], _, _, h => h
  | _ :: ts, _, hs, ⟨u, r, e, h1, h2⟩ => ⟨u, r, e, hs.1 _ _ _ hb h1, TupOk.stab hb (ts := ts) hs.2 h2⟩
theorem stabS_tup {e1 e2 : Ent} {ts : List (World → Value → Prop)} (hs : Rg.Stabs (ES e1 e2) ts) : Rg.Stab (ES e1 e2) (TupT ts) := by
  rintro w w' v hb ⟨vs, rfl, h⟩
  exact ⟨vs, rfl, h.stab hb hs⟩
/-- A target is filled. -/
def StT (e : Ent) : World → Value → Prop := fun W _ => BoxL W e.1 e.2.1 e.2.2
theorem setM_whole {W : World} {b : Nat} {T : TypeId} {us cs : List Value} (h : W.heap[b]? = some (.cells cs.toArray T (0, 0))) (hl : us.length = cs.length) : (setM W b 0 us).heap[b]? = some (.cells us.toArray T (0, 0)) := by
  have := setM_block (T := T) us cs [] [] W hl (by simpa using h)
  simpa using this
theorem stabS_st {e1 e2 e : Ent} (h12 : e1.1 ≠ e2.1 ∨ e1 = e2) (he : e = e1 ∨ e = e2) : Rg.Stab (ES e1 e2) (StT e) := by
  rintro w w' v (hb | ⟨e', us, cs, h0, h1, h2, h3, h4, rfl⟩) h
  · exact BoxL.below h hb
  · have hg := setM_grown e'.1 us 0 w w (grown_refl _ _)
    by_cases hbb : e.1 = e'.1
    · have hee : e = e' := by
        rcases he with rfl | rfl <;> rcases h0 with rfl | rfl
        · rfl
        · rcases h12 with h12 | h12
          · exact absurd hbb h12
          · exact h12
        · rcases h12 with h12 | h12
          · exact absurd hbb.symm h12
          · exact h12.symm
        · rfl
      subst hee
      exact ⟨us, setM_whole h2 h4, h1.upto h2 h3.arr hg⟩
    · obtain ⟨ds, g1, g2⟩ := h
      exact ⟨ds, (hg.block e.1 (lt_of_block g1) (fun x => hbb (by injection x))).trans g1, g2.upto h2 h3.arr hg⟩
/-- What holds of the world all along. -/
structure GS (w : World) (bs : List Ent) (e1 e2 : Ent) (W : World) : Prop where
  bel : Below w.heap.size w W
  box : ∀ b T ls, (b, T, ls) ∈ bs → w.heap.size ≤ b ∧ (BoxL W b T ls ∨ ∃ e : Ent, (e = e1 ∨ e = e2) ∧ e.1 = b ∧ BoxL W b T e.2.2)
theorem GS.step {w : World} {bs : List Ent} {e1 e2 : Ent} : ∀ W W', GS w bs e1 e2 W → Bel W W' → GS w bs e1 e2 W' := fun W W' h hb => ⟨below_step' h.bel hb, fun b T ls hm => by
  obtain ⟨h1, h2⟩ := h.box b T ls hm
  refine ⟨h1, ?_⟩
  rcases h2 with h2 | ⟨e, h3, h4, h5⟩
  · exact .inl (h2.below hb)
  · exact .inr ⟨e, h3, h4, h5.below hb⟩⟩
theorem GS.start {w V : World} {bs : List Ent} {e1 e2 : Ent} (h : Own w bs V) : GS w bs e1 e2 V.drew := ⟨(Own.step _ _ h (Bel.drew V)).bel, fun b T ls hm => ⟨(h.box b T ls hm).1, .inl ((h.box b T ls hm).2.below (Bel.drew V))⟩⟩
theorem GS.get {w W : World} {bs : List Ent} {e1 e2 : Ent} {b : Nat} {T : TypeId} {ls : List Leaf} (hm : (b, T, ls) ∈ bs) (h1 : e1.1 = b → e1.2.2 = ls) (h2 : e2.1 = b → e2.2.2 = ls) (h : GS w bs e1 e2 W) : BoxL W b T ls := by
  rcases (h.box b T ls hm).2 with g | ⟨e, rfl | rfl, g1, g2⟩
  · exact g
  · rwa [h1 g1] at g2
  · rwa [h2 g1] at g2
theorem step_mono {P : Program} {Q : Exit → Act → World → Prop} {l : List Oper} {n : Nat} {T : Nat → World → Value → Prop} {G : World → Prop} {e1 e2 : Ent} {al : List Nat} {a0 : Act} {k : Nat} {o : Oper} (h : Rg.Step P Q l n T G Bel al a0 k o) : Rg.Step P Q l n T G (ES e1 e2) al a0 k o := by
  intro a w hG hO hN
  refine Oper.wp_mono (fun a' w' hK => ?_) (h a w hG hO hN)
  obtain ⟨v, h1, h2, h3, h4, h5⟩ := hK
  exact ⟨v, h1, h2, .inl h3, h4, h5⟩
theorem s_storeS {P : Program} {Q : Exit → Act → World → Prop} {l : List Oper} {n : Nat} {T : Nat → World → Value → Prop} {w0 : World} {bs : List Ent} {e1 e2 : Ent} {al : List Nat} {a0 : Act} {k m : Nat} {TL TB : TypeId} {p x : Operand} {b : Nat} {old new : List Leaf} {ty : TypeId} {pos : String} {af : Array Edge} {gd : Option (Nat × Bool)}
    (hS : StoreOk P TL m) (hal : al.contains k = false) (hp : Rg.ArgOk l n T a0 k p (Rg.EqT (.pointer (some ⟨b, 0, none⟩)))) (hx : Rg.ArgOk l n T a0 k x (AggT new))
    (hm : (b, TB, old) ∈ bs) (hnd : (bs.map Prod.fst).Nodup) (he : ((b, TB, new) : Ent) = e1 ∨ ((b, TB, new) : Ent) = e2) (h12 : e1.1 ≠ e2.1 ∨ e1 = e2) (hn : lsize new = m) (ho : lsize old = m) (hT : T k = StT (b, TB, new)) :
    Rg.Step P Q l n T (GS w0 bs e1 e2) (ES e1 e2) al a0 k { dst := none, op := .store TL p x, type := ty, pos := pos, after := af, guard := gd } := by
  intro a w hG hO hN
  obtain ⟨us, ex, hu⟩ := hx a w hO hN
  obtain ⟨hge, hbox⟩ := hG.box b TB old hm
  have hB : ∃ ls, lsize ls = m ∧ BoxL w b TB ls := by
    rcases hbox with g | ⟨e, ge, gb, g⟩
    · exact ⟨old, ho, g⟩
    · refine ⟨e.2.2, ?_, g⟩
      have : e = ((b, TB, new) : Ent) := by
        rcases ge with rfl | rfl <;> rcases he with rfl | rfl
        · rfl
        · rcases h12 with h12 | h12
          · exact absurd gb h12
          · exact h12
        · rcases h12 with h12 | h12
          · exact absurd gb.symm h12
          · exact h12.symm
        · rfl
      rw [this]; exact hn
  obtain ⟨ls, hls, cs, hb, hcs⟩ := hB
  have hlen : us.length = cs.length := by rw [hu.len, hcs.len, hn, hls]
  have hr := hS a.eval w none p x b 0 cs TB us ty pos af gd (by rw [hu.len, hn]) (fun u h => (hu.noW u h).2) hb (by rw [hcs.len, hls]; omega) (hp a w hO hN) ex
  unfold Oper.wp
  rw [hr]
  have hg := setM_grown b us 0 w w (grown_refl _ _)
  have hnw := hcs.noW
  refine ⟨undef, rfl, ⟨hG.bel.grown hg hG.bel.size (fun k hk => by injection hk with hk; omega), fun b' T' ls' hm' => ?_⟩, .inr ⟨(b, TB, new), us, cs, by rcases he with h | h; exact .inl h; exact .inr h, hu, hb, hnw, hlen, rfl⟩, ?_, fun h => by rw [hal] at h; cases h⟩
  · obtain ⟨k1, k2⟩ := hG.box b' T' ls' hm'
    refine ⟨k1, ?_⟩
    by_cases hbb : b' = b
    · subst hbb
      have : (T', ls') = (TB, old) := by
        exact ent_uniq hnd hm' hm
      obtain ⟨rfl, rfl⟩ := Prod.mk.inj this
      exact .inr ⟨(b', T', new), by rcases he with h | h; exact .inl h; exact .inr h, rfl, us, setM_whole hb hlen, hu.upto hb hnw.arr hg⟩
    · have keep : ∀ ls, BoxL w b' T' ls → BoxL (setM w b 0 us) b' T' ls := fun ls ⟨ds, g1, g2⟩ => ⟨ds, (hg.block b' (lt_of_block g1) (fun x => hbb (by injection x))).trans g1, g2.upto hb hnw.arr hg⟩
      rcases k2 with k2 | ⟨e, k3, k4, k5⟩
      · exact .inl (keep _ k2)
      · exact .inr ⟨e, k3, k4, keep _ k5⟩
  · rw [hT]
    exact ⟨us, setM_whole hb hlen, hu.upto hb hnw.arr hg⟩
end Sb

end Go.Proofs.YtfbcdfoohpkfeaaDoor
