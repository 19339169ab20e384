/- Part 13 of the texts beneath a law of layer 1: Ps, RfTold, RfOf, RfQCmp, RfCmpD, RatCmp, PsT, ArOk, LsA, Frame. -/
import Derived.Test.YtadclbankpmebaaDoorCe12
import Derived.Test.YtadclbankpmebaaDoorRows
import Derived.ProofKit
import Derived.OpenShut
import Derived.LaidMore
import Derived.Lay
import Derived.Lib.SmallJoins
import Derived.Stop.Joined
/- The program's simplest number between two numbers above nought. -/
namespace Go.Proofs.YtadclbankpmebaaDoor
open Go.RowKit

theorem psimp_any : ∀ (f : Nat) (a b c d : Nat) (w : World), Wd.SimpOk a b c d → b + d ≤ f → a ≤ 1000000000000 → b ≤ 1000000000000 → c ≤ 1000000000000 → d ≤ 1000000000000 →
    Calls Tryd.prog 41 #[(Value.agg #[.int .i64 ((a : Nat) : Int), .int .i64 ((b : Nat) : Int)]), (Value.agg #[.int .i64 ((c : Nat) : Int), .int .i64 ((d : Nat) : Int)])] w fun e w' => e = .returned (.agg #[.int .i64 (((Wd.simp f a b c d).1 : Nat) : Int), .int .i64 (((Wd.simp f a b c d).2 : Nat) : Int)]) ∧ Below w.heap.size w w'
  | 0, a, b, c, d, w, ok, hf, _, _, _, _ => by have := ok.pb; omega
  | f + 1, a, b, c, d, w, ok, hf, na, nb, nc, nd => by
    have pa := ok.pa; have pb := ok.pb; have pc := ok.pc; have pd := ok.pd
    by_cases b1 : b = 1
    · have e : Wd.simp (f + 1) a b c d = (a, 1) := by simp only [Wd.simp, if_pos b1]
      rw [e, b1]
      exact psimp_one a c d w (by omega)
    · have t1 : ((a : Nat) : Int).tdiv ((b : Nat) : Int) = ((a / b : Nat) : Int) := rfl
      have t2 : ((c : Nat) : Int).tdiv ((d : Nat) : Int) = ((c / d : Nat) : Int) := rfl
      have l1 := Nat.div_le_self a b; have l2 := Nat.div_le_self c d
      by_cases hk : a / b < c / d
      · have e : Wd.simp (f + 1) a b c d = (a / b + 1, 1) := by simp only [Wd.simp, if_neg b1, if_pos hk]
        rw [e]
        generalize a / b = k at *
        generalize c / d = j at *
        exact psimp_up a b c d k j ((k + 1 : Nat) : Int) w (by omega) (by omega) (by omega) t1 t2 (by omega) (by omega) (by omega) (by omega) (by omega)
      · have e : Wd.simp (f + 1) a b c d = (a / b * (Wd.simp f d (c - a / b * d) b (a - a / b * b)).1 + (Wd.simp f d (c - a / b * d) b (a - a / b * b)).2, (Wd.simp f d (c - a / b * d) b (a - a / b * b)).1) := by
          simp only [Wd.simp, if_neg b1, if_neg hk]
        rw [e]
        obtain ⟨hok, hq, e2, l1', l2'⟩ := ok.step b1 hk
        have hrec := fun W => psimp_any f d (c - a / b * d) b (a - a / b * b) W hok (by omega) (by omega) (by omega) (by omega) (by omega)
        have hres := Wd.simp_res f _ _ _ _ hok (by omega)
        have hall := Wd.simp_res (f + 1) a b c d ok hf
        rw [e] at hall
        have hkd : a / b * d ≤ c := by rw [← hq]; exact Nat.div_mul_le_self c d
        have hkb : a / b * b ≤ a := Nat.div_mul_le_self a b
        generalize Wd.simp f d (c - a / b * d) b (a - a / b * b) = r at *
        obtain ⟨n, r⟩ := r
        obtain ⟨k, hkk⟩ : ∃ k, k = a / b := ⟨_, rfl⟩
        rw [← hkk] at t1 hok hrec hall hkd hkb l1 l1' l2' ⊢
        have hkn : k * n ≤ a := by have := hall.na; dsimp only at this; exact Nat.le_trans (Nat.le_add_right _ _) this
        have hkm : k * n + r ≤ a := hall.na
        dsimp only at hrec ⊢
        exact psimp_rec a b c d (k : Int) ((c / d : Nat) : Int) ((k * d : Nat) : Int) ((c - k * d : Nat) : Int) ((k * b : Nat) : Int) ((a - k * b : Nat) : Int) (n : Int) (r : Int) ((k * n : Nat) : Int) ((k * n + r : Nat) : Int) w
          (by omega) (by omega) (by omega) t1 t2 (by omega) (by omega) (by rw [hq, ← hkk]; omega) (by rw [Int.natCast_mul]) (by omega) (by omega) (by omega) (by rw [Int.natCast_mul]) (by omega) (by omega) (by omega) (by rw [Int.natCast_mul]) (by omega) (by rw [Int.natCast_add]) (by omega) hrec

end Go.Proofs.YtadclbankpmebaaDoor
/- The reference: what is told; the number of two ints. -/
namespace Go.Proofs.YtadclbankpmebaaDoor
open Go.RowKit

end Go.Proofs.YtadclbankpmebaaDoor
/- The reference: a number, and its order. -/
namespace Go.Proofs.YtadclbankpmebaaDoor
open Go.RowKit

set_option maxRecDepth 100000 in
set_option maxHeartbeats 2000000 in
theorem tOf_any (n d : Int) (w : World) (b1 : -9223372036854775808 ≤ n) (b2 : n ≤ 9223372036854775807) (b3 : -9223372036854775808 ≤ d) (b4 : d ≤ 9223372036854775807) (hd : d ≠ 0) :
    Calls Tryd.prog 17 #[.agg #[.int .i64 n, .int .i64 d]] w fun e w' => QR w (Rat.divInt n d) e w' := by
  have HO1 := hide (fun W => (tofInt_any n W b1 b2).mono (fun e w' h => h.1))
  have HO2 := hide (fun W => (tofInt_any d W b3 b4).mono (fun e w' h => h.1))
  have k1 : n.natAbs < B32 ^ 2 := by rw [B32_eq]; omega
  have k2 : d.natAbs < B32 ^ 2 := by rw [B32_eq]; omega
  obtain ⟨q, hq⟩ : ∃ q, q = Rat.divInt n d := ⟨_, rfl⟩
  have HR := hide (fun (A1 : Option Addr) (c1 : Nat) (l1 : List Nat) (m1 : Bool) (A2 : Option Addr) (c2 : Nat) (l2 : List Nat) (m2 : Bool) (W : World) (f1 : WholeF W A1 c1 l1 m1 n) (f2 : WholeF W A2 c2 l2 m2 d) => tratio_any A1 c1 l1 m1 n A2 c2 l2 m2 d 2 W f1 f2 hd k1 k2 (by omega))
  rw [← hq] at HR ⊢
  clear b1 b2 b3 b4 hd k1 k2 hq
  go_enter Tryd.func17, Tryd.ntmps17
  go_wp2_with fail
  obtain ⟨nx, n0, hsz, hw0⟩ := two_new w (.cells #[.int .i64 n, .int .i64 d] 23) (.cells #[.slice none 0 0, .bool false, .slice none 0 0, .bool false] 37)
  generalize ((w.alloc (.cells #[.int .i64 n, .int .i64 d] 23)).alloc (.cells #[.slice none 0 0, .bool false, .slice none 0 0, .bool false] 37)) = W0 at *
  have x0 : W0.cell? ⟨w.heap.size, 0, none⟩ = some (.int .i64 n) := cells_of nx 0
  have x1 : W0.cell? ⟨w.heap.size, 1, none⟩ = some (.int .i64 d) := cells_of nx 1
  have qx := lt_of_block nx
  clear nx
  have p0 : W0.cell? ⟨w.heap.size + 1, 0, none⟩ = some (.slice none 0 0) := cells_of n0 0
  have p1 : W0.cell? ⟨w.heap.size + 1, 1, none⟩ = some (.bool false) := cells_of n0 1
  have p2 : W0.cell? ⟨w.heap.size + 1, 2, none⟩ = some (.slice none 0 0) := cells_of n0 2
  have p3 : W0.cell? ⟨w.heap.size + 1, 3, none⟩ = some (.bool false) := cells_of n0 3
  have v0 := unfrozen_of n0 0; have v1 := unfrozen_of n0 1; have v2 := unfrozen_of n0 2; have v3 := unfrozen_of n0 3
  have q0 := lt_of_block n0
  have NR := Lib.hid n0
  clear n0 hsz
  go_region_with (first | (go_at_call_of 44 (Value.int .i64 n); refine ((unhide HO1) _).mono ?_; rintro e w' ⟨A1, c1, l1, m1, rfl, f1n, hb⟩; (try (first | replace f2 := WholeF.below f2 hb | replace f2 := (WholeF.below f2 (Below.drew (Below.refl _ _))).below hb)); have f1 := f1n; clear f1n; have hbw := below_step (w := W0) (by (first | with_reducible assumption | (repeat (first | with_reducible exact Below.refl _ _ | with_reducible assumption | refine Below.drew ?_ | (refine Below.alloc ?_ (by simp <;> omega) _))))) hb; obtain ⟨hc, hf⟩ := bcell hbw) | (go_at_call_of 44 (Value.int .i64 d); refine ((unhide HO2) _).mono ?_; rintro e w' ⟨A2, c2, l2, m2, rfl, f2n, hb⟩; (try (first | replace f1 := WholeF.below f1 hb | replace f1 := (WholeF.below f1 (Below.drew (Below.refl _ _))).below hb)); have f2 := f2n; clear f2n; have hbw := below_step (w := W0) (by (first | with_reducible assumption | (repeat (first | with_reducible exact Below.refl _ _ | with_reducible assumption | refine Below.drew ?_ | (refine Below.alloc ?_ (by simp <;> omega) _))))) hb; obtain ⟨hc, hf⟩ := bcell hbw) | (go_at_call 43; refine ((unhide HR) A1 c1 l1 m1 A2 c2 l2 m2 _ (by first | exact f1 | exact WholeF.below f1 (Below.drew (Below.refl _ _))) (by first | exact f2 | exact WholeF.below f2 (Below.drew (Below.refl _ _)))).mono ?_; rintro e w' ⟨A3, c3, l3, m3, A4, c4, l4, m4, rfl, f3, f4, hb⟩; have hbw := below_step (w := W0) (by (first | with_reducible assumption | (repeat (first | with_reducible exact Below.refl _ _ | with_reducible assumption | refine Below.drew ?_ | (refine Below.alloc ?_ (by simp <;> omega) _))))) hb; obtain ⟨hc, hf⟩ := bcell hbw))
  all_goals
    have hblk := (hbw.block _ q0).trans NR.out
    have hb9 := below_step' hw0 hbw
    have HBLK := Lib.hid hblk; have F3 := hide f3; have F4 := hide f4; have HB9 := hide hb9
    clear f3 f4 hblk hb9
    go_wp2_with fail
    exact bodyPost_ret (v := .agg #[.slice A3 l3.length c3, .bool m3, .slice A4 l4.length c4, .bool m4]) (by simp [results, Tryd.results17, go_sem, hc, p0, p1, p2, p3, q0]) rfl
      ⟨A3, c3, l3, m3, A4, c4, l4, m4, rfl, (unhide F3).upto HBLK.out (noW2_4 _ _ _ _ _ _ _ _) (set4_grown _ _ _ _ _ _), (unhide F4).upto HBLK.out (noW2_4 _ _ _ _ _ _ _ _) (set4_grown _ _ _ _ _ _), (unhide HB9).grown (set4_grown _ _ _ _ _ _) (unhide HB9).size (fun k hk => by injection hk with hk; omega)⟩
end Go.Proofs.YtadclbankpmebaaDoor
/- The reference: the order of numbers. -/
namespace Go.Proofs.YtadclbankpmebaaDoor
open Go.RowKit

set_option maxRecDepth 100000 in
set_option maxHeartbeats 8000000 in
theorem tqcmp_any (A1 : Option Addr) (c1 : Nat) (l1 : List Nat) (m1 : Bool) (A2 : Option Addr) (c2 : Nat) (l2 : List Nat) (m2 : Bool) (A3 : Option Addr) (c3 : Nat) (l3 : List Nat) (m3 : Bool) (A4 : Option Addr) (c4 : Nat) (l4 : List Nat) (m4 : Bool) (x y : Rat) (w : World) (h1 : WholeF w A1 c1 l1 m1 x.num) (h2 : WholeF w A2 c2 l2 m2 (x.den : Int)) (h3 : WholeF w A3 c3 l3 m3 y.num) (h4 : WholeF w A4 c4 l4 m4 (y.den : Int)) (k1 : l1.length + l4.length ≤ 35184372088832) (k2 : l3.length + l2.length ≤ 35184372088832) :
    Calls Tryd.prog 16 #[(Value.agg #[.slice A1 l1.length c1, .bool m1, .slice A2 l2.length c2, .bool m2]), (Value.agg #[.slice A3 l3.length c3, .bool m3, .slice A4 l4.length c4, .bool m4])] w fun e w' => e = .returned (.int .i64 (sgn (x.num * y.den - y.num * x.den))) ∧ Below w.heap.size w w' := by
  have D1 := hide (fun W (hW : Below w.heap.size w W) => tden_any A1 c1 l1 m1 A2 c2 l2 m2 (x.den : Int) W (h2.below hW) (by have := x.den_nz; omega))
  have D2 := hide (fun W (hW : Below w.heap.size w W) => tden_any A3 c3 l3 m3 A4 c4 l4 m4 (y.den : Int) W (h4.below hW) (by have := y.den_nz; omega))
  have M1 := hide (fun W (hW : Below w.heap.size w W) => tmul_any A1 c1 l1 m1 x.num A4 c4 l4 m4 (y.den : Int) W (h1.below hW) (h4.below hW) k1)
  have M2 := hide (fun W (hW : Below w.heap.size w W) => tmul_any A3 c3 l3 m3 y.num A2 c2 l2 m2 (x.den : Int) W (h3.below hW) (h2.below hW) k2)
  obtain ⟨z1, hz1⟩ : ∃ z, z = x.num * (y.den : Int) := ⟨_, rfl⟩
  obtain ⟨z2, hz2⟩ : ∃ z, z = y.num * (x.den : Int) := ⟨_, rfl⟩
  rw [← hz1] at M1 ⊢
  rw [← hz2] at M2 ⊢
  clear h1 h2 h3 h4 k1 k2 hz1 hz2
  go_enter Tryd.func16, Tryd.ntmps16
  go_wp2_with fail
  obtain ⟨n0, n1, hsz, hw0⟩ := two_new w (.cells #[.slice A1 l1.length c1, .bool m1, .slice A2 l2.length c2, .bool m2] 37) (.cells #[.slice A3 l3.length c3, .bool m3, .slice A4 l4.length c4, .bool m4] 37)
  generalize ((w.alloc (.cells #[.slice A1 l1.length c1, .bool m1, .slice A2 l2.length c2, .bool m2] 37)).alloc (.cells #[.slice A3 l3.length c3, .bool m3, .slice A4 l4.length c4, .bool m4] 37)) = W0 at *
  have q0 := lt_of_block n0; have q1 := lt_of_block n1
  have KEEP : ∀ X, Below W0.heap.size W0 X → (fun w' => w'.cell? ⟨w.heap.size, 0, none⟩ = some (.slice A1 l1.length c1) ∧ w'.cell? ⟨w.heap.size, 1, none⟩ = some (.bool m1) ∧ w'.cell? ⟨w.heap.size, 2, none⟩ = some (.slice A2 l2.length c2) ∧ w'.cell? ⟨w.heap.size, 3, none⟩ = some (.bool m2) ∧ w'.cell? ⟨w.heap.size + 1, 0, none⟩ = some (.slice A3 l3.length c3) ∧ w'.cell? ⟨w.heap.size + 1, 1, none⟩ = some (.bool m3) ∧ w'.cell? ⟨w.heap.size + 1, 2, none⟩ = some (.slice A4 l4.length c4) ∧ w'.cell? ⟨w.heap.size + 1, 3, none⟩ = some (.bool m4)) X := fun X hX => ⟨(hX.cell (p := ⟨w.heap.size, 0, none⟩) q0).trans (cells_of n0 0), (hX.cell (p := ⟨w.heap.size, 1, none⟩) q0).trans (cells_of n0 1), (hX.cell (p := ⟨w.heap.size, 2, none⟩) q0).trans (cells_of n0 2), (hX.cell (p := ⟨w.heap.size, 3, none⟩) q0).trans (cells_of n0 3), (hX.cell (p := ⟨w.heap.size + 1, 0, none⟩) q1).trans (cells_of n1 0), (hX.cell (p := ⟨w.heap.size + 1, 1, none⟩) q1).trans (cells_of n1 1), (hX.cell (p := ⟨w.heap.size + 1, 2, none⟩) q1).trans (cells_of n1 2), (hX.cell (p := ⟨w.heap.size + 1, 3, none⟩) q1).trans (cells_of n1 3)⟩
  have HKE := hide KEEP
  clear KEEP n0 n1 hsz
  go_region_held3 (fun w' => w'.cell? ⟨w.heap.size, 0, none⟩ = some (.slice A1 l1.length c1) ∧ w'.cell? ⟨w.heap.size, 1, none⟩ = some (.bool m1) ∧ w'.cell? ⟨w.heap.size, 2, none⟩ = some (.slice A2 l2.length c2) ∧ w'.cell? ⟨w.heap.size, 3, none⟩ = some (.bool m2) ∧ w'.cell? ⟨w.heap.size + 1, 0, none⟩ = some (.slice A3 l3.length c3) ∧ w'.cell? ⟨w.heap.size + 1, 1, none⟩ = some (.bool m3) ∧ w'.cell? ⟨w.heap.size + 1, 2, none⟩ = some (.slice A4 l4.length c4) ∧ w'.cell? ⟨w.heap.size + 1, 3, none⟩ = some (.bool m4)) (exact (unhide HKE) _ (by (first | with_reducible assumption | (repeat (first | with_reducible exact Below.refl _ _ | with_reducible assumption | refine Below.drew ?_ | (refine Below.alloc ?_ (by simp <;> omega) _)))))) (first | (go_at_call_of 46 (Value.agg #[.slice A1 l1.length c1, .bool m1, .slice A2 l2.length c2, .bool m2]); refine ((unhide D1) _ (below_step' hw0 (by (first | with_reducible assumption | (repeat (first | with_reducible exact Below.refl _ _ | with_reducible assumption | refine Below.drew ?_ | (refine Below.alloc ?_ (by simp <;> omega) _))))))).mono ?_; rintro e w' ⟨rfl, hb⟩; (try (first | replace f5 := WholeF.below f5 hb | replace f5 := (WholeF.below f5 (Below.drew (Below.refl _ _))).below hb)); (try (first | replace f6 := WholeF.below f6 hb | replace f6 := (WholeF.below f6 (Below.drew (Below.refl _ _))).below hb)); have hbw := below_step (w := W0) (by (first | with_reducible assumption | (repeat (first | with_reducible exact Below.refl _ _ | with_reducible assumption | refine Below.drew ?_ | (refine Below.alloc ?_ (by simp <;> omega) _))))) hb; obtain ⟨hc, hf⟩ := bcell hbw) | (go_at_call_of 46 (Value.agg #[.slice A3 l3.length c3, .bool m3, .slice A4 l4.length c4, .bool m4]); refine ((unhide D2) _ (below_step' hw0 (by (first | with_reducible assumption | (repeat (first | with_reducible exact Below.refl _ _ | with_reducible assumption | refine Below.drew ?_ | (refine Below.alloc ?_ (by simp <;> omega) _))))))).mono ?_; rintro e w' ⟨rfl, hb⟩; (try (first | replace f5 := WholeF.below f5 hb | replace f5 := (WholeF.below f5 (Below.drew (Below.refl _ _))).below hb)); (try (first | replace f6 := WholeF.below f6 hb | replace f6 := (WholeF.below f6 (Below.drew (Below.refl _ _))).below hb)); have hbw := below_step (w := W0) (by (first | with_reducible assumption | (repeat (first | with_reducible exact Below.refl _ _ | with_reducible assumption | refine Below.drew ?_ | (refine Below.alloc ?_ (by simp <;> omega) _))))) hb; obtain ⟨hc, hf⟩ := bcell hbw) | (go_at_call_of 45 (Value.agg #[.slice A1 l1.length c1, .bool m1]); refine ((unhide M1) _ (below_step' hw0 (by (first | with_reducible assumption | (repeat (first | with_reducible exact Below.refl _ _ | with_reducible assumption | refine Below.drew ?_ | (refine Below.alloc ?_ (by simp <;> omega) _))))))).mono ?_; rintro e w' ⟨A5, c5, l5, m5, rfl, f5n, hb⟩; (try (first | replace f6 := WholeF.below f6 hb | replace f6 := (WholeF.below f6 (Below.drew (Below.refl _ _))).below hb)); have f5 := f5n; clear f5n; have hbw := below_step (w := W0) (by (first | with_reducible assumption | (repeat (first | with_reducible exact Below.refl _ _ | with_reducible assumption | refine Below.drew ?_ | (refine Below.alloc ?_ (by simp <;> omega) _))))) hb; obtain ⟨hc, hf⟩ := bcell hbw) | (go_at_call_of 45 (Value.agg #[.slice A3 l3.length c3, .bool m3]); refine ((unhide M2) _ (below_step' hw0 (by (first | with_reducible assumption | (repeat (first | with_reducible exact Below.refl _ _ | with_reducible assumption | refine Below.drew ?_ | (refine Below.alloc ?_ (by simp <;> omega) _))))))).mono ?_; rintro e w' ⟨A6, c6, l6, m6, rfl, f6n, hb⟩; (try (first | replace f5 := WholeF.below f5 hb | replace f5 := (WholeF.below f5 (Below.drew (Below.refl _ _))).below hb)); have f6 := f6n; clear f6n; have hbw := below_step (w := W0) (by (first | with_reducible assumption | (repeat (first | with_reducible exact Below.refl _ _ | with_reducible assumption | refine Below.drew ?_ | (refine Below.alloc ?_ (by simp <;> omega) _))))) hb; obtain ⟨hc, hf⟩ := bcell hbw) | (go_at_call 47; refine (tcmp_any A5 c5 l5 m5 z1 A6 c6 l6 m6 z2 _ (by first | exact f5 | exact WholeF.below f5 (Below.drew (Below.refl _ _))) (by first | exact f6 | exact WholeF.below f6 (Below.drew (Below.refl _ _)))).mono ?_; rintro e w' ⟨rfl, hb⟩; have hbw := below_step (w := W0) (by (first | with_reducible assumption | (repeat (first | with_reducible exact Below.refl _ _ | with_reducible assumption | refine Below.drew ?_ | (refine Below.alloc ?_ (by simp <;> omega) _))))) hb))
  all_goals
    have hb9 := below_step' hw0 hbw
    have HB9 := hide hb9
    clear hb9 hbw
    go_wp2_with fail
    all_goals first | go_ret | skip
    exact ⟨rfl, unhide HB9⟩
end Go.Proofs.YtadclbankpmebaaDoor
/- How numbers compare: what is told. -/
namespace Go.Proofs.YtadclbankpmebaaDoor
open Go.RowKit

/-- What a comparison tells. -/
def cmpC (n1 d1 n2 d2 : Int) : Int := if Wd.okR n1 d1 ∧ Wd.okR n2 d2 then sgn (n1 * d2 - n2 * d1) else 0
def CmpR (w : World) (n1 d1 n2 d2 : Int) (e : Ending) (w' : World) : Prop := e = .returned (.tuple #[.int .i64 (cmpC n1 d1 n2 d2), .int .i64 (fstE n1 d1 n2 d2)]) ∧ Below w.heap.size w w'

end Go.Proofs.YtadclbankpmebaaDoor
/- How numbers compare. -/
namespace Go.Proofs.YtadclbankpmebaaDoor
open Go.RowKit

set_option maxRecDepth 100000 in
set_option maxHeartbeats 8000000 in
theorem cmpR_any (n1 d1 n2 d2 : Int) (w : World) (hT : Tab w) :
    Calls Tryd.prog 9 #[.agg #[.int .i64 n1, .int .i64 d1], .agg #[.int .i64 n2, .int .i64 d2]] w fun e w' => CmpR w n1 d1 n2 d2 e w' := by
  have HA := hide (fun g W (hW : Tab W) => first_any n1 d1 n2 d2 g W hW)
  have HT := hide hT
  clear hT
  by_cases ok : Wd.okR n1 d1 ∧ Wd.okR n2 d2
  · have e1 : fstE n1 d1 n2 d2 = 0 := if_pos ok
    have e2 : cmpC n1 d1 n2 d2 = sgn (n1 * d2 - n2 * d1) := if_pos ok
    unfold CmpR
    rw [e1] at HA ⊢
    rw [e2]
    obtain ⟨a1, a2⟩ := Wd.qR_ok ok.1
    obtain ⟨a3, a4⟩ := Wd.qR_ok ok.2
    obtain ⟨⟨r1, r2, r3, r4, rg1⟩, ⟨r5, r6, r7, r8, rg2⟩⟩ := ok
    have hz1 := okR_sz (n := n1) (d := d1) ⟨r1, r2, r3, r4, rg1⟩
    have hz2 := okR_sz (n := n2) (d := d2) ⟨r5, r6, r7, r8, rg2⟩
    have O1 := hide (fun W => rof_any n1 d1 W (by omega) (by omega) (by omega) (by omega))
    have O2 := hide (fun W => rof_any n2 d2 W (by omega) (by omega) (by omega) (by omega))
    have hq := fun (s1 : Int) (neg1 : Bool) (A1 : Option Addr) (c1 : Nat) (l1 : List Nat) (s2 : Int) (neg2 : Bool) (A2 : Option Addr) (c2 : Nat) (l2 : List Nat) (s3 : Int) (neg3 : Bool) (A3 : Option Addr) (c3 : Nat) (l3 : List Nat) (s4 : Int) (neg4 : Bool) (A4 : Option Addr) (c4 : Nat) (l4 : List Nat) (W : World) => opc_cmp W (Wd.qR n1 d1) (Wd.qR n2 d2) hz1 hz2 (by decide) s1 neg1 A1 c1 l1 s2 neg2 A2 c2 l2 s3 neg3 A3 c3 l3 s4 neg4 A4 c4 l4 W (Below.refl _ _)
    obtain ⟨g, hg⟩ : ∃ g, g = sgn (n1 * d2 - n2 * d1) := ⟨_, rfl⟩
    simp only [a1, a2, a3, a4, ← hg] at hq
    rw [← hg]
    have HQ := hide hq
    clear hq hg a1 a2 a3 a4 r1 r2 r3 r4 r5 r6 r7 r8 e1 e2 hz1 hz2 rg1 rg2
    go_enter Tryd.func9, Tryd.ntmps9
    go_wp2_with fail
    obtain ⟨n0, n1_, n2_, hsz, hw0⟩ := three_new w (.cells #[.int .i64 n1, .int .i64 d1] 23) (.cells #[.int .i64 n2, .int .i64 d2] 23) (.cells #[.int .i64 n1, .int .i64 d1, .int .i64 n2, .int .i64 d2] 23)
    generalize (((w.alloc (.cells #[.int .i64 n1, .int .i64 d1] 23)).alloc (.cells #[.int .i64 n2, .int .i64 d2] 23)).alloc (.cells #[.int .i64 n1, .int .i64 d1, .int .i64 n2, .int .i64 d2] 23)) = Wa at *
    refine ((unhide HA) (w.heap.size + 1 + 1) Wa ((unhide HT).below hw0) (lt_of_block n2_) (cells_of n2_ 0) (cells_of n2_ 1) (cells_of n2_ 2) (cells_of n2_ 3)).mono ?_
    rintro e W0 ⟨rfl, hb0⟩
    replace n0 := (hb0.block _ (lt_of_block n0)).trans n0
    replace n1_ := (hb0.block _ (lt_of_block n1_)).trans n1_
    replace hw0 := below_step' hw0 hb0
    have q0 := lt_of_block n0; have q1 := lt_of_block n1_
    have KEEP : ∀ X, Below W0.heap.size W0 X → (fun w' => w'.cell? ⟨w.heap.size, 0, none⟩ = some (.int .i64 n1) ∧ w'.cell? ⟨w.heap.size, 1, none⟩ = some (.int .i64 d1) ∧ w'.cell? ⟨w.heap.size + 1, 0, none⟩ = some (.int .i64 n2) ∧ w'.cell? ⟨w.heap.size + 1, 1, none⟩ = some (.int .i64 d2)) X := fun X hX => ⟨(hX.cell (p := ⟨w.heap.size, 0, none⟩) q0).trans (cells_of n0 0), (hX.cell (p := ⟨w.heap.size, 1, none⟩) q0).trans (cells_of n0 1), (hX.cell (p := ⟨w.heap.size + 1, 0, none⟩) q1).trans (cells_of n1_ 0), (hX.cell (p := ⟨w.heap.size + 1, 1, none⟩) q1).trans (cells_of n1_ 1)⟩
    have HKE := hide KEEP; have HW0 := hide hw0
    clear KEEP n0 n1_ n2_ hsz hb0 hw0 HA
    go_wp2_with fail
    go_region_held3 (fun w' => w'.cell? ⟨w.heap.size, 0, none⟩ = some (.int .i64 n1) ∧ w'.cell? ⟨w.heap.size, 1, none⟩ = some (.int .i64 d1) ∧ w'.cell? ⟨w.heap.size + 1, 0, none⟩ = some (.int .i64 n2) ∧ w'.cell? ⟨w.heap.size + 1, 1, none⟩ = some (.int .i64 d2)) (exact (unhide HKE) _ (by (first | with_reducible assumption | (repeat (first | with_reducible exact Below.refl _ _ | with_reducible assumption | refine Below.drew ?_ | (refine Below.alloc ?_ (by simp <;> omega) _)))))) (first | (go_at_call_of 35 (Value.agg #[.int .i64 n1, .int .i64 d1]); refine ((unhide O1) _).mono ?_; rintro e w' ⟨s1, neg1, A1, c1, l1, s2, neg2, A2, c2, l2, rfl, f1n, f2n, hb⟩; (try (first | replace f3 := IntF.below f3 hb | replace f3 := (IntF.below f3 (Below.drew (Below.refl _ _))).below hb)); (try (first | replace f4 := IntF.below f4 hb | replace f4 := (IntF.below f4 (Below.drew (Below.refl _ _))).below hb)); have f1 := f1n; have f2 := f2n; clear f1n f2n; have hbw := below_step (w := W0) (by (first | with_reducible assumption | (repeat (first | with_reducible exact Below.refl _ _ | with_reducible assumption | refine Below.drew ?_ | (refine Below.alloc ?_ (by simp <;> omega) _))))) hb; obtain ⟨hc, hf⟩ := bcell hbw) | (go_at_call_of 35 (Value.agg #[.int .i64 n2, .int .i64 d2]); refine ((unhide O2) _).mono ?_; rintro e w' ⟨s3, neg3, A3, c3, l3, s4, neg4, A4, c4, l4, rfl, f3n, f4n, hb⟩; (try (first | replace f1 := IntF.below f1 hb | replace f1 := (IntF.below f1 (Below.drew (Below.refl _ _))).below hb)); (try (first | replace f2 := IntF.below f2 hb | replace f2 := (IntF.below f2 (Below.drew (Below.refl _ _))).below hb)); have f3 := f3n; have f4 := f4n; clear f3n f4n; have hbw := below_step (w := W0) (by (first | with_reducible assumption | (repeat (first | with_reducible exact Below.refl _ _ | with_reducible assumption | refine Below.drew ?_ | (refine Below.alloc ?_ (by simp <;> omega) _))))) hb; obtain ⟨hc, hf⟩ := bcell hbw) | (go_at_call 36; refine ((unhide HQ) s1 neg1 A1 c1 l1 s2 neg2 A2 c2 l2 s3 neg3 A3 c3 l3 s4 neg4 A4 c4 l4 _ (by first | exact f1 | exact IntF.below f1 (Below.drew (Below.refl _ _))) (by first | exact f2 | exact IntF.below f2 (Below.drew (Below.refl _ _))) (by first | exact f3 | exact IntF.below f3 (Below.drew (Below.refl _ _))) (by first | exact f4 | exact IntF.below f4 (Below.drew (Below.refl _ _)))).mono ?_; rintro e w' ⟨rfl, hb⟩; have hbw := below_step (w := W0) (by (first | with_reducible assumption | (repeat (first | with_reducible exact Below.refl _ _ | with_reducible assumption | refine Below.drew ?_ | (refine Below.alloc ?_ (by simp <;> omega) _))))) hb))
    all_goals
      have hb9 := below_step' (unhide HW0) hbw
      have HB9 := hide hb9
      clear hb9 hbw
      go_wp2_with fail
      go_ret2
      exact ⟨rfl, unhide HB9⟩
  · have e1 : fstE n1 d1 n2 d2 = 1 := if_neg ok
    have e2 : cmpC n1 d1 n2 d2 = 0 := if_neg ok
    unfold CmpR
    rw [e1] at HA ⊢
    rw [e2]
    clear e1 e2 ok
    go_enter Tryd.func9, Tryd.ntmps9
    go_wp2_with fail
    obtain ⟨n0, n1_, n2_, hsz, hw0⟩ := three_new w (.cells #[.int .i64 n1, .int .i64 d1] 23) (.cells #[.int .i64 n2, .int .i64 d2] 23) (.cells #[.int .i64 n1, .int .i64 d1, .int .i64 n2, .int .i64 d2] 23)
    generalize (((w.alloc (.cells #[.int .i64 n1, .int .i64 d1] 23)).alloc (.cells #[.int .i64 n2, .int .i64 d2] 23)).alloc (.cells #[.int .i64 n1, .int .i64 d1, .int .i64 n2, .int .i64 d2] 23)) = Wa at *
    refine ((unhide HA) (w.heap.size + 1 + 1) Wa ((unhide HT).below hw0) (lt_of_block n2_) (cells_of n2_ 0) (cells_of n2_ 1) (cells_of n2_ 2) (cells_of n2_ 3)).mono ?_
    rintro e W0 ⟨rfl, hb0⟩
    replace hw0 := below_step' hw0 hb0
    clear n0 n1_ n2_ hsz hb0
    go_wp2_with fail
    go_ret2
    exact ⟨rfl, hw0⟩
end Go.Proofs.YtadclbankpmebaaDoor
/- The program: the simplest number between two, for all ints. -/
namespace Go.Proofs.YtadclbankpmebaaDoor
open Go.RowKit

set_option maxRecDepth 100000 in
set_option maxHeartbeats 16000000 in
theorem ps_bad (n1 d1 n2 d2 o : Int) (w : World) (hT : Tab w)
    (hcm : ∀ W, Tab W → Calls Tryd.prog 9 #[(Value.agg #[.int .i64 n1, .int .i64 d1]), (Value.agg #[.int .i64 n2, .int .i64 d2])] W fun e w' => e = .returned (.tuple #[.int .i64 o, .int .i64 1]) ∧ Below W.heap.size W w')
     :
    Calls Tryd.prog 14 #[(Value.agg #[.int .i64 n1, .int .i64 d1]), (Value.agg #[.int .i64 n2, .int .i64 d2])] w fun e w' => e = .returned (.tuple #[.agg #[.int .i64 0, .int .i64 0], .int .i64 1]) ∧ Below w.heap.size w w' := by
  have HC := hide hcm; have HT := hide hT
  clear hcm hT
  go_enter Tryd.func14, Tryd.ntmps14
  go_upto_region 1 with fail
  obtain ⟨n0, n1_, n2_, hsz, hw0⟩ := three_new w (.cells #[.int .i64 n1, .int .i64 d1] 23) (.cells #[.int .i64 n2, .int .i64 d2] 23) (.cells #[.int .i64 0, .int .i64 0] 23)
  generalize (((w.alloc (.cells #[.int .i64 n1, .int .i64 d1] 23)).alloc (.cells #[.int .i64 n2, .int .i64 d2] 23)).alloc (.cells #[.int .i64 0, .int .i64 0] 23)) = W0 at *
  have k0_0 : W0.cell? ⟨w.heap.size, 0, none⟩ = some (.int .i64 n1) := cells_of n0 0
  have k0_1 : W0.cell? ⟨w.heap.size, 1, none⟩ = some (.int .i64 d1) := cells_of n0 1
  have k1_0 : W0.cell? ⟨w.heap.size + 1, 0, none⟩ = some (.int .i64 n2) := cells_of n1_ 0
  have k1_1 : W0.cell? ⟨w.heap.size + 1, 1, none⟩ = some (.int .i64 d2) := cells_of n1_ 1
  have k2_0 : W0.cell? ⟨w.heap.size + 1 + 1, 0, none⟩ = some (.int .i64 0) := cells_of n2_ 0
  have k2_1 : W0.cell? ⟨w.heap.size + 1 + 1, 1, none⟩ = some (.int .i64 0) := cells_of n2_ 1
  have f2_0 := unfrozen_of n2_ 0; have f2_1 := unfrozen_of n2_ 1
  have q0 := lt_of_block n0; have q1 := lt_of_block n1_; have q2 := lt_of_block n2_
  clear n0 n1_ n2_ hsz
  go_wp2_with fail
  refine ((unhide HC) _ ((unhide HT).below hw0)).mono ?_
  rintro e W1 ⟨rfl, hb⟩
  obtain ⟨hc, hfz⟩ := bcell hb
  replace k0_0 := (hc _ _ q0).trans k0_0
  replace k0_1 := (hc _ _ q0).trans k0_1
  replace k1_0 := (hc _ _ q1).trans k1_0
  replace k1_1 := (hc _ _ q1).trans k1_1
  replace k2_0 := (hc _ _ q2).trans k2_0
  replace k2_1 := (hc _ _ q2).trans k2_1
  replace f2_0 := (hfz _ _ q2).trans f2_0
  replace f2_1 := (hfz _ _ q2).trans f2_1
  replace q0 := Nat.lt_of_lt_of_le q0 hb.size
  replace q1 := Nat.lt_of_lt_of_le q1 hb.size
  replace q2 := Nat.lt_of_lt_of_le q2 hb.size
  replace hw0 := below_step' hw0 hb
  clear hb hc hfz
  go_wp2_with fail
  exact bodyPost_ret (v := .tuple #[.agg #[.int .i64 0, .int .i64 0], .int .i64 1]) (by simp [results, Tryd.results14, go_sem, k2_0, k2_1, q2]) rfl
    ⟨rfl, hw0.grown (set2_grown _ _ _ _) hw0.size (fun k hk => by injection hk with hk; omega)⟩

set_option maxRecDepth 100000 in
set_option maxHeartbeats 16000000 in
theorem ps_gt (n1 d1 n2 d2 o : Int) (w : World) (hT : Tab w)
    (hcm : ∀ W, Tab W → Calls Tryd.prog 9 #[(Value.agg #[.int .i64 n1, .int .i64 d1]), (Value.agg #[.int .i64 n2, .int .i64 d2])] W fun e w' => e = .returned (.tuple #[.int .i64 o, .int .i64 0]) ∧ Below W.heap.size W w')
    (hd1_ : 0 < o) :
    Calls Tryd.prog 14 #[(Value.agg #[.int .i64 n1, .int .i64 d1]), (Value.agg #[.int .i64 n2, .int .i64 d2])] w fun e w' => e = .returned (.tuple #[.agg #[.int .i64 0, .int .i64 0], .int .i64 1]) ∧ Below w.heap.size w w' := by
  have HC := hide hcm; have HT := hide hT
  clear hcm hT
  have d1_ : decide (0 < o) = true := decide_eq_true hd1_
  clear hd1_
  go_enter Tryd.func14, Tryd.ntmps14
  go_upto_region 1 with fail
  obtain ⟨n0, n1_, n2_, hsz, hw0⟩ := three_new w (.cells #[.int .i64 n1, .int .i64 d1] 23) (.cells #[.int .i64 n2, .int .i64 d2] 23) (.cells #[.int .i64 0, .int .i64 0] 23)
  generalize (((w.alloc (.cells #[.int .i64 n1, .int .i64 d1] 23)).alloc (.cells #[.int .i64 n2, .int .i64 d2] 23)).alloc (.cells #[.int .i64 0, .int .i64 0] 23)) = W0 at *
  have k0_0 : W0.cell? ⟨w.heap.size, 0, none⟩ = some (.int .i64 n1) := cells_of n0 0
  have k0_1 : W0.cell? ⟨w.heap.size, 1, none⟩ = some (.int .i64 d1) := cells_of n0 1
  have k1_0 : W0.cell? ⟨w.heap.size + 1, 0, none⟩ = some (.int .i64 n2) := cells_of n1_ 0
  have k1_1 : W0.cell? ⟨w.heap.size + 1, 1, none⟩ = some (.int .i64 d2) := cells_of n1_ 1
  have k2_0 : W0.cell? ⟨w.heap.size + 1 + 1, 0, none⟩ = some (.int .i64 0) := cells_of n2_ 0
  have k2_1 : W0.cell? ⟨w.heap.size + 1 + 1, 1, none⟩ = some (.int .i64 0) := cells_of n2_ 1
  have f2_0 := unfrozen_of n2_ 0; have f2_1 := unfrozen_of n2_ 1
  have q0 := lt_of_block n0; have q1 := lt_of_block n1_; have q2 := lt_of_block n2_
  clear n0 n1_ n2_ hsz
  go_wp2_with fail
  refine ((unhide HC) _ ((unhide HT).below hw0)).mono ?_
  rintro e W1 ⟨rfl, hb⟩
  obtain ⟨hc, hfz⟩ := bcell hb
  replace k0_0 := (hc _ _ q0).trans k0_0
  replace k0_1 := (hc _ _ q0).trans k0_1
  replace k1_0 := (hc _ _ q1).trans k1_0
  replace k1_1 := (hc _ _ q1).trans k1_1
  replace k2_0 := (hc _ _ q2).trans k2_0
  replace k2_1 := (hc _ _ q2).trans k2_1
  replace f2_0 := (hfz _ _ q2).trans f2_0
  replace f2_1 := (hfz _ _ q2).trans f2_1
  replace q0 := Nat.lt_of_lt_of_le q0 hb.size
  replace q1 := Nat.lt_of_lt_of_le q1 hb.size
  replace q2 := Nat.lt_of_lt_of_le q2 hb.size
  replace hw0 := below_step' hw0 hb
  clear hb hc hfz
  go_wp2_with fail
  exact bodyPost_ret (v := .tuple #[.agg #[.int .i64 0, .int .i64 0], .int .i64 1]) (by simp [results, Tryd.results14, go_sem, k2_0, k2_1, q2]) rfl
    ⟨rfl, hw0.grown (set2_grown _ _ _ _) hw0.size (fun k hk => by injection hk with hk; omega)⟩

set_option maxRecDepth 100000 in
set_option maxHeartbeats 16000000 in
theorem ps_pos (n1 d1 n2 d2 o : Int) (w : World) (hT : Tab w)
    (hcm : ∀ W, Tab W → Calls Tryd.prog 9 #[(Value.agg #[.int .i64 n1, .int .i64 d1]), (Value.agg #[.int .i64 n2, .int .i64 d2])] W fun e w' => e = .returned (.tuple #[.int .i64 o, .int .i64 0]) ∧ Below W.heap.size W w')
    (r s : Int) (hd1_ : ¬ 0 < o) (hd2_ : 0 < n1)
    (hs : ∀ W, Calls Tryd.prog 41 #[(Value.agg #[.int .i64 n1, .int .i64 d1]), (Value.agg #[.int .i64 n2, .int .i64 d2])] W fun e' w' => e' = .returned (.agg #[.int .i64 r, .int .i64 s]) ∧ Below W.heap.size W w') :
    Calls Tryd.prog 14 #[(Value.agg #[.int .i64 n1, .int .i64 d1]), (Value.agg #[.int .i64 n2, .int .i64 d2])] w fun e w' => e = .returned (.tuple #[.agg #[.int .i64 r, .int .i64 s], .int .i64 0]) ∧ Below w.heap.size w w' := by
  have HC := hide hcm; have HT := hide hT
  clear hcm hT
  have HS := hide hs
  have d1_ : decide (0 < o) = false := decide_eq_false hd1_
  have d2_ : decide (0 < n1) = true := decide_eq_true hd2_
  clear hs hd1_ hd2_
  go_enter Tryd.func14, Tryd.ntmps14
  go_upto_region 1 with fail
  obtain ⟨n0, n1_, n2_, hsz, hw0⟩ := three_new w (.cells #[.int .i64 n1, .int .i64 d1] 23) (.cells #[.int .i64 n2, .int .i64 d2] 23) (.cells #[.int .i64 0, .int .i64 0] 23)
  generalize (((w.alloc (.cells #[.int .i64 n1, .int .i64 d1] 23)).alloc (.cells #[.int .i64 n2, .int .i64 d2] 23)).alloc (.cells #[.int .i64 0, .int .i64 0] 23)) = W0 at *
  have k0_0 : W0.cell? ⟨w.heap.size, 0, none⟩ = some (.int .i64 n1) := cells_of n0 0
  have k0_1 : W0.cell? ⟨w.heap.size, 1, none⟩ = some (.int .i64 d1) := cells_of n0 1
  have k1_0 : W0.cell? ⟨w.heap.size + 1, 0, none⟩ = some (.int .i64 n2) := cells_of n1_ 0
  have k1_1 : W0.cell? ⟨w.heap.size + 1, 1, none⟩ = some (.int .i64 d2) := cells_of n1_ 1
  have k2_0 : W0.cell? ⟨w.heap.size + 1 + 1, 0, none⟩ = some (.int .i64 0) := cells_of n2_ 0
  have k2_1 : W0.cell? ⟨w.heap.size + 1 + 1, 1, none⟩ = some (.int .i64 0) := cells_of n2_ 1
  have f2_0 := unfrozen_of n2_ 0; have f2_1 := unfrozen_of n2_ 1
  have q0 := lt_of_block n0; have q1 := lt_of_block n1_; have q2 := lt_of_block n2_
  clear n0 n1_ n2_ hsz
  go_wp2_with fail
  refine ((unhide HC) _ ((unhide HT).below hw0)).mono ?_
  rintro e W1 ⟨rfl, hb⟩
  obtain ⟨hc, hfz⟩ := bcell hb
  replace k0_0 := (hc _ _ q0).trans k0_0
  replace k0_1 := (hc _ _ q0).trans k0_1
  replace k1_0 := (hc _ _ q1).trans k1_0
  replace k1_1 := (hc _ _ q1).trans k1_1
  replace k2_0 := (hc _ _ q2).trans k2_0
  replace k2_1 := (hc _ _ q2).trans k2_1
  replace f2_0 := (hfz _ _ q2).trans f2_0
  replace f2_1 := (hfz _ _ q2).trans f2_1
  replace q0 := Nat.lt_of_lt_of_le q0 hb.size
  replace q1 := Nat.lt_of_lt_of_le q1 hb.size
  replace q2 := Nat.lt_of_lt_of_le q2 hb.size
  replace hw0 := below_step' hw0 hb
  clear hb hc hfz
  go_wp2_with fail
  refine ((unhide HS) _).mono ?_
  rintro e' W2 ⟨rfl, hb⟩
  obtain ⟨hc, hfz⟩ := bcell hb
  replace k0_0 := (hc _ _ q0).trans k0_0
  replace k0_1 := (hc _ _ q0).trans k0_1
  replace k1_0 := (hc _ _ q1).trans k1_0
  replace k1_1 := (hc _ _ q1).trans k1_1
  replace k2_0 := (hc _ _ q2).trans k2_0
  replace k2_1 := (hc _ _ q2).trans k2_1
  replace f2_0 := (hfz _ _ q2).trans f2_0
  replace f2_1 := (hfz _ _ q2).trans f2_1
  replace q0 := Nat.lt_of_lt_of_le q0 hb.size
  replace q1 := Nat.lt_of_lt_of_le q1 hb.size
  replace q2 := Nat.lt_of_lt_of_le q2 hb.size
  replace hw0 := below_step' hw0 hb
  clear hb hc hfz
  go_wp2_with fail
  exact bodyPost_ret (v := .tuple #[.agg #[.int .i64 r, .int .i64 s], .int .i64 0]) (by simp [results, Tryd.results14, go_sem, k2_0, k2_1, q2]) rfl
    ⟨rfl, hw0.grown (set2_grown _ _ _ _) hw0.size (fun k hk => by injection hk with hk; omega)⟩

set_option maxRecDepth 100000 in
set_option maxHeartbeats 16000000 in
theorem ps_mid (n1 d1 n2 d2 o : Int) (w : World) (hT : Tab w)
    (hcm : ∀ W, Tab W → Calls Tryd.prog 9 #[(Value.agg #[.int .i64 n1, .int .i64 d1]), (Value.agg #[.int .i64 n2, .int .i64 d2])] W fun e w' => e = .returned (.tuple #[.int .i64 o, .int .i64 0]) ∧ Below W.heap.size W w')
    (hd1_ : ¬ 0 < o) (hd2_ : ¬ 0 < n1) (hd3_ : ¬ n2 < 0) :
    Calls Tryd.prog 14 #[(Value.agg #[.int .i64 n1, .int .i64 d1]), (Value.agg #[.int .i64 n2, .int .i64 d2])] w fun e w' => e = .returned (.tuple #[.agg #[.int .i64 0, .int .i64 1], .int .i64 0]) ∧ Below w.heap.size w w' := by
  have HC := hide hcm; have HT := hide hT
  clear hcm hT
  have d1_ : decide (0 < o) = false := decide_eq_false hd1_
  have d2_ : decide (0 < n1) = false := decide_eq_false hd2_
  have d3_ : decide (n2 < 0) = false := decide_eq_false hd3_
  clear hd1_ hd2_ hd3_
  go_enter Tryd.func14, Tryd.ntmps14
  go_upto_region 1 with fail
  obtain ⟨n0, n1_, n2_, hsz, hw0⟩ := three_new w (.cells #[.int .i64 n1, .int .i64 d1] 23) (.cells #[.int .i64 n2, .int .i64 d2] 23) (.cells #[.int .i64 0, .int .i64 0] 23)
  generalize (((w.alloc (.cells #[.int .i64 n1, .int .i64 d1] 23)).alloc (.cells #[.int .i64 n2, .int .i64 d2] 23)).alloc (.cells #[.int .i64 0, .int .i64 0] 23)) = W0 at *
  have k0_0 : W0.cell? ⟨w.heap.size, 0, none⟩ = some (.int .i64 n1) := cells_of n0 0
  have k0_1 : W0.cell? ⟨w.heap.size, 1, none⟩ = some (.int .i64 d1) := cells_of n0 1
  have k1_0 : W0.cell? ⟨w.heap.size + 1, 0, none⟩ = some (.int .i64 n2) := cells_of n1_ 0
  have k1_1 : W0.cell? ⟨w.heap.size + 1, 1, none⟩ = some (.int .i64 d2) := cells_of n1_ 1
  have k2_0 : W0.cell? ⟨w.heap.size + 1 + 1, 0, none⟩ = some (.int .i64 0) := cells_of n2_ 0
  have k2_1 : W0.cell? ⟨w.heap.size + 1 + 1, 1, none⟩ = some (.int .i64 0) := cells_of n2_ 1
  have f2_0 := unfrozen_of n2_ 0; have f2_1 := unfrozen_of n2_ 1
  have q0 := lt_of_block n0; have q1 := lt_of_block n1_; have q2 := lt_of_block n2_
  clear n0 n1_ n2_ hsz
  go_wp2_with fail
  refine ((unhide HC) _ ((unhide HT).below hw0)).mono ?_
  rintro e W1 ⟨rfl, hb⟩
  obtain ⟨hc, hfz⟩ := bcell hb
  replace k0_0 := (hc _ _ q0).trans k0_0
  replace k0_1 := (hc _ _ q0).trans k0_1
  replace k1_0 := (hc _ _ q1).trans k1_0
  replace k1_1 := (hc _ _ q1).trans k1_1
  replace k2_0 := (hc _ _ q2).trans k2_0
  replace k2_1 := (hc _ _ q2).trans k2_1
  replace f2_0 := (hfz _ _ q2).trans f2_0
  replace f2_1 := (hfz _ _ q2).trans f2_1
  replace q0 := Nat.lt_of_lt_of_le q0 hb.size
  replace q1 := Nat.lt_of_lt_of_le q1 hb.size
  replace q2 := Nat.lt_of_lt_of_le q2 hb.size
  replace hw0 := below_step' hw0 hb
  clear hb hc hfz
  go_wp2_with fail
  exact bodyPost_ret (v := .tuple #[.agg #[.int .i64 0, .int .i64 1], .int .i64 0]) (by simp [results, Tryd.results14, go_sem, k2_0, k2_1, q2]) rfl
    ⟨rfl, hw0.grown (set2_grown _ _ _ _) hw0.size (fun k hk => by injection hk with hk; omega)⟩

set_option maxRecDepth 100000 in
set_option maxHeartbeats 16000000 in
theorem ps_neg (n1 d1 n2 d2 o : Int) (w : World) (hT : Tab w)
    (hcm : ∀ W, Tab W → Calls Tryd.prog 9 #[(Value.agg #[.int .i64 n1, .int .i64 d1]), (Value.agg #[.int .i64 n2, .int .i64 d2])] W fun e w' => e = .returned (.tuple #[.int .i64 o, .int .i64 0]) ∧ Below W.heap.size W w')
    (m1 m2 r s t : Int) (hd1_ : ¬ 0 < o) (hd2_ : ¬ 0 < n1) (hd3_ : n2 < 0)
    (hn1 : ∀ W, Calls Tryd.prog 42 #[(Value.agg #[.int .i64 n2, .int .i64 d2])] W fun e' w' => e' = .returned (.agg #[.int .i64 m2, .int .i64 d2]) ∧ Below W.heap.size W w')
    (hn2 : ∀ W, Calls Tryd.prog 42 #[(Value.agg #[.int .i64 n1, .int .i64 d1])] W fun e' w' => e' = .returned (.agg #[.int .i64 m1, .int .i64 d1]) ∧ Below W.heap.size W w')
    (hs : ∀ W, Calls Tryd.prog 41 #[(Value.agg #[.int .i64 m2, .int .i64 d2]), (Value.agg #[.int .i64 m1, .int .i64 d1])] W fun e' w' => e' = .returned (.agg #[.int .i64 r, .int .i64 s]) ∧ Below W.heap.size W w')
    (hn3 : ∀ W, Calls Tryd.prog 42 #[(Value.agg #[.int .i64 r, .int .i64 s])] W fun e' w' => e' = .returned (.agg #[.int .i64 t, .int .i64 s]) ∧ Below W.heap.size W w') :
    Calls Tryd.prog 14 #[(Value.agg #[.int .i64 n1, .int .i64 d1]), (Value.agg #[.int .i64 n2, .int .i64 d2])] w fun e w' => e = .returned (.tuple #[.agg #[.int .i64 t, .int .i64 s], .int .i64 0]) ∧ Below w.heap.size w w' := by
  have HC := hide hcm; have HT := hide hT
  clear hcm hT
  have HS := hide hs; have HN1 := hide hn1; have HN2 := hide hn2; have HN3 := hide hn3
  have d1_ : decide (0 < o) = false := decide_eq_false hd1_
  have d2_ : decide (0 < n1) = false := decide_eq_false hd2_
  have d3_ : decide (n2 < 0) = true := decide_eq_true hd3_
  clear hs hn1 hn2 hn3 hd1_ hd2_ hd3_
  go_enter Tryd.func14, Tryd.ntmps14
  go_upto_region 1 with fail
  obtain ⟨n0, n1_, n2_, hsz, hw0⟩ := three_new w (.cells #[.int .i64 n1, .int .i64 d1] 23) (.cells #[.int .i64 n2, .int .i64 d2] 23) (.cells #[.int .i64 0, .int .i64 0] 23)
  generalize (((w.alloc (.cells #[.int .i64 n1, .int .i64 d1] 23)).alloc (.cells #[.int .i64 n2, .int .i64 d2] 23)).alloc (.cells #[.int .i64 0, .int .i64 0] 23)) = W0 at *
  have k0_0 : W0.cell? ⟨w.heap.size, 0, none⟩ = some (.int .i64 n1) := cells_of n0 0
  have k0_1 : W0.cell? ⟨w.heap.size, 1, none⟩ = some (.int .i64 d1) := cells_of n0 1
  have k1_0 : W0.cell? ⟨w.heap.size + 1, 0, none⟩ = some (.int .i64 n2) := cells_of n1_ 0
  have k1_1 : W0.cell? ⟨w.heap.size + 1, 1, none⟩ = some (.int .i64 d2) := cells_of n1_ 1
  have k2_0 : W0.cell? ⟨w.heap.size + 1 + 1, 0, none⟩ = some (.int .i64 0) := cells_of n2_ 0
  have k2_1 : W0.cell? ⟨w.heap.size + 1 + 1, 1, none⟩ = some (.int .i64 0) := cells_of n2_ 1
  have f2_0 := unfrozen_of n2_ 0; have f2_1 := unfrozen_of n2_ 1
  have q0 := lt_of_block n0; have q1 := lt_of_block n1_; have q2 := lt_of_block n2_
  clear n0 n1_ n2_ hsz
  go_wp2_with fail
  refine ((unhide HC) _ ((unhide HT).below hw0)).mono ?_
  rintro e W1 ⟨rfl, hb⟩
  obtain ⟨hc, hfz⟩ := bcell hb
  replace k0_0 := (hc _ _ q0).trans k0_0
  replace k0_1 := (hc _ _ q0).trans k0_1
  replace k1_0 := (hc _ _ q1).trans k1_0
  replace k1_1 := (hc _ _ q1).trans k1_1
  replace k2_0 := (hc _ _ q2).trans k2_0
  replace k2_1 := (hc _ _ q2).trans k2_1
  replace f2_0 := (hfz _ _ q2).trans f2_0
  replace f2_1 := (hfz _ _ q2).trans f2_1
  replace q0 := Nat.lt_of_lt_of_le q0 hb.size
  replace q1 := Nat.lt_of_lt_of_le q1 hb.size
  replace q2 := Nat.lt_of_lt_of_le q2 hb.size
  replace hw0 := below_step' hw0 hb
  clear hb hc hfz
  go_upto_region 9 with fail
  have KEEP := hide (show ∀ X, Below W1.heap.size W1 X → X.cell? ⟨w.heap.size, 0, none⟩ = some (.int .i64 n1) ∧ X.cell? ⟨w.heap.size, 1, none⟩ = some (.int .i64 d1) ∧ X.cell? ⟨w.heap.size + 1, 0, none⟩ = some (.int .i64 n2) ∧ X.cell? ⟨w.heap.size + 1, 1, none⟩ = some (.int .i64 d2) from fun X hB => ⟨keep_cell hB q0 k0_0, keep_cell hB q0 k0_1, keep_cell hB q1 k1_0, keep_cell hB q1 k1_1⟩)
  go_region_held3 (fun w' => w'.cell? ⟨w.heap.size, 0, none⟩ = some (.int .i64 n1) ∧ w'.cell? ⟨w.heap.size, 1, none⟩ = some (.int .i64 d1) ∧ w'.cell? ⟨w.heap.size + 1, 0, none⟩ = some (.int .i64 n2) ∧ w'.cell? ⟨w.heap.size + 1, 1, none⟩ = some (.int .i64 d2)) (first | with_reducible exact ⟨(cell_set2 _ _ _ _ (by omega)).trans (keep_cell hbw q0 k0_0), (cell_set2 _ _ _ _ (by omega)).trans (keep_cell hbw q0 k0_1), (cell_set2 _ _ _ _ (by omega)).trans (keep_cell hbw q1 k1_0), (cell_set2 _ _ _ _ (by omega)).trans (keep_cell hbw q1 k1_1)⟩ | exact (unhide KEEP) _ (by (repeat (first | with_reducible exact Below.refl _ _ | with_reducible assumption | with_reducible refine Below.drew ?_ | with_reducible refine below_alloc ?_ _)))) (first | (go_at_call_of 42 (Value.agg #[.int .i64 n2, .int .i64 d2]); refine ((unhide HN1) _).mono ?_; rintro e' w' ⟨rfl, hb1⟩; have hbw := below_step (w := W1) (by (repeat (first | with_reducible exact Below.refl _ _ | with_reducible assumption | with_reducible refine Below.drew ?_ | with_reducible refine below_alloc ?_ _))) hb1; obtain ⟨hc, hfz⟩ := bcell hbw) | (go_at_call_of 42 (Value.agg #[.int .i64 n1, .int .i64 d1]); refine ((unhide HN2) _).mono ?_; rintro e' w' ⟨rfl, hb2⟩; have hbw := below_step (w := W1) (by (repeat (first | with_reducible exact Below.refl _ _ | with_reducible assumption | with_reducible refine Below.drew ?_ | with_reducible refine below_alloc ?_ _))) hb2; obtain ⟨hc, hfz⟩ := bcell hbw) | (go_at_call_of 41 (Value.agg #[.int .i64 m2, .int .i64 d2]); refine ((unhide HS) _).mono ?_; rintro e' w' ⟨rfl, hb3⟩; have hbw := below_step (w := W1) (by (repeat (first | with_reducible exact Below.refl _ _ | with_reducible assumption | with_reducible refine Below.drew ?_ | with_reducible refine below_alloc ?_ _))) hb3; obtain ⟨hc, hfz⟩ := bcell hbw) | (go_at_call_of 42 (Value.agg #[.int .i64 r, .int .i64 s]); refine ((unhide HN3) _).mono ?_; rintro e' w' ⟨rfl, hb4⟩; have hbw := below_step (w := W1) (by (repeat (first | with_reducible exact Below.refl _ _ | with_reducible assumption | with_reducible refine Below.drew ?_ | with_reducible refine below_alloc ?_ _))) hb4; obtain ⟨hc, hfz⟩ := bcell hbw))
  clear KEEP
  try clear hc hfz
  obtain ⟨hc, hfz⟩ := bcell hbw
  replace k0_0 := (hc _ _ q0).trans k0_0
  replace k0_1 := (hc _ _ q0).trans k0_1
  replace k1_0 := (hc _ _ q1).trans k1_0
  replace k1_1 := (hc _ _ q1).trans k1_1
  replace k2_0 := (hc _ _ q2).trans k2_0
  replace k2_1 := (hc _ _ q2).trans k2_1
  replace f2_0 := (hfz _ _ q2).trans f2_0
  replace f2_1 := (hfz _ _ q2).trans f2_1
  replace q0 := Nat.lt_of_lt_of_le q0 hbw.size
  replace q1 := Nat.lt_of_lt_of_le q1 hbw.size
  replace q2 := Nat.lt_of_lt_of_le q2 hbw.size
  replace hw0 := below_step' hw0 hbw
  clear hbw hc hfz
  go_wp2_with fail
  exact bodyPost_ret (v := .tuple #[.agg #[.int .i64 t, .int .i64 s], .int .i64 0]) (by simp [results, Tryd.results14, go_sem, k2_0, k2_1, q2]) rfl
    ⟨rfl, hw0.grown (set2_grown _ _ _ _) hw0.size (fun k hk => by injection hk with hk; omega)⟩

theorem sgn_gt_ (z : Int) : 0 < sgn z ↔ 0 < z := by
  unfold sgn; (repeat' split) <;> omega
theorem pSimplest_any (n1 d1 n2 d2 : Int) (w : World) (hT : Tab w) :
    Calls Tryd.prog 14 #[(Value.agg #[.int .i64 n1, .int .i64 d1]), (Value.agg #[.int .i64 n2, .int .i64 d2])] w fun e w' => TolR w (Wd.simpT n1 d1 n2 d2) e w' := by
  have hcm := fun W (hW : Tab W) => cmpR_any n1 d1 n2 d2 W hW
  unfold CmpR cmpC fstE at hcm
  by_cases ok : Wd.okR n1 d1 ∧ Wd.okR n2 d2
  · simp only [if_pos ok] at hcm
    obtain ⟨a1, a2, a3, a4⟩ := Wd.okR_nat ok.1
    obtain ⟨b1, b2, b3, b4⟩ := Wd.okR_nat ok.2
    by_cases hle : 0 < n1 * d2 - n2 * d1
    · have e : Wd.simpT n1 d1 n2 d2 = ⟨0, 0, 1⟩ := (if_pos ok).trans (if_pos hle)
      rw [e]
      exact ps_gt n1 d1 n2 d2 _ w hT hcm ((sgn_gt_ _).2 hle)
    · have ho : ¬ 0 < sgn (n1 * d2 - n2 * d1) := fun h => hle ((sgn_gt_ _).1 h)
      by_cases hp : 0 < n1
      · have e := ((if_pos ok).trans (if_neg hle)).trans (if_pos hp) (a := Wd.simpT n1 d1 n2 d2)
        rw [e]
        obtain ⟨c1, c2⟩ := Wd.simpOk_pos ok.1 ok.2 hle hp
        have hs := fun W => psimp_any (d1.natAbs + d2.natAbs) n1.natAbs d1.natAbs n2.natAbs d2.natAbs W c2 (Nat.le_refl _) a3 a2 b3 b2
        rw [Int.natAbs_of_nonneg (show 0 ≤ n1 by omega), Int.natAbs_of_nonneg (show 0 ≤ d1 by omega), Int.natAbs_of_nonneg (show 0 ≤ n2 by omega), Int.natAbs_of_nonneg (show 0 ≤ d2 by omega)] at hs
        exact ps_pos n1 d1 n2 d2 _ w hT hcm _ _ ho hp hs
      · by_cases hn : n2 < 0
        · have e := (((if_pos ok).trans (if_neg hle)).trans (if_neg hp)).trans (if_pos hn) (a := Wd.simpT n1 d1 n2 d2)
          rw [e]
          obtain ⟨c1, c2⟩ := Wd.simpOk_neg ok.1 ok.2 hle hn
          have hs := fun W => psimp_any (d2.natAbs + d1.natAbs) n2.natAbs d2.natAbs n1.natAbs d1.natAbs W c2 (Nat.le_refl _) b3 b2 a3 a2
          have hr := Wd.simp_res (d2.natAbs + d1.natAbs) n2.natAbs d2.natAbs n1.natAbs d1.natAbs c2 (Nat.le_refl _)
          have r1 := hr.na; have r2 := hr.eb
          clear hr c2
          generalize Wd.simp (d2.natAbs + d1.natAbs) n2.natAbs d2.natAbs n1.natAbs d1.natAbs = rs at *
          obtain ⟨r, s⟩ := rs
          dsimp only at hs r1 r2 ⊢
          rw [show ((n2.natAbs : Nat) : Int) = -n2 by omega, show ((d2.natAbs : Nat) : Int) = d2 by omega, show ((n1.natAbs : Nat) : Int) = -n1 by omega, show ((d1.natAbs : Nat) : Int) = d1 by omega] at hs
          exact ps_neg n1 d1 n2 d2 _ w hT hcm (-n1) (-n2) _ _ _ ho hp hn (fun W => pneg_any n2 d2 (-n2) W rfl (by omega)) (fun W => pneg_any n1 d1 (-n1) W rfl (by omega)) hs (fun W => pneg_any (r : Int) (s : Int) (-(r : Int)) W rfl (by omega))
        · have e := (((if_pos ok).trans (if_neg hle)).trans (if_neg hp)).trans (if_neg hn) (a := Wd.simpT n1 d1 n2 d2)
          rw [e]
          exact ps_mid n1 d1 n2 d2 _ w hT hcm ho hp hn
  · simp only [if_neg ok] at hcm
    have e : Wd.simpT n1 d1 n2 d2 = ⟨0, 0, 1⟩ := if_neg ok
    rw [e]
    exact ps_bad n1 d1 n2 d2 _ w hT hcm

end Go.Proofs.YtadclbankpmebaaDoor
/- Numbers as arguments of the reference. -/
namespace Go.Proofs.YtadclbankpmebaaDoor
open Go.RowKit


theorem okR_bounds {n d : Int} (h : Wd.okR n d) : -9223372036854775808 ≤ n ∧ n ≤ 9223372036854775807 ∧ -9223372036854775808 ≤ d ∧ d ≤ 9223372036854775807 ∧ d ≠ 0 := by
  obtain ⟨r1, r2, r3, r4, _⟩ := h
  exact ⟨by omega, by omega, by omega, by omega, by omega⟩
theorem okR_szq {n d : Int} (h : Wd.okR n d) : Wd.SzQ B32 2 (Wd.qR n d) := by
  obtain ⟨a1, a2⟩ := Wd.qR_ok h
  obtain ⟨r1, r2, r3, r4, _⟩ := h
  unfold Wd.SzQ Wd.Sz
  rw [a1, a2, B32_eq]
  exact ⟨by omega, by omega⟩
theorem of_ok {n d : Int} (h : Wd.okR n d) (W : World) : Calls Tryd.prog 17 #[(Value.agg #[.int .i64 n, .int .i64 d])] W fun e w' => QR W (Wd.qR n d) e w' := by
  obtain ⟨b1, b2, b3, b4, b5⟩ := okR_bounds h
  exact tOf_any n d W b1 b2 b3 b4 b5
end Go.Proofs.YtadclbankpmebaaDoor
/- The law of the simplest and the nearest number: its numbers. -/
namespace Go.Proofs.YtadclbankpmebaaDoor
open Go.RowKit

theorem sz_num {n : Int} (h1 : -1000000000000 ≤ n) (h2 : n ≤ 1000000000000) : Wd.Sz B32 2 n := by
  have : (1000000000000 : Nat) < B32 ^ 2 := by decide
  unfold Wd.Sz; omega
theorem szq_div {K : Nat} {n d : Int} (hd : d ≠ 0) (hn : Wd.Sz B32 K n) (hdd : Wd.Sz B32 K d) : Wd.SzQ B32 K (Rat.divInt n d) := by
  obtain ⟨h1, h2⟩ := Wd.divInt_parts n d hd
  exact ⟨by rw [h1]; exact hn.tdiv _, by rw [h2]; exact hdd.tdiv _⟩
theorem ocq {K : Nat} {x y : Rat} (sx : Wd.SzQ B32 K x) (sy : Wd.SzQ B32 K y) (hK : 2 * K ≤ 35184372088832) : OpCQ x y (sgn (x.num * (y.den : Int) - y.num * (x.den : Int))) :=
  fun A1 c1 l1 m1 A2 c2 l2 m2 A3 c3 l3 m3 A4 c4 l4 m4 W h1 h2 h3 h4 => tqcmp_any A1 c1 l1 m1 A2 c2 l2 m2 A3 c3 l3 m3 A4 c4 l4 m4 x y W h1 h2 h3 h4 (by have := h1.len sx.1; have := h4.len sy.2; omega) (by have := h3.len sy.1; have := h2.len sx.2; omega)
theorem os_ {K : Nat} {x y : Rat} (sx : Wd.SzQ B32 K x) (sy : Wd.SzQ B32 K y) (hK : 4 * K + 4 ≤ 35184372088832) : Op2Q 20 x y (x - y) :=
  fun A1 c1 l1 m1 A2 c2 l2 m2 A3 c3 l3 m3 A4 c4 l4 m4 W h1 h2 h3 h4 => tqsub_any K A1 c1 l1 m1 A2 c2 l2 m2 A3 c3 l3 m3 A4 c4 l4 m4 x y W (QV.of h1 h2) (QV.of h3 h4) sx sy hK
theorem oa_ (x : Rat) : Op1Q 21 x (Wd.absQ x) :=
  fun A1 c1 l1 m1 A2 c2 l2 m2 W h1 h2 => tqabs_any A1 c1 l1 m1 A2 c2 l2 m2 x W h1 h2
theorem szq_far2 {n d N D : Int} (hd : 0 < d) (hn : Wd.Sz B32 2 n) (hdd : Wd.Sz B32 2 d) (ok : Wd.okR N D) : Wd.SzQ B32 5 (Wd.absQ (Rat.divInt n d - Wd.qR N D)) := by
  have hD := ok.1
  have hN := sz_num ok.2.2.1 ok.2.2.2.1
  have hDD := sz_num (n := D) (by omega) ok.2.1
  have e : Rat.divInt n d - Wd.qR N D = Rat.divInt (n * D - N * d) (d * D) := Wd.qR_sub hd (by omega)
  rw [e, Wd.absQ_divInt (Int.mul_pos hd (by omega))]
  have s1 : Wd.Sz B32 5 (n * D - N * d) := by
    rw [Int.sub_eq_add_neg]
    exact Wd.Sz.add B32_pos (hn.mul hDD) (hN.mul hdd).neg
  refine szq_div (Int.ne_of_gt (Int.mul_pos hd (by omega))) ?_ ((hdd.mul hDD).mono B32_pos (by omega))
  unfold Wd.Sz at *
  rw [Int.natAbs_natCast]; exact s1
theorem szq_far {n d N D : Int} (oa : Wd.okR n d) (ok : Wd.okR N D) : Wd.SzQ B32 5 (Wd.absQ (Wd.qR n d - Wd.qR N D)) :=
  szq_far2 (by have := oa.1; omega) (sz_num oa.2.2.1 oa.2.2.2.1) (sz_num (by have := oa.1; omega) oa.2.1) ok
theorem sgn_ge {z : Int} (h : 0 ≤ sgn z) : 0 ≤ z := by
  unfold sgn at h; split at h <;> omega
theorem sgn_le {z : Int} (h : sgn z ≤ 0) : z ≤ 0 := by
  unfold sgn at h; repeat' split at h
  all_goals omega
theorem sgn_le_of {z : Int} (h : z ≤ 0) : sgn z ≤ 0 := by
  unfold sgn; split
  · omega
  · rw [if_neg (by omega)]; omega
end Go.Proofs.YtadclbankpmebaaDoor
/- The frame of the laws' rows: numbers as arguments; the listed table; a call that only makes new memory. -/
namespace Go.Proofs.YtadclbankpmebaaDoor
open Go.Joins Go.ChangeShapes Go.WideShapes Go.ChangeAt Go.RowKit

theorem own : ownKnob Tryd.prog.godebug = none := by kernel_rfl
/-- What the rows list: one table. -/
def laidL {H : Type} : List (String × DataW H) := [("math/bits.deBruijn64tab", Rows.laid_math_bits_deBruijn64tab)]
theorem tab_list : (Rows.laid_math_bits_deBruijn64tab : DataW Unit) = .agg (Lib.deBruijn64tab.map fun (n : Nat) => .lit (.int .u8 (n : Int))) := by kernel_rfl
theorem tab_of {W : World} (h : laidMetH Tryd.prog laidL W) : Tab W := by
  rw [MakeChecks.laidMetH_plain _ _ _ (by kernel_rfl)] at h
  obtain ⟨ps, ⟨g, t, cs, fuel, p, q, hg, ht, hv, hd, _, _⟩, _, _⟩ := h
  obtain rfl := Option.some.inj ((show Tryd.prog.globalNamed "math/bits.deBruijn64tab" = some 0 by kernel_rfl).symm.trans hg)
  obtain rfl := Option.some.inj ((show (Tryd.prog.globals[0]?).map (·.type) = some 130 by kernel_rfl).symm.trans ht)
  obtain ⟨xs, m, _, ex, hcl, hl, hel⟩ := DataW.trod_array Tryd.underlying130 hd
  have c5 : Tryd.prog.cellsOf 5 = 1 := by kernel_rfl
  have hlen : Lib.deBruijn64tab.length = 64 := by kernel_rfl
  rw [tab_list] at ex
  have e3 : (xs.map (·.1)) = Lib.deBruijn64tab.map fun (n : Nat) => .lit (.int .u8 (n : Int)) := (DataW.agg.inj (Prod.mk.inj ex).1).symm
  have cell : ∀ r : Nat, r < 64 → W.cell? ⟨0, r, none⟩ = some (.int .u8 (Lib.deBruijn64tab.getD r 0)) := fun r hr => by
    have hE := hel r hr
    rw [c5, Nat.mul_one, List.getElem?_eq_getElem (by omega)] at hE
    obtain ⟨z, e1, e2, _⟩ := DataW.trod_int Tryd.underlying5 hE
    have e4 : (xs.map (·.1))[r]? = (Lib.deBruijn64tab.map fun (n : Nat) => (DataW.lit (.int .u8 (n : Int)) : DataW Unit))[r]? := by rw [e3]
    rw [List.getElem?_map, List.getElem?_map, List.getElem?_eq_getElem (by omega : r < xs.length), List.getElem?_eq_getElem (by omega : r < Lib.deBruijn64tab.length), e2] at e4
    have hz : z = (Lib.deBruijn64tab.getD r 0 : Nat) := by
      simp only [Option.map_some, Option.some.injEq, DataW.lit.injEq, Lit.int.injEq, true_and] at e4
      rw [e4, List.getD, List.getElem?_eq_getElem (by omega : r < Lib.deBruijn64tab.length)]; rfl
    rw [World.var?_cell hg hv r, ← hz]
    have : cs.toList[r]? = some (.int .u8 z) := by
      have h0 : ((cs.toList.drop r).take 1)[0]? = some (.int .u8 z) := by rw [e1]; rfl
      simpa using h0
    simpa using this
  refine ⟨fun j hj => cell j (by omega), ?_⟩
  have h0 := cell 0 (by omega)
  rcases Nat.lt_or_ge 0 W.heap.size with hlt | hge
  · exact hlt
  · simp [World.cell?, Array.getElem?_eq_none hge] at h0

set_option maxRecDepth 100000 in
/-- A number as an argument: two ints. -/
theorem open_rat {H : Type} {enc : TypeId × Value → H} {w : World} {base : Nat} {spare : Nat → Bool} {held : Bool} {r : Reach} {b0 : Nat} {v : Value} {d : DataW H} {p : List MemPlace}
    (hv : Value.okWide Tryd.prog w r b0 23 v) (h : DataW.Trod enc Tryd.prog w base spare held 23 v d p) :
    ∃ n m : Int, v = .agg #[.int .i64 n, .int .i64 m] ∧ d = .agg [.lit (.int .i64 n), .lit (.int .i64 m)] ∧ p = [] ∧ (Lit.int .i64 n).wf = true ∧ (Lit.int .i64 m).wf = true := by
  obtain ⟨v0, v1, y0, y1, k, rfl, rfl, rfl, h0, h1⟩ := open_agg2 Tryd.underlying23 (by kernel_rfl) (by kernel_rfl) hv h
  obtain ⟨n, e0, rfl, w0⟩ := DataW.trod_int Tryd.underlying3 h0
  obtain ⟨m, e1, rfl, w1⟩ := DataW.trod_int Tryd.underlying3 h1
  simp only [List.cons.injEq, and_true] at e0 e1
  subst e0 e1
  exact ⟨n, m, rfl, rfl, rfl, w0, w1⟩
set_option maxRecDepth 100000 in
theorem shut_rat {H : Type} {enc : TypeId × Value → H} {w : World} {base : Nat} {spare : Nat → Bool} {held : Bool} {n m : Int} (w0 : (Lit.int .i64 n).wf = true) (w1 : (Lit.int .i64 m).wf = true) :
    DataW.Trod enc Tryd.prog w base spare held 23 (.agg #[.int .i64 n, .int .i64 m]) (.agg [.lit (.int .i64 n), .lit (.int .i64 m)]) [] := by
  have i0 : ∀ k : Int, (Lit.int .i64 k).wf = true → ∃ f, DataW.trod enc Tryd.prog w base spare held f 3 [.int .i64 k] = some (.lit (.int .i64 k), []) := fun k hk => shut_int Tryd.underlying3 hk
  exact shut_agg2 (y0 := (.lit (.int .i64 n), [])) (y1 := (.lit (.int .i64 m), [])) Tryd.underlying23 (by kernel_rfl) (by kernel_rfl) (i0 n w0) (i0 m w1)
theorem wf_bounds {n : Int} (h : (Lit.int .i64 n).wf = true) : -9223372036854775808 ≤ n ∧ n ≤ 9223372036854775807 := bounds_i64 h

/-- A call that only makes new memory, and hands back what the law asks. -/
theorem post_below {H : Type} {enc : TypeId × Value → H} {P : Program} {f : Func} {s : ChangeSpec} {apart : Bool} {W W' : World} {args : Array Value} {v : Value} {ds gs : List (DataW H)}
    (hW : DataW.Whole enc P f.params.toList s.vars apart W args.toList ds gs [])
    (hres : DataW.TrodAll enc P W' W.heap.size (fun _ => false) false f.resultTypes.toList (v.resultList f.resultTypes.size) (s.fn H (ds ++ gs)).results [])
    (hargs : DataW.TrodAll enc P W' 0 (fun b => decide (b < W.heap.size)) true f.params.toList args.toList (s.fn H (ds ++ gs)).args [])
    (hvars : DataW.TrodVars enc P W' (fun b => decide (b < W.heap.size)) s.vars (s.fn H (ds ++ gs)).vars []) (hb : Below W.heap.size W W') :
    s.post enc P f apart true false false W args v W' :=
  ⟨ds, gs, [], [], [], [], hW, hres, hargs, hvars, hb.frame _, fun h => by cases h⟩
end Go.Proofs.YtadclbankpmebaaDoor
