/- Texts beneath a law of layer 1. -/
import Derived.Test.YtfgeaakhlcaibaaGreatDoorCy6
import Derived.BigQuiet
import Derived.Deep.QuietTactic
import Derived.Laws.Bits64b
import Derived.Deep.CutBlock
import Derived.Deep.DeepCutAuto
set_option maxRecDepth 100000
set_option maxHeartbeats 16000000
namespace Go.Proofs.YtfgeaakhlcaibaaGreatDoor
open Go.RowKit

theorem apb (s1 : Int) (cz : Bool) (A1 : Option Addr) (c1 : Nat) (l1 : List Nat) (z1 : Int) (s2 : Int) (cu : Bool) (A2 : Option Addr) (c2 : Nat) (l2 : List Nat) (z2 : Int) (w : World) (h1 : fq w s1 cz A1 c1 l1 z1) (h2 : fq w s2 cu A2 c2 l2 z2) (a1 : ¬ l1.length = 0) :
  Calls Tryz.prog 69 #[(Value.agg #[.int .i64 s1, .bool cz, .slice A1 l1.length c1, .int .i64 s2, .bool cu, .slice A2 l2.length c2])] w fun e w' => e = .returned (.tuple #[.agg #[.int .i64 0, .int .i64 0], .int .i64 3]) ∧ Below w.heap.size w w' := by
 have nz := hide (fun W => zu s1 cz A1 c1 l1.length W)
 have HS2 := hide (fun W => zu s2 cu A2 c2 l2.length W)
 rw [decide_eq_false a1] at nz
 obtain ⟨B2, hB2⟩ : ∃ b, b = decide (l2.length = 0) := ⟨_, rfl⟩
 rw [← hB2] at HS2
 clear hB2
 clear a1 h1 h2
 go_enter Tryz.func69, Tryz.ntmps69
 go_wp2_with fail
 obtain ⟨n0, n1, hsz, hw0⟩ := qw w (.cells #[.int .i64 s1, .bool cz, .slice A1 l1.length c1, .int .i64 s2, .bool cu, .slice A2 l2.length c2] 79) (.cells #[.int .i64 0, .int .i64 0] 23)
 generalize ((w.alloc (.cells #[.int .i64 s1, .bool cz, .slice A1 l1.length c1, .int .i64 s2, .bool cu, .slice A2 l2.length c2] 79)).alloc (.cells #[.int .i64 0, .int .i64 0] 23)) = W0 at *
 have uh : W0.cell? ⟨w.heap.size, 0, none⟩ = some (.int .i64 s1) := ag n0 0
 have ug : W0.cell? ⟨w.heap.size, 1, none⟩ = some (.bool cz) := ag n0 1
 have yz : W0.cell? ⟨w.heap.size, 2, none⟩ = some (.slice A1 l1.length c1) := ag n0 2
 have Aw : W0.cell? ⟨w.heap.size, 3, none⟩ = some (.int .i64 s2) := ag n0 3
 have Ci : W0.cell? ⟨w.heap.size, 4, none⟩ = some (.bool cu) := ag n0 4
 have Ch : W0.cell? ⟨w.heap.size, 5, none⟩ = some (.slice A2 l2.length c2) := ag n0 5
 have q0 : w.heap.size < W0.heap.size := by omega
 have xu : W0.cell? ⟨w.heap.size + 1, 0, none⟩ = some (.int .i64 0) := ag n1 0
 have xq : W0.cell? ⟨w.heap.size + 1, 1, none⟩ = some (.int .i64 0) := ag n1 1
 have q1 : w.heap.size + 1 < W0.heap.size := by omega
 have Mw := ai n1 0
 have Mv := ai n1 1
 have NR := Lib.hid n1
 clear n0 n1
 refine ((aa nz) _).mono ?_
 rintro e w3 ⟨rfl, hb⟩
 have hbw := bz (w := W0) bem hb
 obtain ⟨hc, hfz⟩ := dz hbw
 go_wp2_with fail
 refine ((aa HS2) _).mono ?_
 rintro e w4 ⟨rfl, hb⟩
 have hbw := bz (w := W0) bem hb
 obtain ⟨hc, hfz⟩ := dz hbw
 have jh : Below w.heap.size w w4 := bg hw0 hbw
 go_wp2_with fail
 exact bodyPost_ret (v := .tuple #[.agg #[.int .i64 0, .int .i64 0], .int .i64 3]) (by simp [results, Tryz.results69, go_sem, hc, xu, xq, q1]) rfl
  ⟨rfl, jh.grown (mh _ _ _ _) jh.size (fun k hk => by injection hk with hk; omega)⟩
theorem apa (s1 : Int) (cz : Bool) (A1 : Option Addr) (c1 : Nat) (l1 : List Nat) (z1 : Int) (s2 : Int) (cu : Bool) (A2 : Option Addr) (c2 : Nat) (l2 : List Nat) (z2 : Int) (w : World) (h1 : fq w s1 cz A1 c1 l1 z1) (h2 : fq w s2 cu A2 c2 l2 z2) (a1 : l1.length = 0) (a2 : ¬ l2.length = 0) :
  Calls Tryz.prog 69 #[(Value.agg #[.int .i64 s1, .bool cz, .slice A1 l1.length c1, .int .i64 s2, .bool cu, .slice A2 l2.length c2])] w fun e w' => e = .returned (.tuple #[.agg #[.int .i64 0, .int .i64 0], .int .i64 3]) ∧ Below w.heap.size w w' := by
 have nz := hide (fun W => zu s1 cz A1 c1 l1.length W)
 have HS2 := hide (fun W => zu s2 cu A2 c2 l2.length W)
 rw [decide_eq_true a1] at nz
 rw [decide_eq_false a2] at HS2
 clear a1 a2 h1 h2
 go_enter Tryz.func69, Tryz.ntmps69
 go_wp2_with fail
 obtain ⟨n0, n1, hsz, hw0⟩ := qw w (.cells #[.int .i64 s1, .bool cz, .slice A1 l1.length c1, .int .i64 s2, .bool cu, .slice A2 l2.length c2] 79) (.cells #[.int .i64 0, .int .i64 0] 23)
 generalize ((w.alloc (.cells #[.int .i64 s1, .bool cz, .slice A1 l1.length c1, .int .i64 s2, .bool cu, .slice A2 l2.length c2] 79)).alloc (.cells #[.int .i64 0, .int .i64 0] 23)) = W0 at *
 have uh : W0.cell? ⟨w.heap.size, 0, none⟩ = some (.int .i64 s1) := ag n0 0
 have ug : W0.cell? ⟨w.heap.size, 1, none⟩ = some (.bool cz) := ag n0 1
 have yz : W0.cell? ⟨w.heap.size, 2, none⟩ = some (.slice A1 l1.length c1) := ag n0 2
 have Aw : W0.cell? ⟨w.heap.size, 3, none⟩ = some (.int .i64 s2) := ag n0 3
 have Ci : W0.cell? ⟨w.heap.size, 4, none⟩ = some (.bool cu) := ag n0 4
 have Ch : W0.cell? ⟨w.heap.size, 5, none⟩ = some (.slice A2 l2.length c2) := ag n0 5
 have q0 : w.heap.size < W0.heap.size := by omega
 have xu : W0.cell? ⟨w.heap.size + 1, 0, none⟩ = some (.int .i64 0) := ag n1 0
 have xq : W0.cell? ⟨w.heap.size + 1, 1, none⟩ = some (.int .i64 0) := ag n1 1
 have q1 : w.heap.size + 1 < W0.heap.size := by omega
 have Mw := ai n1 0
 have Mv := ai n1 1
 have NR := Lib.hid n1
 clear n0 n1
 refine ((aa nz) _).mono ?_
 rintro e w3 ⟨rfl, hb⟩
 have hbw := bz (w := W0) bem hb
 obtain ⟨hc, hfz⟩ := dz hbw
 go_wp2_with fail
 refine ((aa HS2) _).mono ?_
 rintro e w4 ⟨rfl, hb⟩
 have hbw := bz (w := W0) bem hb
 obtain ⟨hc, hfz⟩ := dz hbw
 have jh : Below w.heap.size w w4 := bg hw0 hbw
 go_wp2_with fail
 exact bodyPost_ret (v := .tuple #[.agg #[.int .i64 0, .int .i64 0], .int .i64 3]) (by simp [results, Tryz.results69, go_sem, hc, xu, xq, q1]) rfl
  ⟨rfl, jh.grown (mh _ _ _ _) jh.size (fun k hk => by injection hk with hk; omega)⟩
theorem azz (s1 : Int) (cz : Bool) (A1 : Option Addr) (c1 : Nat) (l1 : List Nat) (z1 : Int) (s2 : Int) (cu : Bool) (A2 : Option Addr) (c2 : Nat) (l2 : List Nat) (z2 : Int) (w : World) (h1 : fq w s1 cz A1 c1 l1 z1) (h2 : fq w s2 cu A2 c2 l2 z2) (a1 : l1.length = 0) (a2 : l2.length = 0) (g1 : s1 < -1000000000000) :
  Calls Tryz.prog 69 #[(Value.agg #[.int .i64 s1, .bool cz, .slice A1 l1.length c1, .int .i64 s2, .bool cu, .slice A2 l2.length c2])] w fun e w' => e = .returned (.tuple #[.agg #[.int .i64 0, .int .i64 0], .int .i64 3]) ∧ Below w.heap.size w w' := by
 have nz := hide (fun W => zu s1 cz A1 c1 l1.length W)
 have HS2 := hide (fun W => zu s2 cu A2 c2 l2.length W)
 rw [decide_eq_true a1] at nz
 rw [decide_eq_true a2] at HS2
 have d1 : decide (s1 < -1000000000000) = true := decide_eq_true om
 clear a1 a2 h1 h2 g1
 go_enter Tryz.func69, Tryz.ntmps69
 go_wp2_with fail
 obtain ⟨n0, n1, hsz, hw0⟩ := qw w (.cells #[.int .i64 s1, .bool cz, .slice A1 l1.length c1, .int .i64 s2, .bool cu, .slice A2 l2.length c2] 79) (.cells #[.int .i64 0, .int .i64 0] 23)
 generalize ((w.alloc (.cells #[.int .i64 s1, .bool cz, .slice A1 l1.length c1, .int .i64 s2, .bool cu, .slice A2 l2.length c2] 79)).alloc (.cells #[.int .i64 0, .int .i64 0] 23)) = W0 at *
 have uh : W0.cell? ⟨w.heap.size, 0, none⟩ = some (.int .i64 s1) := ag n0 0
 have ug : W0.cell? ⟨w.heap.size, 1, none⟩ = some (.bool cz) := ag n0 1
 have yz : W0.cell? ⟨w.heap.size, 2, none⟩ = some (.slice A1 l1.length c1) := ag n0 2
 have Aw : W0.cell? ⟨w.heap.size, 3, none⟩ = some (.int .i64 s2) := ag n0 3
 have Ci : W0.cell? ⟨w.heap.size, 4, none⟩ = some (.bool cu) := ag n0 4
 have Ch : W0.cell? ⟨w.heap.size, 5, none⟩ = some (.slice A2 l2.length c2) := ag n0 5
 have q0 : w.heap.size < W0.heap.size := by omega
 have xu : W0.cell? ⟨w.heap.size + 1, 0, none⟩ = some (.int .i64 0) := ag n1 0
 have xq : W0.cell? ⟨w.heap.size + 1, 1, none⟩ = some (.int .i64 0) := ag n1 1
 have q1 : w.heap.size + 1 < W0.heap.size := by omega
 have Mw := ai n1 0
 have Mv := ai n1 1
 have NR := Lib.hid n1
 clear n0 n1
 refine ((aa nz) _).mono ?_
 rintro e w3 ⟨rfl, hb⟩
 have hbw := bz (w := W0) bem hb
 obtain ⟨hc, hfz⟩ := dz hbw
 go_wp2_with fail
 refine ((aa HS2) _).mono ?_
 rintro e w4 ⟨rfl, hb⟩
 have hbw := bz (w := W0) bem hb
 obtain ⟨hc, hfz⟩ := dz hbw
 have jh : Below w.heap.size w w4 := bg hw0 hbw
 go_wp2_with fail
 exact bodyPost_ret (v := .tuple #[.agg #[.int .i64 0, .int .i64 0], .int .i64 3]) (by simp [results, Tryz.results69, go_sem, hc, xu, xq, q1]) rfl
  ⟨rfl, jh.grown (mh _ _ _ _) jh.size (fun k hk => by injection hk with hk; omega)⟩
theorem baa (s1 : Int) (cz : Bool) (A1 : Option Addr) (c1 : Nat) (l1 : List Nat) (z1 : Int) (s2 : Int) (cu : Bool) (A2 : Option Addr) (c2 : Nat) (l2 : List Nat) (z2 : Int) (w : World) (h1 : fq w s1 cz A1 c1 l1 z1) (h2 : fq w s2 cu A2 c2 l2 z2) (a1 : l1.length = 0) (a2 : l2.length = 0) (g1 : 1000000000000 < s1) :
  Calls Tryz.prog 69 #[(Value.agg #[.int .i64 s1, .bool cz, .slice A1 l1.length c1, .int .i64 s2, .bool cu, .slice A2 l2.length c2])] w fun e w' => e = .returned (.tuple #[.agg #[.int .i64 0, .int .i64 0], .int .i64 3]) ∧ Below w.heap.size w w' := by
 have nz := hide (fun W => zu s1 cz A1 c1 l1.length W)
 have HS2 := hide (fun W => zu s2 cu A2 c2 l2.length W)
 rw [decide_eq_true a1] at nz
 rw [decide_eq_true a2] at HS2
 have d1 : decide (s1 < -1000000000000) = false := decide_eq_false om
 have d2 : decide (1000000000000 < s1) = true := decide_eq_true om
 clear a1 a2 h1 h2 g1
 go_enter Tryz.func69, Tryz.ntmps69
 go_wp2_with fail
 obtain ⟨n0, n1, hsz, hw0⟩ := qw w (.cells #[.int .i64 s1, .bool cz, .slice A1 l1.length c1, .int .i64 s2, .bool cu, .slice A2 l2.length c2] 79) (.cells #[.int .i64 0, .int .i64 0] 23)
 generalize ((w.alloc (.cells #[.int .i64 s1, .bool cz, .slice A1 l1.length c1, .int .i64 s2, .bool cu, .slice A2 l2.length c2] 79)).alloc (.cells #[.int .i64 0, .int .i64 0] 23)) = W0 at *
 have uh : W0.cell? ⟨w.heap.size, 0, none⟩ = some (.int .i64 s1) := ag n0 0
 have ug : W0.cell? ⟨w.heap.size, 1, none⟩ = some (.bool cz) := ag n0 1
 have yz : W0.cell? ⟨w.heap.size, 2, none⟩ = some (.slice A1 l1.length c1) := ag n0 2
 have Aw : W0.cell? ⟨w.heap.size, 3, none⟩ = some (.int .i64 s2) := ag n0 3
 have Ci : W0.cell? ⟨w.heap.size, 4, none⟩ = some (.bool cu) := ag n0 4
 have Ch : W0.cell? ⟨w.heap.size, 5, none⟩ = some (.slice A2 l2.length c2) := ag n0 5
 have q0 : w.heap.size < W0.heap.size := by omega
 have xu : W0.cell? ⟨w.heap.size + 1, 0, none⟩ = some (.int .i64 0) := ag n1 0
 have xq : W0.cell? ⟨w.heap.size + 1, 1, none⟩ = some (.int .i64 0) := ag n1 1
 have q1 : w.heap.size + 1 < W0.heap.size := by omega
 have Mw := ai n1 0
 have Mv := ai n1 1
 have NR := Lib.hid n1
 clear n0 n1
 refine ((aa nz) _).mono ?_
 rintro e w3 ⟨rfl, hb⟩
 have hbw := bz (w := W0) bem hb
 obtain ⟨hc, hfz⟩ := dz hbw
 go_wp2_with fail
 refine ((aa HS2) _).mono ?_
 rintro e w4 ⟨rfl, hb⟩
 have hbw := bz (w := W0) bem hb
 obtain ⟨hc, hfz⟩ := dz hbw
 have jh : Below w.heap.size w w4 := bg hw0 hbw
 go_wp2_with fail
 exact bodyPost_ret (v := .tuple #[.agg #[.int .i64 0, .int .i64 0], .int .i64 3]) (by simp [results, Tryz.results69, go_sem, hc, xu, xq, q1]) rfl
  ⟨rfl, jh.grown (mh _ _ _ _) jh.size (fun k hk => by injection hk with hk; omega)⟩
theorem atg (s1 : Int) (cz : Bool) (A1 : Option Addr) (c1 : Nat) (l1 : List Nat) (z1 : Int) (s2 : Int) (cu : Bool) (A2 : Option Addr) (c2 : Nat) (l2 : List Nat) (z2 : Int) (w : World) (h1 : fq w s1 cz A1 c1 l1 z1) (h2 : fq w s2 cu A2 c2 l2 z2) (a1 : l1.length = 0) (a2 : l2.length = 0) (g1 : ¬ s1 < -1000000000000) (g2 : ¬ 1000000000000 < s1) (g3 : 1000000000000 < s2) :
  Calls Tryz.prog 69 #[(Value.agg #[.int .i64 s1, .bool cz, .slice A1 l1.length c1, .int .i64 s2, .bool cu, .slice A2 l2.length c2])] w fun e w' => e = .returned (.tuple #[.agg #[.int .i64 0, .int .i64 0], .int .i64 3]) ∧ Below w.heap.size w w' := by
 have nz := hide (fun W => zu s1 cz A1 c1 l1.length W)
 have HS2 := hide (fun W => zu s2 cu A2 c2 l2.length W)
 rw [decide_eq_true a1] at nz
 rw [decide_eq_true a2] at HS2
 have d1 : decide (s1 < -1000000000000) = false := decide_eq_false om
 have d2 : decide (1000000000000 < s1) = false := decide_eq_false om
 have d3 : decide (1000000000000 < s2) = true := decide_eq_true om
 clear a1 a2 h1 h2 g1 g2 g3
 go_enter Tryz.func69, Tryz.ntmps69
 go_wp2_with fail
 obtain ⟨n0, n1, hsz, hw0⟩ := qw w (.cells #[.int .i64 s1, .bool cz, .slice A1 l1.length c1, .int .i64 s2, .bool cu, .slice A2 l2.length c2] 79) (.cells #[.int .i64 0, .int .i64 0] 23)
 generalize ((w.alloc (.cells #[.int .i64 s1, .bool cz, .slice A1 l1.length c1, .int .i64 s2, .bool cu, .slice A2 l2.length c2] 79)).alloc (.cells #[.int .i64 0, .int .i64 0] 23)) = W0 at *
 have uh : W0.cell? ⟨w.heap.size, 0, none⟩ = some (.int .i64 s1) := ag n0 0
 have ug : W0.cell? ⟨w.heap.size, 1, none⟩ = some (.bool cz) := ag n0 1
 have yz : W0.cell? ⟨w.heap.size, 2, none⟩ = some (.slice A1 l1.length c1) := ag n0 2
 have Aw : W0.cell? ⟨w.heap.size, 3, none⟩ = some (.int .i64 s2) := ag n0 3
 have Ci : W0.cell? ⟨w.heap.size, 4, none⟩ = some (.bool cu) := ag n0 4
 have Ch : W0.cell? ⟨w.heap.size, 5, none⟩ = some (.slice A2 l2.length c2) := ag n0 5
 have q0 : w.heap.size < W0.heap.size := by omega
 have xu : W0.cell? ⟨w.heap.size + 1, 0, none⟩ = some (.int .i64 0) := ag n1 0
 have xq : W0.cell? ⟨w.heap.size + 1, 1, none⟩ = some (.int .i64 0) := ag n1 1
 have q1 : w.heap.size + 1 < W0.heap.size := by omega
 have Mw := ai n1 0
 have Mv := ai n1 1
 have NR := Lib.hid n1
 clear n0 n1
 refine ((aa nz) _).mono ?_
 rintro e w3 ⟨rfl, hb⟩
 have hbw := bz (w := W0) bem hb
 obtain ⟨hc, hfz⟩ := dz hbw
 go_wp2_with fail
 refine ((aa HS2) _).mono ?_
 rintro e w4 ⟨rfl, hb⟩
 have hbw := bz (w := W0) bem hb
 obtain ⟨hc, hfz⟩ := dz hbw
 have jh : Below w.heap.size w w4 := bg hw0 hbw
 go_wp2_with fail
 exact bodyPost_ret (v := .tuple #[.agg #[.int .i64 0, .int .i64 0], .int .i64 3]) (by simp [results, Tryz.results69, go_sem, hc, xu, xq, q1]) rfl
  ⟨rfl, jh.grown (mh _ _ _ _) jh.size (fun k hk => by injection hk with hk; omega)⟩
theorem azy (s1 : Int) (cz : Bool) (A1 : Option Addr) (c1 : Nat) (l1 : List Nat) (z1 : Int) (s2 : Int) (cu : Bool) (A2 : Option Addr) (c2 : Nat) (l2 : List Nat) (z2 : Int) (w : World) (h1 : fq w s1 cz A1 c1 l1 z1) (h2 : fq w s2 cu A2 c2 l2 z2) (a1 : l1.length = 0) (a2 : l2.length = 0) (g1 : ¬ s1 < -1000000000000) (g2 : ¬ 1000000000000 < s1) (g3 : ¬ 1000000000000 < s2) :
  Calls Tryz.prog 69 #[(Value.agg #[.int .i64 s1, .bool cz, .slice A1 l1.length c1, .int .i64 s2, .bool cu, .slice A2 l2.length c2])] w fun e w' => e = .returned (.tuple #[.agg #[.int .i64 s1, .int .i64 s2], .int .i64 0]) ∧ Below w.heap.size w w' := by
 have nz := hide (fun W => zu s1 cz A1 c1 l1.length W)
 have HS2 := hide (fun W => zu s2 cu A2 c2 l2.length W)
 rw [decide_eq_true a1] at nz
 rw [decide_eq_true a2] at HS2
 have d1 : decide (s1 < -1000000000000) = false := decide_eq_false om
 have d2 : decide (1000000000000 < s1) = false := decide_eq_false om
 have d3 : decide (1000000000000 < s2) = false := decide_eq_false om
 clear a1 a2 h1 h2 g1 g2 g3
 go_enter Tryz.func69, Tryz.ntmps69
 go_wp2_with fail
 obtain ⟨n0, n1, hsz, hw0⟩ := qw w (.cells #[.int .i64 s1, .bool cz, .slice A1 l1.length c1, .int .i64 s2, .bool cu, .slice A2 l2.length c2] 79) (.cells #[.int .i64 0, .int .i64 0] 23)
 generalize ((w.alloc (.cells #[.int .i64 s1, .bool cz, .slice A1 l1.length c1, .int .i64 s2, .bool cu, .slice A2 l2.length c2] 79)).alloc (.cells #[.int .i64 0, .int .i64 0] 23)) = W0 at *
 have uh : W0.cell? ⟨w.heap.size, 0, none⟩ = some (.int .i64 s1) := ag n0 0
 have ug : W0.cell? ⟨w.heap.size, 1, none⟩ = some (.bool cz) := ag n0 1
 have yz : W0.cell? ⟨w.heap.size, 2, none⟩ = some (.slice A1 l1.length c1) := ag n0 2
 have Aw : W0.cell? ⟨w.heap.size, 3, none⟩ = some (.int .i64 s2) := ag n0 3
 have Ci : W0.cell? ⟨w.heap.size, 4, none⟩ = some (.bool cu) := ag n0 4
 have Ch : W0.cell? ⟨w.heap.size, 5, none⟩ = some (.slice A2 l2.length c2) := ag n0 5
 have q0 : w.heap.size < W0.heap.size := by omega
 have xu : W0.cell? ⟨w.heap.size + 1, 0, none⟩ = some (.int .i64 0) := ag n1 0
 have xq : W0.cell? ⟨w.heap.size + 1, 1, none⟩ = some (.int .i64 0) := ag n1 1
 have q1 : w.heap.size + 1 < W0.heap.size := by omega
 have Mw := ai n1 0
 have Mv := ai n1 1
 have NR := Lib.hid n1
 clear n0 n1
 refine ((aa nz) _).mono ?_
 rintro e w3 ⟨rfl, hb⟩
 have hbw := bz (w := W0) bem hb
 obtain ⟨hc, hfz⟩ := dz hbw
 go_wp2_with fail
 refine ((aa HS2) _).mono ?_
 rintro e w4 ⟨rfl, hb⟩
 have hbw := bz (w := W0) bem hb
 obtain ⟨hc, hfz⟩ := dz hbw
 have jh : Below w.heap.size w w4 := bg hw0 hbw
 go_wp2_with fail
 exact bodyPost_ret (v := .tuple #[.agg #[.int .i64 s1, .int .i64 s2], .int .i64 0]) (by simp [results, Tryz.results69, go_sem, hc, xu, xq, q1]) rfl
  ⟨rfl, jh.grown (mh _ _ _ _) jh.size (fun k hk => by injection hk with hk; omega)⟩

theorem Xa (s1 : Int) (cz : Bool) (A1 : Option Addr) (c1 : Nat) (l1 : List Nat) (z1 : Int) (s2 : Int) (cu : Bool) (A2 : Option Addr) (c2 : Nat) (l2 : List Nat) (z2 : Int) (w : World) (h1 : fq w s1 cz A1 c1 l1 z1) (h2 : fq w s2 cu A2 c2 l2 z2) (q : Rat) (e1 : z1 = q.num) (e2 : z2 = (q.den : Int)) :
  Calls Tryz.prog 69 #[(Value.agg #[.int .i64 s1, .bool cz, .slice A1 l1.length c1, .int .i64 s2, .bool cu, .slice A2 l2.length c2])] w fun e w' => e = .returned (.tuple #[.agg #[.int .i64 (Wd.told q).n, .int .i64 (Wd.told q).d], .int .i64 (Wd.told q).e]) ∧ Below w.heap.size w w' := by
 have hden := q.den_pos
 have big : ∀ (l : List Nat) (s : Int) (neg : Bool) (A : Option Addr) (c : Nat) (z : Int), fq w s neg A c l z → ¬ l.length = 0 → 9223372036854775808 ≤ z.natAbs := fun l s neg A c z h a => by
  rcases h.form with ⟨x, _⟩ | ⟨_, _, _, _, x⟩
  ·
   exact absurd x a
  ·
   rwa [uq] at x
 have large : ∀ P : Prop, ¬ Wd.fits q → (Wd.told q) = ⟨0, 0, 3⟩ := fun _ h => by unfold Wd.told; rw [if_neg h]
 by_cases a1 : l1.length = 0
 ·
  obtain ⟨x1, _, _⟩ := h1.zh a1
  by_cases a2 : l2.length = 0
  ·
   obtain ⟨x2, _, _⟩ := h2.zh a2
   by_cases g1 : s1 < -1000000000000
   ·
    rw [large True (fun hf => by have := hf.1; rw [Wd.Og] at this; omega)]; exact azz s1 cz A1 c1 l1 z1 s2 cu A2 c2 l2 z2 w h1 h2 a1 a2 g1
   by_cases g2 : 1000000000000 < s1
   ·
    rw [large True (fun hf => by have := hf.1; rw [Wd.Og] at this; omega)]; exact baa s1 cz A1 c1 l1 z1 s2 cu A2 c2 l2 z2 w h1 h2 a1 a2 g2
   by_cases g3 : 1000000000000 < s2
   ·
    rw [large True (fun hf => by have := hf.2; rw [Wd.Og] at this; omega)]; exact atg s1 cz A1 c1 l1 z1 s2 cu A2 c2 l2 z2 w h1 h2 a1 a2 g1 g2 g3
   have hf : Wd.fits q := by unfold Wd.fits; rw [Wd.Og]; omega
   have ht : Wd.told q = ⟨s1, s2, 0⟩ := by unfold Wd.told; rw [if_pos hf, x1, x2, e1, e2]
   rw [ht]
   exact azy s1 cz A1 c1 l1 z1 s2 cu A2 c2 l2 z2 w h1 h2 a1 a2 g1 g2 g3
  ·
   have := big _ _ _ _ _ _ h2 a2
   rw [large True (fun hf => by have := hf.2; rw [Wd.Og] at this; omega)]; exact apa s1 cz A1 c1 l1 z1 s2 cu A2 c2 l2 z2 w h1 h2 a1 a2
 ·
  have := big _ _ _ _ _ _ h1 a1
  rw [large True (fun hf => by have := hf.1; rw [Wd.Og] at this; omega)]; exact apb s1 cz A1 c1 l1 z1 s2 cu A2 c2 l2 z2 w h1 h2 a1


theorem atr (s1 : Int) (cz : Bool) (A1 : Option Addr) (c1 : Nat) (l1 : List Nat) (s2 : Int) (cu : Bool) (A2 : Option Addr) (c2 : Nat) (l2 : List Nat) (z1 z2 g r1 r2 : Int) (w : World) (f1 : fq w s1 cz A1 c1 l1 z1) (f2 : fq w s2 cu A2 c2 l2 z2) (hs : ¬ z2 < 0)
  (hg : Bl w 164 z1 z2 g) (hq1 : Bl w 165 z1 g r1) (hq2 : Bl w 165 z2 g r2) :
  Calls Tryz.prog 136 #[(Value.agg #[.int .i64 s1, .bool cz, .slice A1 l1.length c1]), (Value.agg #[.int .i64 s2, .bool cu, .slice A2 l2.length c2])] w fun e w' => Gf w r1 r2 e w' := by

 have H1 := hide f1
 have H2 := hide f2
 have HG := hide hg
 have Uo := hide hq1
 have HQ2 := hide hq2
 have hs' : decide (lh z2 < 0) = false := decide_eq_false (by rw [Ht]; exact hs)
 obtain ⟨o, ho⟩ : ∃ o, o = lh z2 := ⟨_, rfl⟩
 have HS := hide (fun W (f : fq W s2 cu A2 c2 l2 z2) => (show Calls Tryz.prog 159 #[(Value.agg #[.int .i64 s2, .bool cu, .slice A2 l2.length c2])] W fun e w' => e = .returned (.int .i64 o) ∧ Below W.heap.size W w' by rw [ho]; exact ve s2 cu A2 c2 l2 z2 W f))
 rw [← ho] at hs'
 clear f1 f2 hg hq1 hq2 hs ho
 go_enter Tryz.func136, Tryz.ntmps136
 go_upto_region 1 with fail
 obtain ⟨n0, n1, n2, hsz, hw0⟩ := oh w (.cells #[.int .i64 s1, .bool cz, .slice A1 l1.length c1] 77) (.cells #[.int .i64 s2, .bool cu, .slice A2 l2.length c2] 77) (.cells #[.int .i64 0, .bool false, .slice none 0 0, .int .i64 0, .bool false, .slice none 0 0] 79)
 generalize (((w.alloc (.cells #[.int .i64 s1, .bool cz, .slice A1 l1.length c1] 77)).alloc (.cells #[.int .i64 s2, .bool cu, .slice A2 l2.length c2] 77)).alloc (.cells #[.int .i64 0, .bool false, .slice none 0 0, .int .i64 0, .bool false, .slice none 0 0] 79)) = W0 at *
 have uh : W0.cell? ⟨w.heap.size, 0, none⟩ = some (.int .i64 s1) := ag n0 0
 have ug : W0.cell? ⟨w.heap.size, 1, none⟩ = some (.bool cz) := ag n0 1
 have yz : W0.cell? ⟨w.heap.size, 2, none⟩ = some (.slice A1 l1.length c1) := ag n0 2
 have q0 : w.heap.size < W0.heap.size := by omega
 have xu : W0.cell? ⟨w.heap.size + 1, 0, none⟩ = some (.int .i64 s2) := ag n1 0
 have xq : W0.cell? ⟨w.heap.size + 1, 1, none⟩ = some (.bool cu) := ag n1 1
 have Dw : W0.cell? ⟨w.heap.size + 1, 2, none⟩ = some (.slice A2 l2.length c2) := ag n1 2
 have q1 : w.heap.size + 1 < W0.heap.size := by omega
 have afl : W0.cell? ⟨w.heap.size + 1 + 1, 0, none⟩ = some (.int .i64 0) := ag n2 0
 have afk : W0.cell? ⟨w.heap.size + 1 + 1, 1, none⟩ = some (.bool false) := ag n2 1
 have afj : W0.cell? ⟨w.heap.size + 1 + 1, 2, none⟩ = some (.slice none 0 0) := ag n2 2
 have afi : W0.cell? ⟨w.heap.size + 1 + 1, 3, none⟩ = some (.int .i64 0) := ag n2 3
 have afh : W0.cell? ⟨w.heap.size + 1 + 1, 4, none⟩ = some (.bool false) := ag n2 4
 have afg : W0.cell? ⟨w.heap.size + 1 + 1, 5, none⟩ = some (.slice none 0 0) := ag n2 5
 have q2 : w.heap.size + 1 + 1 < W0.heap.size := by omega
 have agw := ai n2 0
 have agv := ai n2 1
 have agu := ai n2 2
 have agt := ai n2 3
 have ags := ai n2 4
 have agr := ai n2 5
 have NR := Lib.hid n2
 clear hsz n0 n1 n2
 replace H1 := hide ((aa H1).below hw0)
 replace H2 := hide ((aa H2).below hw0)
 go_cut [5] (fun s5_ wx => ∃ b5 : Nat, s5_ = .pointer (some ⟨b5, 0, none⟩) ∧ Dn wx b5 g ∧ Below W0.heap.size W0 wx ∧ W0.heap.size ≤ b5)
 case first =>
  go_wp2_with fail
  refine ((aa HG) s1 cz A1 c1 l1 s2 cu A2 c2 l2 _ hw0 (aa H1) (aa H2)).mono ?_
  rintro e w' ⟨s5, qa, A5, c5, l5, rfl, xg, hb5⟩
  go_wp2_with fail
  go_meet
  exact ⟨_, rfl, awx xg hb5 rfl⟩
 case rest =>
  revert hcut
  generalize wc = W1
  intro hcut
  obtain ⟨b5, rfl, ⟨s5, qa, A5, c5, l5, n5, f5⟩, hB1, ob5⟩ := hcut
  have Xg : W1.cell? ⟨b5, 0, none⟩ = some (.int .i64 s5) := ag n5 0
  have Xf : W1.cell? ⟨b5, 1, none⟩ = some (.bool qa) := ag n5 1
  have Xe : W1.cell? ⟨b5, 2, none⟩ = some (.slice A5 l5.length c5) := ag n5 2
  have y0 : W1.cell? ⟨w.heap.size + 1, 0, none⟩ = some (.int .i64 s2) := fw hB1 q1 xu
  have y1 : W1.cell? ⟨w.heap.size + 1, 1, none⟩ = some (.bool cu) := fw hB1 q1 xq
  have y2 : W1.cell? ⟨w.heap.size + 1, 2, none⟩ = some (.slice A2 l2.length c2) := fw hB1 q1 Dw
  go_wp2_with fail
  refine ((aa HS) W1 ((aa H2).below hB1)).mono ?_
  rintro e W2 ⟨rfl, hb⟩
  have q5 := lt_of_block n5
  have n5' := (hb.block _ q5).trans n5
  have f5' := f5.below hb
  have hB := bg hB1 hb
  clear Xg Xf Xe y0 y1 y2 f5 n5 hB1
  have ng := n5'
  have fg := f5'
  clear n5' f5' hb
  have FG := hide fg
  clear fg
  have Yx : W2.cell? ⟨w.heap.size, 0, none⟩ = some (.int .i64 s1) := fw hB q0 uh
  have Yw : W2.cell? ⟨w.heap.size, 1, none⟩ = some (.bool cz) := fw hB q0 ug
  have Yv : W2.cell? ⟨w.heap.size, 2, none⟩ = some (.slice A1 l1.length c1) := fw hB q0 yz
  have Ow : w.heap.size < W2.heap.size := Nat.lt_of_lt_of_le q0 hB.size
  have Yu : W2.cell? ⟨w.heap.size + 1, 0, none⟩ = some (.int .i64 s2) := fw hB q1 xu
  have Yr : W2.cell? ⟨w.heap.size + 1, 1, none⟩ = some (.bool cu) := fw hB q1 xq
  have Yq : W2.cell? ⟨w.heap.size + 1, 2, none⟩ = some (.slice A2 l2.length c2) := fw hB q1 Dw
  have q1' : w.heap.size + 1 < W2.heap.size := Nat.lt_of_lt_of_le q1 hB.size
  have Qy := ag ng 0
  have Qx := ag ng 1
  have Qw := ag ng 2
  have Ov := lt_of_block ng
  simp only [Array.getElem?_eq_getElem, jd, jc, jb] at Qy Qx Qw
  have aub : W2.cell? ⟨w.heap.size + 1 + 1, 0, none⟩ = some (.int .i64 0) := fw hB q2 afl
  have bnj : W2.frozen? ⟨w.heap.size + 1 + 1, 0, none⟩ = false := (hB.frozen (p := ⟨w.heap.size + 1 + 1, 0, none⟩) q2).trans agw
  have aua : W2.cell? ⟨w.heap.size + 1 + 1, 1, none⟩ = some (.bool false) := fw hB q2 afk
  have bni : W2.frozen? ⟨w.heap.size + 1 + 1, 1, none⟩ = false := (hB.frozen (p := ⟨w.heap.size + 1 + 1, 1, none⟩) q2).trans agv
  have atz : W2.cell? ⟨w.heap.size + 1 + 1, 2, none⟩ = some (.slice none 0 0) := fw hB q2 afj
  have bnh : W2.frozen? ⟨w.heap.size + 1 + 1, 2, none⟩ = false := (hB.frozen (p := ⟨w.heap.size + 1 + 1, 2, none⟩) q2).trans agu
  have aty : W2.cell? ⟨w.heap.size + 1 + 1, 3, none⟩ = some (.int .i64 0) := fw hB q2 afi
  have bng : W2.frozen? ⟨w.heap.size + 1 + 1, 3, none⟩ = false := (hB.frozen (p := ⟨w.heap.size + 1 + 1, 3, none⟩) q2).trans agt
  have atx : W2.cell? ⟨w.heap.size + 1 + 1, 4, none⟩ = some (.bool false) := fw hB q2 afh
  have bnf : W2.frozen? ⟨w.heap.size + 1 + 1, 4, none⟩ = false := (hB.frozen (p := ⟨w.heap.size + 1 + 1, 4, none⟩) q2).trans ags
  have atw : W2.cell? ⟨w.heap.size + 1 + 1, 5, none⟩ = some (.slice none 0 0) := fw hB q2 afg
  have bnc : W2.frozen? ⟨w.heap.size + 1 + 1, 5, none⟩ = false := (hB.frozen (p := ⟨w.heap.size + 1 + 1, 5, none⟩) q2).trans agr
  have qr : w.heap.size + 1 + 1 < W2.heap.size := Nat.lt_of_lt_of_le q2 hB.size
  have or5 : w.heap.size + 1 + 1 < b5 := Nat.lt_of_lt_of_le q2 ob5
  clear uh ug yz xu xq Dw afl afk afj afi afh afg agw agv agu agt ags agr ng
  have KEEP := hide (show ∀ X, Below W2.heap.size W2 X → X.cell? ⟨w.heap.size, 0, none⟩ = some (.int .i64 s1) ∧ X.cell? ⟨w.heap.size, 1, none⟩ = some (.bool cz) ∧ X.cell? ⟨w.heap.size, 2, none⟩ = some (.slice A1 l1.length c1) ∧ X.cell? ⟨w.heap.size + 1, 0, none⟩ = some (.int .i64 s2) ∧ X.cell? ⟨w.heap.size + 1, 1, none⟩ = some (.bool cu) ∧ X.cell? ⟨w.heap.size + 1, 2, none⟩ = some (.slice A2 l2.length c2) ∧ X.cell? ⟨b5, 0, none⟩ = some (.int .i64 s5) ∧ X.cell? ⟨b5, 1, none⟩ = some (.bool qa) ∧ X.cell? ⟨b5, 2, none⟩ = some (.slice A5 l5.length c5) from fun X hX => ⟨fw hX Ow Yx, fw hX Ow Yw, fw hX Ow Yv, fw hX q1' Yu, fw hX q1' Yr, fw hX q1' Yq, fw hX Ov Qy, fw hX Ov Qx, fw hX Ov Qw⟩)
  go_wp2_with fail
  go_region_held3 (fun w' => w'.cell? ⟨w.heap.size, 0, none⟩ = some (.int .i64 s1) ∧ w'.cell? ⟨w.heap.size, 1, none⟩ = some (.bool cz) ∧ w'.cell? ⟨w.heap.size, 2, none⟩ = some (.slice A1 l1.length c1) ∧ w'.cell? ⟨w.heap.size + 1, 0, none⟩ = some (.int .i64 s2) ∧ w'.cell? ⟨w.heap.size + 1, 1, none⟩ = some (.bool cu) ∧ w'.cell? ⟨w.heap.size + 1, 2, none⟩ = some (.slice A2 l2.length c2) ∧ w'.cell? ⟨b5, 0, none⟩ = some (.int .i64 s5) ∧ w'.cell? ⟨b5, 1, none⟩ = some (.bool qa) ∧ w'.cell? ⟨b5, 2, none⟩ = some (.slice A5 l5.length c5)) (first | with_reducible exact ⟨(jg _ _ _ _ _ _ _ _ om).trans (fw hbw Ow Yx), (jg _ _ _ _ _ _ _ _ om).trans (fw hbw Ow Yw), (jg _ _ _ _ _ _ _ _ om).trans (fw hbw Ow Yv), (jg _ _ _ _ _ _ _ _ om).trans (fw hbw q1' Yu), (jg _ _ _ _ _ _ _ _ om).trans (fw hbw q1' Yr), (jg _ _ _ _ _ _ _ _ om).trans (fw hbw q1' Yq), (jg _ _ _ _ _ _ _ _ om).trans (fw hbw Ov Qy), (jg _ _ _ _ _ _ _ _ om).trans (fw hbw Ov Qx), (jg _ _ _ _ _ _ _ _ om).trans (fw hbw Ov Qw)⟩ | with_reducible exact (aa KEEP) _ bel) (first | (go_at_call_of 165 (Value.agg #[.int .i64 s1, .bool cz, .slice A1 l1.length c1]); refine ((aa Uo) s1 cz A1 c1 l1 s5 qa A5 c5 l5 _ (bg hw0 (bg hB bel)) (fq.below (aa H1) (bg hB bel)) (fq.below (aa FG) bel)).mono ?_; rintro e w' ⟨s8, aew, A8, c8, l8, rfl, Zd, hb8⟩; have hbw := bz (w := W2) bel hb8; have hsw := hbw.size; obtain ⟨hc, hfz⟩ := dz hbw) | (go_at_call_of 165 (Value.agg #[.int .i64 s2, .bool cu, .slice A2 l2.length c2]); refine ((aa HQ2) s2 cu A2 c2 l2 s5 qa A5 c5 l5 _ (bg hw0 (bg hB bel)) (fq.below (aa H2) (bg hB bel)) (fq.below (aa FG) bel)).mono ?_; rintro e w' ⟨s9, aev, A9, c9, l9, rfl, hf9, jh⟩; have Zd := fq.below (fq.below Zd bel) jh; have hbw := bz (w := W2) bel jh; have hsw := hbw.size; obtain ⟨hc, hfz⟩ := dz hbw))
  have hBB : Below W0.heap.size W0 w' := bg hB hbw
  have hblk : w'.heap[w.heap.size + 1 + 1]? = some (.cells #[.int .i64 0, .bool false, .slice none 0 0, .int .i64 0, .bool false, .slice none 0 0] 79 (0, 0)) := (hBB.block _ q2).trans NR.out
  have jy := Lib.hid hblk
  have jh : Below w.heap.size w w' := bg hw0 hBB
  clear hblk
  go_wp2_with fail
  exact bodyPost_ret (v := (Value.agg #[.int .i64 s8, .bool aew, .slice A8 l8.length c8, .int .i64 s9, .bool aev, .slice A9 l9.length c9])) (by simp [results, Tryz.results136, go_sem, hc, aub, aua, atz, aty, atx, atw, qr]) rfl
   ⟨s8, aew, A8, c8, l8, s9, aev, A9, c9, l9, rfl, (Zd).upto jy.out (tu _ _ _ _ _ _ _ _ _ _) (jw _ _ _ _ _ _ _ _), (hf9).upto jy.out (tu _ _ _ _ _ _ _ _ _ _) (jw _ _ _ _ _ _ _ _), jh.grown (jw _ _ _ _ _ _ _ _) jh.size (fun k hk => by injection hk with hk; omega)⟩
theorem att (s1 : Int) (cz : Bool) (A1 : Option Addr) (c1 : Nat) (l1 : List Nat) (s2 : Int) (cu : Bool) (A2 : Option Addr) (c2 : Nat) (l2 : List Nat) (z1 z2 g gn r1 r2 : Int) (w : World) (f1 : fq w s1 cz A1 c1 l1 z1) (f2 : fq w s2 cu A2 c2 l2 z2) (hs : z2 < 0) (hgn : gn = -g)
  (hg : Bl w 164 z1 z2 g) (hq1 : Bl w 165 z1 gn r1) (hq2 : Bl w 165 z2 gn r2) :
  Calls Tryz.prog 136 #[(Value.agg #[.int .i64 s1, .bool cz, .slice A1 l1.length c1]), (Value.agg #[.int .i64 s2, .bool cu, .slice A2 l2.length c2])] w fun e w' => Gf w r1 r2 e w' := by
 subst hgn
 have H1 := hide f1
 have H2 := hide f2
 have HG := hide hg
 have Uo := hide hq1
 have HQ2 := hide hq2
 have hs' : decide (lh z2 < 0) = true := decide_eq_true (by rw [Ht]; exact hs)
 obtain ⟨o, ho⟩ : ∃ o, o = lh z2 := ⟨_, rfl⟩
 have HS := hide (fun W (f : fq W s2 cu A2 c2 l2 z2) => (show Calls Tryz.prog 159 #[(Value.agg #[.int .i64 s2, .bool cu, .slice A2 l2.length c2])] W fun e w' => e = .returned (.int .i64 o) ∧ Below W.heap.size W w' by rw [ho]; exact ve s2 cu A2 c2 l2 z2 W f))
 rw [← ho] at hs'
 clear f1 f2 hg hq1 hq2 hs ho
 go_enter Tryz.func136, Tryz.ntmps136
 go_upto_region 1 with fail
 obtain ⟨n0, n1, n2, hsz, hw0⟩ := oh w (.cells #[.int .i64 s1, .bool cz, .slice A1 l1.length c1] 77) (.cells #[.int .i64 s2, .bool cu, .slice A2 l2.length c2] 77) (.cells #[.int .i64 0, .bool false, .slice none 0 0, .int .i64 0, .bool false, .slice none 0 0] 79)
 generalize (((w.alloc (.cells #[.int .i64 s1, .bool cz, .slice A1 l1.length c1] 77)).alloc (.cells #[.int .i64 s2, .bool cu, .slice A2 l2.length c2] 77)).alloc (.cells #[.int .i64 0, .bool false, .slice none 0 0, .int .i64 0, .bool false, .slice none 0 0] 79)) = W0 at *
 have uh : W0.cell? ⟨w.heap.size, 0, none⟩ = some (.int .i64 s1) := ag n0 0
 have ug : W0.cell? ⟨w.heap.size, 1, none⟩ = some (.bool cz) := ag n0 1
 have yz : W0.cell? ⟨w.heap.size, 2, none⟩ = some (.slice A1 l1.length c1) := ag n0 2
 have q0 : w.heap.size < W0.heap.size := by omega
 have xu : W0.cell? ⟨w.heap.size + 1, 0, none⟩ = some (.int .i64 s2) := ag n1 0
 have xq : W0.cell? ⟨w.heap.size + 1, 1, none⟩ = some (.bool cu) := ag n1 1
 have Dw : W0.cell? ⟨w.heap.size + 1, 2, none⟩ = some (.slice A2 l2.length c2) := ag n1 2
 have q1 : w.heap.size + 1 < W0.heap.size := by omega
 have afl : W0.cell? ⟨w.heap.size + 1 + 1, 0, none⟩ = some (.int .i64 0) := ag n2 0
 have afk : W0.cell? ⟨w.heap.size + 1 + 1, 1, none⟩ = some (.bool false) := ag n2 1
 have afj : W0.cell? ⟨w.heap.size + 1 + 1, 2, none⟩ = some (.slice none 0 0) := ag n2 2
 have afi : W0.cell? ⟨w.heap.size + 1 + 1, 3, none⟩ = some (.int .i64 0) := ag n2 3
 have afh : W0.cell? ⟨w.heap.size + 1 + 1, 4, none⟩ = some (.bool false) := ag n2 4
 have afg : W0.cell? ⟨w.heap.size + 1 + 1, 5, none⟩ = some (.slice none 0 0) := ag n2 5
 have q2 : w.heap.size + 1 + 1 < W0.heap.size := by omega
 have agw := ai n2 0
 have agv := ai n2 1
 have agu := ai n2 2
 have agt := ai n2 3
 have ags := ai n2 4
 have agr := ai n2 5
 have NR := Lib.hid n2
 clear hsz n0 n1 n2
 replace H1 := hide ((aa H1).below hw0)
 replace H2 := hide ((aa H2).below hw0)
 go_cut [5] (fun s5_ wx => ∃ b5 : Nat, s5_ = .pointer (some ⟨b5, 0, none⟩) ∧ Dn wx b5 g ∧ Below W0.heap.size W0 wx ∧ W0.heap.size ≤ b5)
 case first =>
  go_wp2_with fail
  refine ((aa HG) s1 cz A1 c1 l1 s2 cu A2 c2 l2 _ hw0 (aa H1) (aa H2)).mono ?_
  rintro e w' ⟨s5, qa, A5, c5, l5, rfl, xg, hb5⟩
  go_wp2_with fail
  go_meet
  exact ⟨_, rfl, awx xg hb5 rfl⟩
 case rest =>
  revert hcut
  generalize wc = W1
  intro hcut
  obtain ⟨b5, rfl, ⟨s5, qa, A5, c5, l5, n5, f5⟩, hB1, ob5⟩ := hcut
  have Xg : W1.cell? ⟨b5, 0, none⟩ = some (.int .i64 s5) := ag n5 0
  have Xf : W1.cell? ⟨b5, 1, none⟩ = some (.bool qa) := ag n5 1
  have Xe : W1.cell? ⟨b5, 2, none⟩ = some (.slice A5 l5.length c5) := ag n5 2
  have y0 : W1.cell? ⟨w.heap.size + 1, 0, none⟩ = some (.int .i64 s2) := fw hB1 q1 xu
  have y1 : W1.cell? ⟨w.heap.size + 1, 1, none⟩ = some (.bool cu) := fw hB1 q1 xq
  have y2 : W1.cell? ⟨w.heap.size + 1, 2, none⟩ = some (.slice A2 l2.length c2) := fw hB1 q1 Dw
  go_wp2_with fail
  refine ((aa HS) W1 ((aa H2).below hB1)).mono ?_
  rintro e W2 ⟨rfl, hb⟩
  have q5 := lt_of_block n5
  have n5' := (hb.block _ q5).trans n5
  have f5' := f5.below hb
  have hB := bg hB1 hb
  clear Xg Xf Xe y0 y1 y2 f5 n5 hB1
  have Xg : W2.cell? ⟨b5, 0, none⟩ = some (.int .i64 s5) := ag n5' 0
  have Xf : W2.cell? ⟨b5, 1, none⟩ = some (.bool qa) := ag n5' 1
  have Xe : W2.cell? ⟨b5, 2, none⟩ = some (.slice A5 l5.length c5) := ag n5' 2
  have F5 := hide f5'
  clear f5' hb
  go_wp2_with fail
  refine (Vd s5 qa A5 c5 l5 g _ (aa F5)).mono ?_
  rintro e W3 ⟨s7, Ti, A7, c7, l7, rfl, hf7, hb⟩
  have n5 := (hb.block _ (lt_of_block n5')).trans n5'
  replace hB := bg hB hb
  clear Xg Xf Xe n5' hb
  have Xg : W3.cell? ⟨b5, 0, none⟩ = some (.int .i64 s5) := ag n5 0
  have Xf : W3.cell? ⟨b5, 1, none⟩ = some (.bool qa) := ag n5 1
  have Xe : W3.cell? ⟨b5, 2, none⟩ = some (.slice A5 l5.length c5) := ag n5 2
  have blx := ai n5 0
  have blw := ai n5 1
  have blv := ai n5 2
  have HF7 := hide hf7
  have N5 := hide n5
  clear hf7 n5
  go_upto_region 4 with fail
  have pb := Yf (u0 := .int .i64 s7) (u1 := .bool Ti) (u2 := .slice A7 l7.length c7) (aa N5)
  have g3 := ik W3 b5 (.int .i64 s7) (.bool Ti) (.slice A7 l7.length c7)
  have fg := (aa HF7).upto (aa N5) (si _ _ _ _ _) g3
  replace hB := hB.grown g3 hB.size (fun k hk => by injection hk with hk; omega)
  have ng := pb
  clear pb g3 Xg Xf Xe blx blw blv
  generalize (((W3.setCell ⟨b5, 0, none⟩ (.int .i64 s7)).setCell ⟨b5, 1, none⟩ (.bool Ti)).setCell ⟨b5, 2, none⟩ (.slice A7 l7.length c7)) = W4 at *
  have FG := hide fg
  clear fg
  have Yx : W4.cell? ⟨w.heap.size, 0, none⟩ = some (.int .i64 s1) := fw hB q0 uh
  have Yw : W4.cell? ⟨w.heap.size, 1, none⟩ = some (.bool cz) := fw hB q0 ug
  have Yv : W4.cell? ⟨w.heap.size, 2, none⟩ = some (.slice A1 l1.length c1) := fw hB q0 yz
  have Ow : w.heap.size < W4.heap.size := Nat.lt_of_lt_of_le q0 hB.size
  have Yu : W4.cell? ⟨w.heap.size + 1, 0, none⟩ = some (.int .i64 s2) := fw hB q1 xu
  have Yr : W4.cell? ⟨w.heap.size + 1, 1, none⟩ = some (.bool cu) := fw hB q1 xq
  have Yq : W4.cell? ⟨w.heap.size + 1, 2, none⟩ = some (.slice A2 l2.length c2) := fw hB q1 Dw
  have q1' : w.heap.size + 1 < W4.heap.size := Nat.lt_of_lt_of_le q1 hB.size
  have Qy := ag ng 0
  have Qx := ag ng 1
  have Qw := ag ng 2
  have Ov := lt_of_block ng
  simp only [Array.getElem?_eq_getElem, jd, jc, jb] at Qy Qx Qw
  have aub : W4.cell? ⟨w.heap.size + 1 + 1, 0, none⟩ = some (.int .i64 0) := fw hB q2 afl
  have bnj : W4.frozen? ⟨w.heap.size + 1 + 1, 0, none⟩ = false := (hB.frozen (p := ⟨w.heap.size + 1 + 1, 0, none⟩) q2).trans agw
  have aua : W4.cell? ⟨w.heap.size + 1 + 1, 1, none⟩ = some (.bool false) := fw hB q2 afk
  have bni : W4.frozen? ⟨w.heap.size + 1 + 1, 1, none⟩ = false := (hB.frozen (p := ⟨w.heap.size + 1 + 1, 1, none⟩) q2).trans agv
  have atz : W4.cell? ⟨w.heap.size + 1 + 1, 2, none⟩ = some (.slice none 0 0) := fw hB q2 afj
  have bnh : W4.frozen? ⟨w.heap.size + 1 + 1, 2, none⟩ = false := (hB.frozen (p := ⟨w.heap.size + 1 + 1, 2, none⟩) q2).trans agu
  have aty : W4.cell? ⟨w.heap.size + 1 + 1, 3, none⟩ = some (.int .i64 0) := fw hB q2 afi
  have bng : W4.frozen? ⟨w.heap.size + 1 + 1, 3, none⟩ = false := (hB.frozen (p := ⟨w.heap.size + 1 + 1, 3, none⟩) q2).trans agt
  have atx : W4.cell? ⟨w.heap.size + 1 + 1, 4, none⟩ = some (.bool false) := fw hB q2 afh
  have bnf : W4.frozen? ⟨w.heap.size + 1 + 1, 4, none⟩ = false := (hB.frozen (p := ⟨w.heap.size + 1 + 1, 4, none⟩) q2).trans ags
  have atw : W4.cell? ⟨w.heap.size + 1 + 1, 5, none⟩ = some (.slice none 0 0) := fw hB q2 afg
  have bnc : W4.frozen? ⟨w.heap.size + 1 + 1, 5, none⟩ = false := (hB.frozen (p := ⟨w.heap.size + 1 + 1, 5, none⟩) q2).trans agr
  have qr : w.heap.size + 1 + 1 < W4.heap.size := Nat.lt_of_lt_of_le q2 hB.size
  have or5 : w.heap.size + 1 + 1 < b5 := Nat.lt_of_lt_of_le q2 ob5
  clear uh ug yz xu xq Dw afl afk afj afi afh afg agw agv agu agt ags agr ng
  have KEEP := hide (show ∀ X, Below W4.heap.size W4 X → X.cell? ⟨w.heap.size, 0, none⟩ = some (.int .i64 s1) ∧ X.cell? ⟨w.heap.size, 1, none⟩ = some (.bool cz) ∧ X.cell? ⟨w.heap.size, 2, none⟩ = some (.slice A1 l1.length c1) ∧ X.cell? ⟨w.heap.size + 1, 0, none⟩ = some (.int .i64 s2) ∧ X.cell? ⟨w.heap.size + 1, 1, none⟩ = some (.bool cu) ∧ X.cell? ⟨w.heap.size + 1, 2, none⟩ = some (.slice A2 l2.length c2) ∧ X.cell? ⟨b5, 0, none⟩ = some (.int .i64 s7) ∧ X.cell? ⟨b5, 1, none⟩ = some (.bool Ti) ∧ X.cell? ⟨b5, 2, none⟩ = some (.slice A7 l7.length c7) from fun X hX => ⟨fw hX Ow Yx, fw hX Ow Yw, fw hX Ow Yv, fw hX q1' Yu, fw hX q1' Yr, fw hX q1' Yq, fw hX Ov Qy, fw hX Ov Qx, fw hX Ov Qw⟩)
  go_wp2_with fail
  go_region_held3 (fun w' => w'.cell? ⟨w.heap.size, 0, none⟩ = some (.int .i64 s1) ∧ w'.cell? ⟨w.heap.size, 1, none⟩ = some (.bool cz) ∧ w'.cell? ⟨w.heap.size, 2, none⟩ = some (.slice A1 l1.length c1) ∧ w'.cell? ⟨w.heap.size + 1, 0, none⟩ = some (.int .i64 s2) ∧ w'.cell? ⟨w.heap.size + 1, 1, none⟩ = some (.bool cu) ∧ w'.cell? ⟨w.heap.size + 1, 2, none⟩ = some (.slice A2 l2.length c2) ∧ w'.cell? ⟨b5, 0, none⟩ = some (.int .i64 s7) ∧ w'.cell? ⟨b5, 1, none⟩ = some (.bool Ti) ∧ w'.cell? ⟨b5, 2, none⟩ = some (.slice A7 l7.length c7)) (first | with_reducible exact ⟨(jg _ _ _ _ _ _ _ _ om).trans (fw hbw Ow Yx), (jg _ _ _ _ _ _ _ _ om).trans (fw hbw Ow Yw), (jg _ _ _ _ _ _ _ _ om).trans (fw hbw Ow Yv), (jg _ _ _ _ _ _ _ _ om).trans (fw hbw q1' Yu), (jg _ _ _ _ _ _ _ _ om).trans (fw hbw q1' Yr), (jg _ _ _ _ _ _ _ _ om).trans (fw hbw q1' Yq), (jg _ _ _ _ _ _ _ _ om).trans (fw hbw Ov Qy), (jg _ _ _ _ _ _ _ _ om).trans (fw hbw Ov Qx), (jg _ _ _ _ _ _ _ _ om).trans (fw hbw Ov Qw)⟩ | with_reducible exact (aa KEEP) _ bel) (first | (go_at_call_of 165 (Value.agg #[.int .i64 s1, .bool cz, .slice A1 l1.length c1]); refine ((aa Uo) s1 cz A1 c1 l1 s7 Ti A7 c7 l7 _ (bg hw0 (bg hB bel)) (fq.below (aa H1) (bg hB bel)) (fq.below (aa FG) bel)).mono ?_; rintro e w' ⟨s8, aew, A8, c8, l8, rfl, Zd, hb8⟩; have hbw := bz (w := W4) bel hb8; have hsw := hbw.size; obtain ⟨hc, hfz⟩ := dz hbw) | (go_at_call_of 165 (Value.agg #[.int .i64 s2, .bool cu, .slice A2 l2.length c2]); refine ((aa HQ2) s2 cu A2 c2 l2 s7 Ti A7 c7 l7 _ (bg hw0 (bg hB bel)) (fq.below (aa H2) (bg hB bel)) (fq.below (aa FG) bel)).mono ?_; rintro e w' ⟨s9, aev, A9, c9, l9, rfl, hf9, jh⟩; have Zd := fq.below (fq.below Zd bel) jh; have hbw := bz (w := W4) bel jh; have hsw := hbw.size; obtain ⟨hc, hfz⟩ := dz hbw))
  have hBB : Below W0.heap.size W0 w' := bg hB hbw
  have hblk : w'.heap[w.heap.size + 1 + 1]? = some (.cells #[.int .i64 0, .bool false, .slice none 0 0, .int .i64 0, .bool false, .slice none 0 0] 79 (0, 0)) := (hBB.block _ q2).trans NR.out
  have jy := Lib.hid hblk
  have jh : Below w.heap.size w w' := bg hw0 hBB
  clear hblk
  go_wp2_with fail
  exact bodyPost_ret (v := (Value.agg #[.int .i64 s8, .bool aew, .slice A8 l8.length c8, .int .i64 s9, .bool aev, .slice A9 l9.length c9])) (by simp [results, Tryz.results136, go_sem, hc, aub, aua, atz, aty, atx, atw, qr]) rfl
   ⟨s8, aew, A8, c8, l8, s9, aev, A9, c9, l9, rfl, (Zd).upto jy.out (tu _ _ _ _ _ _ _ _ _ _) (jw _ _ _ _ _ _ _ _), (hf9).upto jy.out (tu _ _ _ _ _ _ _ _ _ _) (jw _ _ _ _ _ _ _ _), jh.grown (jw _ _ _ _ _ _ _ _) jh.size (fun k hk => by injection hk with hk; omega)⟩
theorem Xd {K : Nat} (s1 : Int) (cz : Bool) (A1 : Option Addr) (c1 : Nat) (l1 : List Nat) (s2 : Int) (cu : Bool) (A2 : Option Addr) (c2 : Nat) (l2 : List Nat) (z1 z2 : Int) (w : World) (hT : qm w) (f1 : fq w s1 cz A1 c1 l1 z1) (f2 : fq w s2 cu A2 c2 l2 z2) (h0 : z2 ≠ 0) (hx : Wd.Sz dm K z1) (hy : Wd.Sz dm K z2) (hK : K ≤ lim) :
  Calls Tryz.prog 136 #[(Value.agg #[.int .i64 s1, .bool cz, .slice A1 l1.length c1]), (Value.agg #[.int .i64 s2, .bool cu, .slice A2 l2.length c2])] w fun e w' => Gf w (Rat.divInt z1 z2).num ((Rat.divInt z1 z2).den : Int) e w' := by
 have hp := Wd.Io z1 z2 h0
 have g0 : 0 < z1.natAbs.gcd z2.natAbs := Nat.gcd_pos_of_pos_right _ om
 have sg : Wd.Sz dm K ((z1.natAbs.gcd z2.natAbs : Nat) : Int) := hy.gcd_right h0
 rw [hp.1, hp.2]
 by_cases hs : z2 < 0
 ·
  have e : z2.sign * ((z1.natAbs.gcd z2.natAbs : Nat) : Int) = -((z1.natAbs.gcd z2.natAbs : Nat) : Int) := by rw [Int.sign_eq_neg_one_of_neg hs]; omega
  rw [e]
  exact att s1 cz A1 c1 l1 s2 cu A2 c2 l2 z1 z2 _ _ _ _ w f1 f2 hs rfl (Oy hT hx hy hK rfl) (Ed hx sg.neg hK om rfl) (Ed hy sg.neg hK om rfl)
 ·
  have e : z2.sign * ((z1.natAbs.gcd z2.natAbs : Nat) : Int) = ((z1.natAbs.gcd z2.natAbs : Nat) : Int) := by rw [Int.sign_eq_one_of_pos om]; omega
  rw [e]
  exact atr s1 cz A1 c1 l1 s2 cu A2 c2 l2 z1 z2 _ _ _ w f1 f2 hs (Oy hT hx hy hK rfl) (Ed hx sg hK om rfl) (Ed hy sg hK om rfl)


structure qj (w : World) (A : Option Addr) (cap : Nat) (l : List Nat) (n : Nat) : Prop where
 ws : Ws .u32 w w.heap.size A l
 ru : l.length ≤ cap
 cap2 : cap ≤ 9223372036854775807
 lt : ∀ x ∈ l, x < ek
 norm : Wd.Norm l
 val : Wd.val ek l = n

theorem qj.below {w w' : World} {A : Option Addr} {cap : Nat} {l : List Nat} {n : Nat} (h : qj w A cap l n) (hb : Below w.heap.size w w') : qj w' A cap l n :=
 ⟨(h.ws.below hb).more hb.size, h.ru, h.cap2, h.lt, h.norm, h.val⟩
theorem qj.len {w : World} {A : Option Addr} {cap : Nat} {l : List Nat} {n k : Nat} (h : qj w A cap l n) (hn : n < ek ^ k) : l.length ≤ k :=
 Wd.Xc Cm l h.norm k (by rw [h.val]; exact hn)
theorem qj.Qt (w : World) (cap : Nat) (hc : cap ≤ 9223372036854775807) : qj w none cap [] 0 := ⟨Ws.Qt, by simp, hc, by simp, .inl rfl, rfl⟩
theorem qj.Mi {w : World} {A : Option Addr} {cap : Nat} {l : List Nat} {n : Nat} (h : qj w A cap l n) : n < ek ^ l.length := by
 rw [← h.val]; exact Wd.Ae l h.lt

def bgn (w : World) (n : Nat) (e : Ending) (w' : World) : Prop := ∃ A cap l, e = .returned (.slice A l.length cap) ∧ qj w' A cap l n ∧ Below w.heap.size w w'

theorem qj.Ao {w : World} {b cap : Nat} {T : TypeId} {zs : List Nat} {k : Nat} (hz : ZB .u32 w b T zs) (hlt : ∀ x ∈ zs, x < ek) (ht : Wd.Gv zs (zs.take k)) (hk : k ≤ zs.length) (hc : zs.length ≤ cap) (hc2 : cap ≤ 9223372036854775807) :
  qj w (some ⟨b, 0, none⟩) cap (zs.take k) (Wd.val ek zs) :=
 ⟨(hz.Dp _ hz.lt).Qe k, by simp; omega, hc2, fun x hx => hlt x (List.mem_of_mem_take hx), ht.norm, ht.val _⟩

theorem Cn (A : Option Addr) (cap : Nat) (l : List Nat) (B : Nat) (w : World) (hr : Ws .u32 w B A l) (hcap : l.length ≤ cap) (hm : cap ≤ 9223372036854775807) :
  Calls Tryz.prog 180 #[.slice A l.length cap] w fun e w' => (∃ k, e = .returned (.slice A k cap) ∧ Wd.Gv l (l.take k) ∧ k ≤ l.length) ∧ w' = w := by
 go_enter Tryz.func180, Tryz.ntmps180
 go_wp2
 go_loop [0] (fun v => ∃ k : Nat, k ≤ l.length ∧ v = .slice A k cap ∧ ∀ i, k ≤ i → i < l.length → l.getD i 0 = 0) (fun v => slen v)
 case atStart => exact ⟨l.length, Nat.le_refl _, rfl, fun i h1 h2 => by omega⟩
 case round =>
  obtain ⟨k, hk, rfl, hz⟩ := hrel
  have HZ := Lib.hid hz
  clear hz
  by_cases h0 : k = 0
  ·
   subst h0
   go_wp2
   go_ret
   exact ⟨⟨0, rfl, ⟨0, Nat.zero_le _, rfl, HZ.out, .inl rfl⟩, Nat.zero_le _⟩, rfl⟩
  ·
   obtain ⟨b, off, rfl, hb, hc⟩ := hr om
   have hck := hc (k - 1) om
   clear hc
   go_wp2
   ·
    have ht : (((Wd.g l (k - 1) : Nat) : Int) == 0) = true := by assumption
    go_round
    case rel =>
     refine ⟨k - 1, by omega, rfl, fun i h1 h2 => ?_⟩
     by_cases hi : i = k - 1
     ·
      subst hi; have := beq_iff_eq.1 ht; rw [Wd.qf] at this; omega
     ·
      exact HZ.out i om h2
    case measure => simp [slen]; omega
   ·
    have ht : (((Wd.g l (k - 1) : Nat) : Int) == 0) = false := by assumption
    go_ret
    refine ⟨⟨k, rfl, ⟨k, hk, rfl, HZ.out, .inr ?_⟩, hk⟩, rfl⟩
    have := beq_eq_false_iff_ne.1 ht; rw [Wd.qf] at this; omega

theorem Ll {w w1 : World} (h : ∃ t, w1 = w.drewN t) (k : Nat) : ∃ t, w1.drewN k = w.drewN t := by
 obtain ⟨t, rfl⟩ := h
 exact ⟨t + k, by simp [World.drewN, Nat.add_assoc]⟩
theorem World.drewN_drewN (w : World) (a b : Nat) : (w.drewN a).drewN b = w.drewN (a + b) := by
 simp [World.drewN, Nat.add_assoc]
theorem Le (Ax Ay : Option Addr) (cx cy : Nat) (xl yl : List Nat) (n m : Nat) (w : World) (hx : qj w Ax cx xl n) (hy : qj w Ay cy yl m) :
  Calls Tryz.prog 182 #[.slice Ax xl.length cx, .slice Ay yl.length cy] w fun e w' => e = .returned (.int .i64 (rq n m)) ∧ ∃ k, w' = w.drewN k := by
 have hx1 := hx.ru; have hx2 := hx.cap2; have hy1 := hy.ru; have hy2 := hy.cap2
 by_cases hl : xl.length = yl.length
 ·
  have hb : (((xl.length : Nat) : Int) != ((yl.length : Nat) : Int)) = false := by simp; omega
  go_enter Tryz.func182, Tryz.ntmps182
  go_wp2
  go_loopw [5] (fun iv wr => ∃ i : Int, -1 ≤ i ∧ i < xl.length ∧ iv = .int .i64 i ∧ Hid (∀ j : Nat, i < j → j < xl.length → xl.getD j 0 = yl.getD j 0) ∧ Hid (∃ t, wr = w.drewN t)) (fun iv _ => (intOf iv + 1).toNat)
  case atStart => exact ⟨(xl.length : Int) - 1, by omega, by omega, by go_num, fun j h1 h2 => by omega, ⟨0, rfl⟩⟩
  case round =>
   obtain ⟨i, hi1, hi2, rfl, hall, ht⟩ := hrel
   by_cases h0 : i < 0
   ·
    have hv : rq n m = 0 := by
     have : xl = yl := Wd.Ku xl yl hl (fun j hj => hall.out j om hj)
     rw [← hx.val, ← hy.val, this]
     unfold rq
     rw [if_neg om, if_neg om]
    have HV := Lib.hid hv
    clear hv hl
    go_wp2
    go_ret
    exact ⟨rf HV.out.symm, ht.out⟩
   ·
    obtain ⟨j, rfl⟩ := Int.eq_ofNat_of_zero_le (show 0 ≤ i by omega)
    have Tv : j < xl.length := by omega
    have hjy : j < yl.length := by omega
    obtain ⟨bx, ox, rfl, hbx, hcx⟩ := hx.ws om
    obtain ⟨by', oy, rfl, hby, hcy⟩ := hy.ws om
    have hsame : ∀ p, wr.cell? p = w.cell? p := fun p => by obtain ⟨t, rfl⟩ := ht.out; rfl
    have Eh := (hsame _).trans (hcx j Tv)
    have Rw := (hsame _).trans (hcy j hjy)
    clear hcx hcy hsame
    obtain ⟨xj, hxj⟩ : ∃ xj, xj = Wd.g xl j := ⟨_, rfl⟩
    obtain ⟨yj, hyj⟩ : ∃ yj, yj = Wd.g yl j := ⟨_, rfl⟩
    rw [← hxj] at Eh
    rw [← hyj] at Rw
    by_cases hlt : xj < yj
    ·
     have d1 : decide ((xj : Int) < (yj : Int)) = true := decide_eq_true om
     have d1' : decide (xj < yj) = true := decide_eq_true hlt
     have hv : rq n m = -1 := by
      rw [← hx.val, ← hy.val]
      unfold rq
      rw [if_pos (Wd.Ga xl yl hx.lt hl j Tv (fun t h1 h2 => hall.out t om h2) (by show Wd.g xl j < Wd.g yl j; omega))]
     have HV := Lib.hid hv
     clear hv hxj hyj hl hlt
     go_wp2_with fail
     go_quiet (fail)
     go_wp2_with fail
     go_ret
     exact ⟨rf HV.out.symm, by first | exact Ll (Ll ht.out _) _ | exact Ll ht.out _⟩
    ·
     have d1 : decide ((xj : Int) < (yj : Int)) = false := decide_eq_false om
     have d1' : decide (xj < yj) = false := decide_eq_false hlt
     by_cases hgt : yj < xj
     ·
      have d2 : decide ((yj : Int) < (xj : Int)) = true := decide_eq_true om
      have d2' : decide (yj < xj) = true := decide_eq_true hgt
      have hv : rq n m = 1 := by
       rw [← hx.val, ← hy.val]
       unfold rq
       have := Wd.Ga yl xl hy.lt hl.symm j hjy (fun t h1 h2 => (hall.out t om om).symm) (by show Wd.g yl j < Wd.g xl j; omega)
       rw [if_neg om, if_pos this]
      have HV := Lib.hid hv
      clear hv hxj hyj hl hlt hgt
      go_wp2_with fail
      go_quiet (fail)
      go_wp2_with fail
      go_quiet (fail)
      go_wp2_with fail
      go_ret
      exact ⟨rf HV.out.symm, by first | exact Ll (Ll ht.out _) _ | exact Ll ht.out _⟩
     ·
      have d2 : decide ((yj : Int) < (xj : Int)) = false := decide_eq_false om
      have d2' : decide (yj < xj) = false := decide_eq_false hgt
      have hnext : ∀ t : Nat, ((j : Int) - 1 < t) → t < xl.length → xl.getD t 0 = yl.getD t 0 := fun t h1 h2 => by
       by_cases ht : t = j
       ·
        subst ht; exact hxj.symm.trans ((show xj = yj by omega).trans hyj)
       ·
        exact hall.out t om h2
      have HN := hide hnext
      clear hnext hxj hyj hl hlt hgt
      go_wp2_with fail
      go_quiet (fail)
      go_wp2_with fail
      go_quiet (fail)
      go_wp2_with fail
      go_roundw
      case rel => exact ⟨(j : Int) - 1, by omega, by omega, by go_num, HN, by first | exact Ll (Ll ht.out _) _ | exact Ll ht.out _⟩
      case measure => simp [intOf] <;> omega
 ·
  have hb : (((xl.length : Nat) : Int) != ((yl.length : Nat) : Int)) = true := by simp; omega
  have ho : rq n m = if xl.length < yl.length then -1 else 1 := by
   unfold rq
   rw [← hx.val, ← hy.val]
   by_cases h : xl.length < yl.length
   ·
    rw [if_pos h, if_pos (Wd.uw Cm xl yl hx.lt hy.norm h)]
   ·
    have := Wd.uw Cm yl xl hy.lt hx.norm om
    rw [if_neg h, if_neg om, if_pos this]
  have HO := Lib.hid ho
  clear ho
  go_enter Tryz.func182, Tryz.ntmps182
  go_wp2
  all_goals
   go_ret
   refine ⟨rf ?_, ⟨0, rfl⟩⟩
   rw [HO.out]
  ·
   rw [if_pos om]
  ·
   rw [if_neg om]

theorem bdr : (Tryz.prog.info? 187).map (fun i => (i.zero, i.size, i.bytes)) = some (some (.int .u32 0), 1, 4) := by kernel_rfl
theorem Yl (n : Nat) (h : n ≤ 35184372088832) (w : World) : (Instr.makeSlice 64 (.int .i64 (n : Int)) (.int .i64 (n : Int))).run Tryz.prog w =
  .ok (.slice (some ⟨w.heap.size, 0, none⟩) n n) (w.alloc (.cells (wu .u32 (List.replicate n 0)) 187)) := by
 obtain ⟨i0, hi, hz0, hz1, hz2⟩ := info_parts bdr
 have hr := run_make (P := Tryz.prog) w 64 187 i0 (.int .u32 0) Tryz.underlying64 hi hz0 .i64 .i64 n n om (Int.le_refl _) (by rw [hz2]; omega) om
 simp only [Int.toNat_natCast] at hr
 rw [hr, hz1, Nu]

theorem il {a : Int} {c : Nat} (h : a = (c : Int)) (hc : c < dm) : IntKind.u64.wrap a = ((c : Nat) : Int) := by
 rw [IntKind.wrap_u64, h]; rw [gp] at hc; omega
theorem Be (c : Nat) : IntKind.u32.wrap (c : Int) = ((c % ek : Nat) : Int) := by
 rw [IntKind.wrap_u32, fe]; omega

theorem akr (Ax Ay : Option Addr) (cx cy : Nat) (xl yl : List Nat) (n m : Nat) (w : World) (hx : qj w Ax cx xl n) (hy : qj w Ay cy yl m) (hk : xl.length + yl.length ≤ 35184372088832) :
  Calls Tryz.prog 184 #[.slice Ax xl.length cx, .slice Ay yl.length cy] w fun e w' => bgn w (n * m) e w' := by
 have hmk := Yl (xl.length + yl.length) hk
 simp only [Int.natCast_add] at hmk
 have hx1 := hx.ru; have hx2 := hx.cap2; have hy1 := hy.ru; have hy2 := hy.cap2
 go_enter Tryz.func184, Tryz.ntmps184
 go_wp2
 go_loopw [6] (fun iv wr => ∃ (i : Nat) (zr : List Nat), i ≤ xl.length ∧ iv = .int .i64 ((i : Nat) : Int) ∧ Wd.Fv ek xl yl zr i ∧ ZB .u32 wr w.heap.size 187 zr ∧ Below w.heap.size w wr) (fun iv _ => xl.length - (intOf iv).toNat)
 case atStart => exact ⟨0, List.replicate (xl.length + yl.length) 0, Nat.zero_le _, rfl, Wd.Fv.start _ _ _ (by rw [fe]; omega) (by simp) (Lc _), heap_alloc_new w _, (Below.refl _ _).alloc (Nat.le_refl _) _⟩
 case round =>
  obtain ⟨i, zr, hi, rfl, hinv, lg, hg⟩ := hrel
  obtain ⟨wo, rfl⟩ : ∃ wo : World, wo = wr := ⟨_, rfl⟩
  have hlen := hinv.len
  have HI := Lib.hid hinv
  clear hinv
  by_cases hlt : i < xl.length
  ·
   obtain ⟨bx, ox, rfl, hbx, hcx⟩ := hx.ws om
   have bdv := hcx i hlt
   have HX := hide (And.intro hbx bdv)
   clear hcx bdv
   obtain ⟨xi, hxi⟩ : ∃ xi, xi = Wd.g xl i := ⟨_, rfl⟩
   rw [← hxi] at HX
   have zf : xi < ek := by rw [hxi]; exact Wd.getD_lt (by rw [fe]; omega) _ hx.lt i
   have HXI := Lib.hid hxi
   have HXB := hide zf
   clear hxi zf
   go_wp2_with fail
   go_loopw [7, 8] (fun cv jv wr => ∃ (j c : Nat) (zc : List Nat), j ≤ yl.length ∧ cv = .int .u64 ((c : Nat) : Int) ∧ jv = .int .i64 ((j : Nat) : Int) ∧ Wd.El ek zr yl zc i (Wd.g xl i) j c ∧ ZB .u32 wr w.heap.size 187 zc ∧ Below w.heap.size w wr) (fun _ jv _ => yl.length - (intOf jv).toNat)
   case atStart => exact ⟨0, 0, zr, Nat.zero_le _, rfl, rfl, Wd.El.start _ _ _ _ (by rw [fe]; omega) HI.out.lt, lg, hg⟩
   case round =>
    obtain ⟨j, c, zc, hj, rfl, rfl, Rf, hzc, hgc⟩ := hrel
    have Rh := Rf.len
    have HM := Lib.hid Rf
    clear Rf
    have Eh := (hgc.cell (p := ⟨bx, ox + i, none⟩) (aa HX).1).trans (aa HX).2
    by_cases hjl : j < yl.length
    ·
     obtain ⟨by', oy, rfl, hby, hcy⟩ := hy.ws om
     have Rw := (hgc.cell (p := ⟨by', oy + j, none⟩) hby).trans (hcy j hjl)
     clear hcy
     have Tp := hzc.cell (i + j) om
     have Ml := hzc.frozen (i + j)
     obtain ⟨yj, hyj⟩ : ∃ yj, yj = Wd.g yl j := ⟨_, rfl⟩
     obtain ⟨z, hz⟩ : ∃ z, z = Wd.g zc (i + j) := ⟨_, rfl⟩
     rw [← hyj] at Rw
     rw [← hz] at Tp
     have Fj : yj < ek := by rw [hyj]; exact Wd.getD_lt (by rw [fe]; omega) _ hy.lt j
     have Gi : z < ek := by rw [hz]; exact Wd.getD_lt (by rw [fe]; omega) _ HM.out.lt _
     have hbd := Wd.Ke (aa HXB) Fj HM.out.c1 Gi
     have hBB : ek * ek = dm := by rw [fe, gp]
     rw [hBB] at hbd
     obtain ⟨p, hp⟩ : ∃ t, t = xi * yj := ⟨_, rfl⟩
     obtain ⟨s, hs⟩ : ∃ t, t = p + z := ⟨_, rfl⟩
     obtain ⟨r, hr⟩ : ∃ t, t = c + s := ⟨_, rfl⟩
     obtain ⟨d, hd⟩ : ∃ t, t = r % ek := ⟨_, rfl⟩
     obtain ⟨q, hq⟩ : ∃ t, t = r / ek := ⟨_, rfl⟩
     rw [← hp] at hbd
     have e1 : IntKind.u64.wrap ((xi : Int) * (yj : Int)) = (p : Int) := il (by rw [hp]; simp) om
     have e2 : IntKind.u64.wrap ((p : Int) + (z : Int)) = (s : Int) := il (by rw [hs]; simp) om
     have e3 : IntKind.u64.wrap ((c : Int) + (s : Int)) = (r : Int) := il (by rw [hr]; simp) om
     have e4 : IntKind.u32.wrap (r : Int) = (d : Int) := by rw [Be, hd]
     have e4' : (r : Int) % 4294967296 = (d : Int) := by rw [hd, fe]; omega
     have b64 : ∀ t : Nat, t < ek → t < dm := fun t ht => by rw [fe] at ht; rw [gp]; omega
     have e6 : IntKind.u64.wrap (xi : Int) = (xi : Int) := il rfl (b64 _ (aa HXB))
     have e7 : IntKind.u64.wrap (yj : Int) = (yj : Int) := il rfl (b64 _ Fj)
     have e8 : IntKind.u64.wrap (z : Int) = (z : Int) := il rfl (b64 _ Gi)
     have e5 : (r : Int) / 4294967296 = (q : Int) := by rw [hq, fe]; omega
     have hfin : ∀ t W, W = (wr.drewN t).setCell ⟨w.heap.size, i + j, none⟩ (.int .u32 (d : Int)) → Wd.El ek zr yl (zc.set (i + j) d) i (Wd.g xl i) (j + 1) q ∧ ZB .u32 W w.heap.size 187 (zc.set (i + j) d) ∧ Below w.heap.size w W := by
      rintro t W rfl
      refine ⟨?_, (hzc.drewN t).Bp _ _, (mi hgc t).setCell (by simp) _⟩
      have := HM.out.step Cm (by rw [← HXI.out]; exact aa HXB) hy.lt om
      have e : r = Wd.g xl i * yl.getD j 0 + c + zc.getD (i + j) 0 := by
       rw [hr, hs, hp, HXI.out, hyj, hz]; show c + (Wd.g xl i * yl.getD j 0 + zc.getD (i + j) 0) = _; omega
      rw [hd, hq, e]
      exact this
     have HF := hide hfin
     clear hfin b64 hbd hBB hp hs hr hd hq hyj hz Fj Gi hzc hgc lg hg hlen Rh
     go_wp2_with fail
     go_quiet (fail)
     go_wp2_with fail
     go_roundw
     case rel =>
      obtain ⟨r1, r2, r3⟩ := (aa HF) _ _ rfl
      exact ⟨j + 1, q, zc.set (i + j) d, by omega, rfl, by go_num, r1, r2, r3⟩
     case measure => simp [intOf]; omega
    ·
     have e : j = yl.length := by omega
     subst e
     have Tp := hzc.cell (i + yl.length) om
     have Ml := hzc.frozen (i + yl.length)
     have hrow := HI.out.step hlt HM.out
     have HR := Lib.hid hrow
     have hc32 : (c : Int) % 4294967296 = (c : Int) := by have := HM.out.c1; rw [fe] at this; omega
     have bts : IntKind.u32.wrap (c : Int) = (c : Int) := by rw [IntKind.wrap_u32]; exact hc32
     clear hrow
     have hfin : ∀ W, W = wr.setCell ⟨w.heap.size, i + yl.length, none⟩ (.int .u32 (c : Int)) → ZB .u32 W w.heap.size 187 (zc.set (i + yl.length) c) ∧ Below w.heap.size w W := by
      rintro W rfl
      exact ⟨hzc.Bp _ _, hgc.setCell (by simp) _⟩
     have HF := hide hfin
     clear hfin hzc hgc lg hg hlen Rh Eh
     go_wp2_with fail
     go_roundw
     case rel =>
      obtain ⟨r2, r3⟩ := (aa HF) _ rfl
      exact ⟨i + 1, zc.set (i + yl.length) c, by omega, by go_num, HR.out, r2, r3⟩
     case measure => simp [intOf]; omega
  ·
   have e : i = xl.length := by omega
   subst e
   have hlt2 := HI.out.lt
   have hv := HI.out.done
   rw [hx.val, hy.val] at hv
   have HV := Lib.hid hv
   have qb := hide hlt2
   clear hv hlt2
   go_wp2_with fail
   have htr := Cn (some ⟨w.heap.size, 0, none⟩) zr.length zr (wo.heap.size) wo (lg.Dp _ lg.lt) (Nat.le_refl _) om
   rw [hlen] at htr
   refine htr.mono ?_
   rintro e w' ⟨⟨k, rfl, ht, hk2⟩, rfl⟩
   go_wp2_with fail
   go_ret
   have hk3 : k = (zr.take k).length := by simp; omega
   refine ⟨some ⟨w.heap.size, 0, none⟩, xl.length + yl.length, zr.take k, Hw hk3, ?_, hg⟩
   have := qj.Ao (cap := xl.length + yl.length) lg (aa qb) ht om om om
   rwa [HV.out] at this

theorem Oc (a b : Nat) (ha : a < ek) (hb : b < ek) : Go.bits .or .u32 (a : Int) (b : Int) = ((a ||| b : Nat) : Int) := by
 rw [fe] at ha hb
 have hx : a ||| b < 2 ^ 32 := Nat.or_lt_two_pow om om
 have h1 : (BitVec.ofInt 32 (a : Int)).toNat = a := by
  rw [BitVec.ofInt_natCast, BitVec.toNat_ofNat]; exact Nat.mod_eq_of_lt om
 have h2 : (BitVec.ofInt 32 (b : Int)).toNat = b := by
  rw [BitVec.ofInt_natCast, BitVec.toNat_ofNat]; exact Nat.mod_eq_of_lt om
 show IntKind.u32.wrap ((BitVec.ofInt 32 (a : Int) ||| BitVec.ofInt 32 (b : Int)).toNat : Int) = _
 rw [BitVec.toNat_or, h1, h2, IntKind.wrap_u32]
 omega
theorem Bh (s : Nat) (hs : s ≤ 32) : 2 ^ s * 2 ^ (32 - s) = ek := by
 rw [← Nat.pow_add, show s + (32 - s) = 32 by omega]; rfl
theorem aok {m s : Nat} (hm : m < ek) (hs : s < 32) : m * 2 ^ s < dm := by
 have h1 : 2 ^ s < 2 ^ 32 := Nat.pow_lt_pow_right om hs
 have h2 : m * 2 ^ s ≤ m * 2 ^ 32 := Nat.mul_le_mul_left _ om
 rw [fe] at hm; rw [gp]; omega
theorem aoj {m s : Nat} (hs : s < 32) : m * 2 ^ s % ek = m % 2 ^ (32 - s) * 2 ^ s ∧ m * 2 ^ s / ek = m / 2 ^ (32 - s) := by
 rw [← Bh s om, Nat.mul_comm (2 ^ s), Nat.mul_mod_mul_right]
 exact ⟨rfl, Nat.mul_div_mul_right _ _ (Nat.pow_pos om)⟩

def bnx (w : World) (xl : List Nat) (v : Nat) (e : Ending) (w' : World) : Prop :=
 ∃ zr, e = .returned (.slice (some ⟨w.heap.size, 0, none⟩) (xl.length + 1) (xl.length + 1)) ∧ zr.length = xl.length + 1 ∧ (∀ x ∈ zr, x < ek) ∧ Wd.val ek zr = v ∧ ZB .u32 w' w.heap.size 187 zr ∧ Below w.heap.size w w'

theorem aia (Ax : Option Addr) (cx : Nat) (xl : List Nat) (n s : Nat) (w : World) (hx : qj w Ax cx xl n) (hs : s < 32) (hk : xl.length + 1 ≤ 35184372088832) :
  Calls Tryz.prog 212 #[.slice Ax xl.length cx, .int .u64 ((s : Nat) : Int)] w fun e w' => bnx w xl (n * 2 ^ s) e w' := by
 have hmk := Yl (xl.length + 1) hk
 simp only [Int.natCast_add, Int.cast_ofNat_Int] at hmk
 have hx1 := hx.ru; have hx2 := hx.cap2
 go_enter Tryz.func212, Tryz.ntmps212
 go_wp2
 go_loopw [6] (fun iv wr => ∃ (i : Nat) (zr : List Nat), i ≤ xl.length ∧ iv = .int .i64 ((i : Nat) : Int) ∧ Hid (Wd.Dl ek (2 ^ s) xl zr i) ∧ ZB .u32 wr w.heap.size 187 zr ∧ Below w.heap.size w wr) (fun iv _ => xl.length - (intOf iv).toNat)
 case atStart => exact ⟨0, List.replicate (xl.length + 1) 0, Nat.zero_le _, rfl, Wd.Dl.start _ _ (Nat.pow_pos om) (by rw [fe]; omega) (by simp) (Lc _), heap_alloc_new w _, (Below.refl _ _).alloc (Nat.le_refl _) _⟩
 case round =>
  obtain ⟨i, zr, hi, rfl, HI, lg, hg⟩ := hrel
  have hlen := HI.out.len
  by_cases hlt : i < xl.length
  ·
   obtain ⟨bx, ox, rfl, hbx, hcx⟩ := hx.ws om
   have Eh := (hg.cell (p := ⟨bx, ox + i, none⟩) hbx).trans (hcx i hlt)
   clear hcx
   have hzc := lg.cell i om
   have Ml := lg.frozen i
   have bmi := lg.cell (i + 1) om
   have bds := lg.frozen (i + 1)
   obtain ⟨m, hm⟩ : ∃ m, m = Wd.g xl i := ⟨_, rfl⟩
   obtain ⟨z, hz⟩ : ∃ z, z = Wd.g zr i := ⟨_, rfl⟩
   rw [← hm] at Eh
   rw [← hz] at hzc
   have Iy : m < ek := by rw [hm]; exact Wd.getD_lt (by rw [fe]; omega) _ hx.lt i
   have Gi : z < ek := by rw [hz]; exact Wd.getD_lt (by rw [fe]; omega) _ HI.out.lt i
   have hzS : z < 2 ^ s := by rw [hz]; exact HI.out.low
   obtain ⟨x, Rx⟩ : ∃ x, x = m * 2 ^ s := ⟨_, rfl⟩
   obtain ⟨p, hp⟩ : ∃ p, p = x % ek := ⟨_, rfl⟩
   obtain ⟨r, hr⟩ : ∃ r, r = z + p := ⟨_, rfl⟩
   obtain ⟨q, hq⟩ : ∃ q, q = x / ek := ⟨_, rfl⟩
   have yu := aoj (m := m) hs
   rw [← Rx, ← hp, ← hq] at yu
   have Pg : p < ek := by rw [hp]; exact Nat.mod_lt _ (by rw [fe]; omega)
   have Kz : q < ek := by rw [hq, Nat.div_lt_iff_lt_mul (by rw [fe]; omega)]; have := aok Iy hs; rw [Rx, fe]; rw [gp] at this; omega
   have e0 : IntKind.u64.wrap (m : Int) = (m : Int) := il rfl (by rw [fe] at Iy; rw [gp]; omega)
   have e1 : IntKind.u64.wrap ((m : Int) * 2 ^ s) = (x : Int) := il (by rw [Rx]; simp) (by rw [Rx]; exact aok Iy hs)
   have e2 : Go.bits .or .u32 (z : Int) (p : Int) = (r : Int) := by
    rw [Oc z p Gi Pg, hr, yu.1, Lx hzS]
   have e3 : (x : Int) / 4294967296 = (q : Int) := by rw [hq, fe]; omega
   have e4 : (x : Int) % 4294967296 = (p : Int) := by rw [hp, fe]; omega
   have e5 : (q : Int) % 4294967296 = (q : Int) := by rw [fe] at Kz; omega
   have e6 : IntKind.u32.wrap (x : Int) = (p : Int) := by rw [Be, hp]
   have e7 : IntKind.u32.wrap (q : Int) = (q : Int) := by rw [IntKind.wrap_u32]; exact e5
   have hfin : ∀ W, W = (wr.setCell ⟨w.heap.size, i, none⟩ (.int .u32 (r : Int))).setCell ⟨w.heap.size, i + 1, none⟩ (.int .u32 (q : Int)) → Hid (Wd.Dl ek (2 ^ s) xl ((zr.set i r).set (i + 1) q) (i + 1)) ∧ ZB .u32 W w.heap.size 187 ((zr.set i r).set (i + 1) q) ∧ Below w.heap.size w W := by
    rintro W rfl
    refine ⟨?_, (lg.Bp _ _).Bp _ _, (hg.setCell (by simp) _).setCell (by simp) _⟩
    have := HI.out.step (Bh s om) (Nat.pow_pos om) hlt (by rw [← Wd.qf, ← hm]; exact Iy)
    rw [hr, yu.1, yu.2, hm, hz]
    exact this
   have HF := hide hfin
   clear hfin yu hp hr hq hm hz hzS lg hg Rx Pg Kz Iy Gi
   go_wp2_with fail
   go_roundw
   case rel =>
    obtain ⟨r1, r2, r3⟩ := (aa HF) _ rfl
    exact ⟨i + 1, _, by omega, by go_num, r1, r2, r3⟩
   case measure => simp [intOf] <;> omega
  ·
   have e : i = xl.length := by omega
   subst e
   have hv := HI.out.done
   rw [hx.val] at hv
   have HV := Lib.hid hv
   clear hv
   go_wp2_with fail
   go_ret
   exact ⟨zr, rfl, hlen, HI.out.lt, HV.out, lg, hg⟩
end Go.Proofs.YtfgeaakhlcaibaaGreatDoor
namespace Go.Proofs.YtfgeaakhlcaibaaGreatDoor
namespace Wd

structure Xr (B top head Q q r : Nat) : Prop where
 eq : q * top + r = head
 ge : Q ≤ q
 lt : q < B
theorem Xr.step {B top next head d Q q r : Nat} (hQ : Q * (top * B + next) ≤ head * B + d) (h : Xr B top head Q q r) (hlt : r * B + d < q * next) : 1 ≤ q ∧ Xr B top head Q (q - 1) (r + top) := by
 have h1 : Q < q := by
  rcases Nat.lt_or_ge Q q with h1 | h1
  ·
   exact h1
  ·
   have h2 : q * (top * B + next) ≤ Q * (top * B + next) := Nat.mul_le_mul_right _ h1
   have h3 : q * (top * B + next) = q * top * B + q * next := by rw [Nat.mul_add, Nat.mul_assoc]
   have h4 : head * B = q * top * B + r * B := by rw [← h.eq, Nat.add_mul]
   omega
 have he := h.eq
 obtain ⟨p, rfl⟩ : ∃ p, q = p + 1 := ⟨q - 1, by omega⟩
 refine ⟨by omega, ⟨?_, by omega, by have := h.lt; omega⟩⟩
 rw [Nat.add_sub_cancel]
 rw [Nat.add_mul, Nat.one_mul] at he
 omega
theorem Xr.fits {B top next head d Q q r : Nat} (hn : next < B) (h : Xr B top head Q q r) (hs : B ≤ r ∨ q * next ≤ r * B + d) : q * (top * B + next) ≤ head * B + d := by
 have h3 : q * (top * B + next) = q * top * B + q * next := by rw [Nat.mul_add, Nat.mul_assoc]
 have h4 : head * B = q * top * B + r * B := by rw [← h.eq, Nat.add_mul]
 have h5 : q * next ≤ r * B + d := by
  rcases hs with h1 | h1
  ·
   have h6 : q * next ≤ B * B := Nat.mul_le_mul (Nat.le_of_lt h.lt) (Nat.le_of_lt hn)
   have h7 : B * B ≤ r * B := Nat.mul_le_mul_right _ h1
   omega
  ·
   exact h1
 omega
theorem aqu {B P X Y U3 Yt Q q : Nat} (hP : 0 < P) (hX : U3 * P ≤ X) (hY : Y < (Yt + 1) * P) (hY0 : 0 < Y) (hQ : Q = X / Y) (hq : q * Yt ≤ U3) (hB : q ≤ Yt) : q ≤ Q + 1 := by
 rcases Nat.eq_zero_or_pos q with h | h
 ·
  omega
 obtain ⟨p, rfl⟩ : ∃ p, q = p + 1 := ⟨q - 1, by omega⟩
 suffices p ≤ Q by omega
 rw [hQ, Nat.le_div_iff_mul_le hY0]
 have h1 : p * Y ≤ p * ((Yt + 1) * P) := Nat.mul_le_mul_left _ (Nat.le_of_lt hY)
 have h2 : p * ((Yt + 1) * P) = (p * Yt + p) * P := by rw [← Nat.mul_assoc, Nat.mul_add, Nat.mul_one]
 have h3 : (p * Yt + p) * P ≤ ((p + 1) * Yt) * P := Nat.mul_le_mul_right _ (by rw [Nat.add_mul]; omega)
 have h4 : (p + 1) * Yt * P ≤ U3 * P := Nat.mul_le_mul_right _ hq
 omega

structure Nc (B : Nat) (ul vl zc : List Nat) (q i c b : Nat) : Prop where
 len : zc.length = ul.length
 same : ∀ j, i ≤ j → zc.getD j 0 = ul.getD j 0
 lt : ∀ x ∈ zc, x < B
 eq : val B (zc.take i) + q * val B (vl.take i) = val B (ul.take i) + B ^ i * (c + b)
 c1 : c < B
 b1 : b ≤ 1
theorem Nc.start {B : Nat} (ul vl : List Nat) (q : Nat) (hB : 0 < B) (h : ∀ x ∈ ul, x < B) : Nc B ul vl ul q 0 0 0 := ⟨rfl, fun _ _ => rfl, h, by simp [val], hB, by omega⟩
theorem Nc.step {B : Nat} {ul vl zc : List Nat} {q i c b d b' t : Nat} (h : Nc B ul vl zc q i c b) (hi : i < ul.length) (ht : t = c + q * vl.getD i 0) (Tu : t < B * B) (hd : d < B) (hb : b' ≤ 1)
  (e : d + t % B + b = ul.getD i 0 + B * b') : Nc B ul vl (zc.set i d) q (i + 1) (t / B) b' := by
 have hlen := h.len
 have hB : 0 < B := by omega
 refine ⟨by simp [hlen], fun j hj => ?_, ym _ _ _ h.lt hd, ?_, ?_, hb⟩
 ·
  rw [Cx _ _ _ _ om, h.same j om]
 ·
  rw [vw _ _ _ om, zg, lu, lu, List.length_take, Nat.min_eq_left om, Nat.pow_succ]
  have he := h.eq
  have Bc := Nat.div_add_mod t B
  generalize B ^ i = P at *
  generalize val B (zc.take i) = Z at *
  generalize val B (vl.take i) = V at *
  generalize val B (ul.take i) = U at *
  generalize vl.getD i 0 = y at *
  generalize ul.getD i 0 = x at *
  generalize t / B = hi at *
  generalize t % B = lo at *
  have k1 : P * d + P * lo + P * b = P * x + P * (B * b') := by rw [← Nat.mul_add, ← Nat.mul_add, e, Nat.mul_add]
  have k2 : P * (B * hi) + P * lo = P * c + P * (q * y) := by rw [← Nat.mul_add, Bc, ht, Nat.mul_add]
  rw [Nat.mul_add] at he
  rw [Nat.mul_add, Nat.mul_add, show q * (P * y) = P * (q * y) by simp only [Nat.mul_left_comm], Nat.mul_assoc, Nat.mul_assoc]
  omega
 ·
  rw [Nat.div_lt_iff_lt_mul hB]; exact Tu
theorem Nc.done {B : Nat} {ul vl zc : List Nat} {q b : Nat} (h : Nc B ul vl zc q ul.length 0 b) (hv : vl.length ≤ ul.length) : val B zc + q * val B vl = val B ul + B ^ ul.length * b := by
 have e := h.eq
 have hl := h.len
 rwa [iw _ zc _ om, iw _ vl _ hv, iw _ _ _ (Nat.le_refl _), Nat.zero_add] at e
end Wd
end Go.Proofs.YtfgeaakhlcaibaaGreatDoor
namespace Go.Proofs.YtfgeaakhlcaibaaGreatDoor
open Go.RowKit

structure StepT (ul vl zr : List Nat) (q : Nat) : Prop where
 len : zr.length = ul.length
 lt : ∀ x ∈ zr, x < ek
 quo : q = Wd.val ek ul / Wd.val ek vl
 rem : Wd.val ek zr = Wd.val ek ul % Wd.val ek vl

theorem adv {x lo b s1 s2 : Nat} (hx : x < ek) (hlo : lo < ek) (hb : b ≤ 1) (h1 : (s1 : Int) = ((x : Int) - (lo : Int)) % 18446744073709551616) (h2 : (s2 : Int) = ((s1 : Int) - (b : Int)) % 18446744073709551616) :
  s2 % ek < ek ∧ s2 / 9223372036854775808 ≤ 1 ∧ s2 % ek + lo + b = x + ek * (s2 / 9223372036854775808) := by
 rw [fe] at *
 omega
theorem bcg {B : Nat} (hB : 0 < B) (l : List Nat) (n : Nat) (hn : 2 ≤ n) (hl : l.length = n + 1) (hlt : ∀ x ∈ l, x < B) :
  ((l.getD n 0 * B + l.getD (n - 1) 0) * B + l.getD (n - 2) 0) * B ^ (n - 2) ≤ Wd.val B l ∧ Wd.val B l < ((l.getD n 0 * B + l.getD (n - 1) 0) * B + l.getD (n - 2) 0 + 1) * B ^ (n - 2) := by
 have h1 := Wd.og B l n om
 rw [Wd.iw _ _ _ om] at h1
 have h2 := Wd.og B l (n - 1) om
 rw [show n - 1 + 1 = n by omega] at h2
 have h2' := Wd.og B l (n - 2) om
 rw [show n - 2 + 1 = n - 1 by omega] at h2'
 have h3 := Wd.Ae (B := B) (l.take (n - 2)) (fun x hx => hlt x (List.mem_of_mem_take hx))
 rw [List.length_take, Nat.min_eq_left om] at h3
 have e : B ^ n = B ^ (n - 2) * B * B := by rw [← Nat.pow_succ, ← Nat.pow_succ, show (n - 2).succ.succ = n by omega]
 have e' : B ^ (n - 1) = B ^ (n - 2) * B := by rw [← Nat.pow_succ, show (n - 2).succ = n - 1 by omega]
 rw [h1, h2, h2', e, e']
 generalize B ^ (n - 2) = P at *
 generalize l.getD n 0 = a at *
 generalize l.getD (n - 1) 0 = b at *
 generalize l.getD (n - 2) 0 = c at *
 have k1 : ((a * B + b) * B + c) * P = P * B * B * a + P * B * b + P * c := by
  simp only [Nat.add_mul, Nat.mul_add, Nat.mul_comm, Nat.mul_left_comm, Nat.mul_assoc]
 rw [Nat.add_mul _ 1 P, Nat.one_mul, k1]
 omega
theorem aks {B : Nat} (l : List Nat) (n : Nat) (hn : 2 ≤ n) (hl : l.length = n) (hlt : ∀ x ∈ l, x < B) :
  (l.getD (n - 1) 0 * B + l.getD (n - 2) 0) * B ^ (n - 2) ≤ Wd.val B l ∧ Wd.val B l < (l.getD (n - 1) 0 * B + l.getD (n - 2) 0 + 1) * B ^ (n - 2) := by
 have h2 := Wd.og B l (n - 1) om
 rw [show n - 1 + 1 = n by omega, Wd.iw _ _ _ om] at h2
 have h2' := Wd.og B l (n - 2) om
 rw [show n - 2 + 1 = n - 1 by omega] at h2'
 have h3 := Wd.Ae (B := B) (l.take (n - 2)) (fun x hx => hlt x (List.mem_of_mem_take hx))
 rw [List.length_take, Nat.min_eq_left om] at h3
 have e' : B ^ (n - 1) = B ^ (n - 2) * B := by rw [← Nat.pow_succ, show (n - 2).succ = n - 1 by omega]
 rw [h2, h2', e']
 generalize B ^ (n - 2) = P at *
 generalize l.getD (n - 1) 0 = b at *
 generalize l.getD (n - 2) 0 = c at *
 have k1 : (b * B + c) * P = P * B * b + P * c := by
  simp only [Nat.add_mul, Nat.mul_add, Nat.mul_comm, Nat.mul_left_comm, Nat.mul_assoc]
 rw [Nat.add_mul _ 1 P, Nat.one_mul, k1]
 omega
theorem aep {a z : Nat} (ha : a < ek) (hz : z < ek) : Go.bits .or .u64 ((a * ek : Nat) : Int) (z : Int) = ((a * ek + z : Nat) : Int) := by
 have h := Lx (z := z) (a := a) (s := 32) (by rw [fe] at hz; omega)
 rw [bits_or_u64_nat _ _ (by rw [fe] at *; omega) (by rw [fe] at *; omega), Nat.or_comm, fe]
 rw [show (2 : Nat) ^ 32 = 4294967296 from rfl] at h
 rw [h, Nat.add_comm]

structure Ie (ul vl : List Nat) (n : Nat) : Prop where
 n2 : 2 ≤ n
 Mj : vl.length = n
 Au : ul.length = n + 1
 ltu : ∀ x ∈ ul, x < ek
 Yn : ∀ x ∈ vl, x < ek
 top : vl.getD (n - 1) 0 ≠ 0
 pre : Wd.val ek ul < ek * Wd.val ek vl
theorem Ie.start {ul vl : List Nat} {n head top : Nat} (h : Ie ul vl n) (hh : head = ul.getD n 0 * ek + ul.getD (n - 1) 0) (ht : top = vl.getD (n - 1) 0) :
  Wd.Xr ek top head (Wd.val ek ul / Wd.val ek vl) (min (head / top) 4294967295) (head - min (head / top) 4294967295 * top) ∧ min (head / top) 4294967295 * top ≤ head := by
 have hB : 0 < ek := by rw [fe]; omega
 have hV := (aks vl n h.n2 h.Mj h.Yn).1
 have hU := bch hB ul n (by have := h.n2; omega) h.Au h.ltu
 have h1 := aso (B := ek) vl n (by have := h.n2; omega) h.Mj
 rw [← ht] at h1
 rw [← hh] at hU
 have ht0 : 0 < top := by rw [ht]; exact Nat.pos_of_ne_zero h.top
 have Ic : 0 < Wd.val ek vl := by
  have h2 : 0 < ek ^ (n - 1) := Nat.pow_pos hB
  have := Nat.mul_pos ht0 h2; omega
 have hQ : Wd.val ek ul / Wd.val ek vl * top ≤ head := Wd.Xq h1 hU (Nat.div_mul_le_self _ _)
 have hQB : Wd.val ek ul / Wd.val ek vl < ek := by rw [Nat.div_lt_iff_lt_mul Ic]; exact h.pre
 have hle : min (head / top) 4294967295 * top ≤ head := Nat.le_trans (Nat.mul_le_mul_right _ (Nat.min_le_left _ _)) (Nat.div_mul_le_self _ _)
 refine ⟨⟨Nat.add_sub_of_le hle, ?_, ?_⟩, hle⟩
 ·
  rw [Nat.le_min]
  exact ⟨(Nat.le_div_iff_mul_le ht0).2 hQ, Nat.le_of_lt_succ (by rw [fe] at hQB; exact hQB)⟩
 ·
  exact Nat.lt_of_le_of_lt (Nat.min_le_right (head / top) 4294967295) (by rw [fe]; omega)
theorem Ie.low {ul vl : List Nat} {n : Nat} (h : Ie ul vl n) : Wd.val ek ul / Wd.val ek vl * (vl.getD (n - 1) 0 * ek + vl.getD (n - 2) 0) ≤ (ul.getD n 0 * ek + ul.getD (n - 1) 0) * ek + ul.getD (n - 2) 0 := by
 have hB : 0 < ek := by rw [fe]; omega
 exact Wd.Xq (aks vl n h.n2 h.Mj h.Yn).1 (bcg hB ul n h.n2 h.Au h.ltu).2 (Nat.div_mul_le_self _ _)
theorem Ie.one {ul vl : List Nat} {n q : Nat} (h : Ie ul vl n) (hq : q * (vl.getD (n - 1) 0 * ek + vl.getD (n - 2) 0) ≤ (ul.getD n 0 * ek + ul.getD (n - 1) 0) * ek + ul.getD (n - 2) 0) (hlt : q < ek) : q ≤ Wd.val ek ul / Wd.val ek vl + 1 := by
 have hB : 0 < ek := by rw [fe]; omega
 have ht0 : 1 ≤ vl.getD (n - 1) 0 := Nat.pos_of_ne_zero h.top
 have h1 : 1 * ek ≤ vl.getD (n - 1) 0 * ek := Nat.mul_le_mul_right _ ht0
 have hV := (aks vl n h.n2 h.Mj h.Yn)
 have hP : 0 < ek ^ (n - 2) := Nat.pow_pos hB
 have Ic : 0 < Wd.val ek vl := by
  have := Nat.mul_pos (show 0 < vl.getD (n - 1) 0 * ek + vl.getD (n - 2) 0 by omega) hP; omega
 exact Wd.aqu (B := ek) hP (bcg hB ul n h.n2 h.Au h.ltu).1 hV.2 Ic rfl hq om
end Go.Proofs.YtfgeaakhlcaibaaGreatDoor
