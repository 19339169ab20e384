/- Part 9 of the texts beneath a law of layer 1: NbK, NearK, RtNew, RatM, Known, ArA, ArDone. -/
import Derived.Test.YtmahhmdodfimbaaGreatDoorCa8
import Derived.BigQuiet
import Derived.Deep.DeepCutAuto
/- The neighbours of 22/7. -/
namespace Go.Proofs.YtmahhmdodfimbaaGreatDoor
open Go.RowKit

theorem set2_block {W : World} {b : Nat} {a0 a1 u0 u1 : Value} {T : TypeId} (h : W.heap[b]? = some (.cells #[a0, a1] T (0, 0))) : ((W.setCell ⟨b, 0, none⟩ u0).setCell ⟨b, 1, none⟩ u1).heap[b]? = some (.cells #[u0, u1] T (0, 0)) := by
  simp [World.setCell, Array.getElem?_modify, h]
/-- What lies in the memory of the search at its rounds' heads. -/
structure NbW (w wr : World) (b0 b1 l0 l1 : Int) : Prop where
  below : Below w.heap.size w wr
  x : wr.heap[w.heap.size]? = some (.cells #[.int .i64 22, .int .i64 7] 23 (0, 0))
  lo : wr.heap[w.heap.size + 1]? = some (.cells #[.int .i64 0, .int .i64 0] 23 (0, 0))
  hi : wr.heap[w.heap.size + 2]? = some (.cells #[.int .i64 0, .int .i64 0] 23 (0, 0))
  bef : wr.heap[w.heap.size + 3]? = some (.cells #[.int .i64 b0, .int .i64 b1] 23 (0, 0))
  last : wr.heap[w.heap.size + 4]? = some (.cells #[.int .i64 l0, .int .i64 l1] 23 (0, 0))
theorem NbW.step {w wr w' : World} {b0 b1 l0 l1 : Int} (h : NbW w wr b0 b1 l0 l1) (hb : Below wr.heap.size wr w') : NbW w w' b0 b1 l0 l1 :=
  ⟨below_step' h.below hb, (hb.block _ (lt_of_block h.x)).trans h.x, (hb.block _ (lt_of_block h.lo)).trans h.lo, (hb.block _ (lt_of_block h.hi)).trans h.hi, (hb.block _ (lt_of_block h.bef)).trans h.bef, (hb.block _ (lt_of_block h.last)).trans h.last⟩
theorem NbW.set {w wr : World} {b0 b1 l0 l1 : Int} (h : NbW w wr b0 b1 l0 l1) (u0 u1 v0 v1 : Int) :
    NbW w ((((wr.setCell ⟨w.heap.size + 3, 0, none⟩ (.int .i64 u0)).setCell ⟨w.heap.size + 3, 1, none⟩ (.int .i64 u1)).setCell ⟨w.heap.size + 4, 0, none⟩ (.int .i64 v0)).setCell ⟨w.heap.size + 4, 1, none⟩ (.int .i64 v1)) u0 u1 v0 v1 := by
  have g1 := set2_grown wr (w.heap.size + 3) (.int .i64 u0) (.int .i64 u1)
  have g2 := set2_grown ((wr.setCell ⟨w.heap.size + 3, 0, none⟩ (.int .i64 u0)).setCell ⟨w.heap.size + 3, 1, none⟩ (.int .i64 u1)) (w.heap.size + 4) (.int .i64 v0) (.int .i64 v1)
  have s1 := g1.size
  have old : ∀ k, k < w.heap.size + 3 → ((((wr.setCell ⟨w.heap.size + 3, 0, none⟩ (.int .i64 u0)).setCell ⟨w.heap.size + 3, 1, none⟩ (.int .i64 u1)).setCell ⟨w.heap.size + 4, 0, none⟩ (.int .i64 v0)).setCell ⟨w.heap.size + 4, 1, none⟩ (.int .i64 v1)).heap[k]? = wr.heap[k]? := fun k hk => by
    have hl := lt_of_block h.last
    exact (g2.block k (by omega) (fun e => by injection e with e; omega)).trans (g1.block k (by omega) (fun e => by injection e with e; omega))
  have hl := lt_of_block h.last
  have e1 := set2_block (u0 := .int .i64 u0) (u1 := .int .i64 u1) h.bef
  refine ⟨(h.below.grown g1 h.below.size (fun k hk => by injection hk with hk; omega)).grown g2 (by have := h.below.size; omega) (fun k hk => by injection hk with hk; omega), (old _ (by omega)).trans h.x, (old _ (by omega)).trans h.lo, (old _ (by omega)).trans h.hi, ?_, ?_⟩
  · exact (g2.block _ (lt_of_block e1) (fun e => by injection e with e; omega)).trans e1
  · exact set2_block ((g1.block _ hl (fun e => by injection e with e; omega)).trans h.last)
theorem nb_start (w : World) (n : Nat) : NbW w ((((((w.alloc (.cells #[.int .i64 22, .int .i64 7] 23)).alloc (.cells #[.int .i64 0, .int .i64 0] 23)).alloc (.cells #[.int .i64 0, .int .i64 0] 23)).alloc (.cells #[.int .i64 0, .int .i64 1] 23)).alloc (.cells #[.int .i64 1, .int .i64 0] 23)).drewN n) 0 1 1 0 := by
  obtain ⟨h1, h2, h3, h4, h5⟩ := three_new w (.cells #[.int .i64 22, .int .i64 7] 23) (.cells #[.int .i64 0, .int .i64 0] 23) (.cells #[.int .i64 0, .int .i64 0] 23)
  obtain ⟨g1, g2, g3, g4⟩ := two_new (((w.alloc (.cells #[.int .i64 22, .int .i64 7] 23)).alloc (.cells #[.int .i64 0, .int .i64 0] 23)).alloc (.cells #[.int .i64 0, .int .i64 0] 23)) (.cells #[.int .i64 0, .int .i64 1] 23) (.cells #[.int .i64 1, .int .i64 0] 23)
  have up := g4.block
  rw [h4] at g1 g2 up
  exact ⟨(below_step' h5 g4).grown (grown_drewN (grown_refl _ none) n) (by have := (below_step' h5 g4).size; omega) (fun k hk => by cases hk), (up _ (by omega)).trans h1, (up _ (by omega)).trans h2, (up _ (by omega)).trans h3, g1, g2⟩
theorem fresh_block {W w' : World} {o : Obj} (hb : Below (W.alloc o).heap.size (W.alloc o) w') : w'.heap[W.heap.size]? = some o := (hb.block _ (by simp)).trans (heap_alloc_new W o)
theorem fresh_drew {W w' : World} {o : Obj} (hb : Below (W.alloc o).drew.heap.size (W.alloc o).drew w') : w'.heap[W.heap.size]? = some o := (hb.block _ (show W.heap.size < (W.alloc o).heap.size by simp)).trans (heap_alloc_new W o)
set_option maxRecDepth 100000 in
set_option maxHeartbeats 16000000 in
theorem nb_known (w : World) :
    Calls Tryz.prog 60 #[(Value.agg #[.int .i64 22, .int .i64 7]), .int .i64 5] w fun e w' => e = .returned (.tuple #[(Value.agg #[.int .i64 3, .int .i64 1]), (Value.agg #[.int .i64 16, .int .i64 5])]) ∧ Below w.heap.size w w' := by
  have HF1 := hide (fun W => fdiv_any 22 7 W (by omega) (by omega) (by omega) (by omega))
  have HF2 := hide (fun W => fdiv_any 7 1 W (by omega) (by omega) (by omega) (by omega))
  rw [show (22 : Int) / 7 = 3 by decide] at HF1
  rw [show (7 : Int) / 1 = 7 by decide] at HF2
  have HM1 := hide (fun W => med_any 0 1 1 0 3 3 0 3 1 W rfl rfl rfl rfl (by omega) (by omega) (by omega) (by omega))
  have HM2 := hide (fun W => med_any 1 0 3 1 7 21 7 22 7 W rfl rfl rfl rfl (by omega) (by omega) (by omega) (by omega))
  have HM3 := hide (fun W => med_any 1 0 3 1 5 15 5 16 5 W rfl rfl rfl rfl (by omega) (by omega) (by omega) (by omega))
  have HO1 := hide (fun W => rof_any 16 5 W (by omega) (by omega) (by omega) (by omega))
  have HO2 := hide (fun W => rof_any 22 7 W (by omega) (by omega) (by omega) (by omega))
  have o1 : Wd.okR 16 5 := by decide
  have o2 : Wd.okR 22 7 := by decide
  obtain ⟨e1, e2⟩ := Wd.qR_ok o1
  obtain ⟨e3, e4⟩ := Wd.qR_ok o2
  have hcc := opc_cmp w (Wd.qR 16 5) (Wd.qR 22 7) (okR_sz o1) (okR_sz o2) (by unfold lim; omega)
  unfold OpC at hcc
  rw [e1, e2, e3, e4, show sgn (16 * 7 - 22 * 5) = 1 by decide] at hcc
  have HCC := hide hcc
  clear hcc e1 e2 e3 e4 o1 o2
  go_enter Tryz.func60, Tryz.ntmps60
  go_wp2_with fail
  go_quiet (fail)
  go_wp2_with fail
  go_loopw [8, 9] (fun nv dv wr => (nv = .int .i64 22 ∧ dv = .int .i64 7 ∧ NbW w wr 0 1 1 0) ∨ (nv = .int .i64 7 ∧ dv = .int .i64 1 ∧ NbW w wr 1 0 3 1)) (fun _ dv _ => (intOf dv).toNat)
  case atStart => exact .inl ⟨rfl, rfl, nb_start w _⟩
  case round =>
    rcases hrel with ⟨rfl, rfl, hw⟩ | ⟨rfl, rfl, hw⟩
    · have b0 : wr.cell? ⟨w.heap.size + 1 + 1 + 1, 0, none⟩ = some (.int .i64 0) := cells_of hw.bef 0
      have b1 : wr.cell? ⟨w.heap.size + 1 + 1 + 1, 1, none⟩ = some (.int .i64 1) := cells_of hw.bef 1
      have l0 : wr.cell? ⟨w.heap.size + 1 + 1 + 1 + 1, 0, none⟩ = some (.int .i64 1) := cells_of hw.last 0
      have l1 : wr.cell? ⟨w.heap.size + 1 + 1 + 1 + 1, 1, none⟩ = some (.int .i64 0) := cells_of hw.last 1
      have HW := hide hw
      clear hw
      go_wp2_with fail
      refine ((unhide HF1) _).mono ?_
      rintro e w1 ⟨rfl, rfl⟩
      go_wp2_with fail
      refine ((unhide HM1) _).mono ?_
      rintro e w2 ⟨rfl, hb⟩
      have hw2 := ((unhide HW).step hb).step (below_alloc (Below.refl _ _) (.cells #[.int .i64 3, .int .i64 1] 23))
      have hn := heap_alloc_new w2 (.cells #[.int .i64 3, .int .i64 1] 23)
      have HWo := HW
      have hb0 := hb
      clear b0 b1 l0 l1 hb HW
      have c0 : (w2.alloc (.cells #[.int .i64 3, .int .i64 1] 23)).cell? ⟨w.heap.size + 1 + 1 + 1 + 1, 0, none⟩ = some (.int .i64 1) := cells_of hw2.last 0
      have c1 : (w2.alloc (.cells #[.int .i64 3, .int .i64 1] 23)).cell? ⟨w.heap.size + 1 + 1 + 1 + 1, 1, none⟩ = some (.int .i64 0) := cells_of hw2.last 1
      have c2 : (w2.alloc (.cells #[.int .i64 3, .int .i64 1] 23)).cell? ⟨w.heap.size + 1 + 1 + 1, 0, none⟩ = some (.int .i64 0) := cells_of hw2.bef 0
      have c3 : (w2.alloc (.cells #[.int .i64 3, .int .i64 1] 23)).cell? ⟨w.heap.size + 1 + 1 + 1, 1, none⟩ = some (.int .i64 1) := cells_of hw2.bef 1
      have d0 : (w2.alloc (.cells #[.int .i64 3, .int .i64 1] 23)).cell? ⟨w2.heap.size, 0, none⟩ = some (.int .i64 3) := cells_of hn 0
      have d1 : (w2.alloc (.cells #[.int .i64 3, .int .i64 1] 23)).cell? ⟨w2.heap.size, 1, none⟩ = some (.int .i64 1) := cells_of hn 1
      have f0 : (w2.alloc (.cells #[.int .i64 3, .int .i64 1] 23)).frozen? ⟨w.heap.size + 1 + 1 + 1 + 1, 0, none⟩ = false := unfrozen_of hw2.last 0
      have f1 : (w2.alloc (.cells #[.int .i64 3, .int .i64 1] 23)).frozen? ⟨w.heap.size + 1 + 1 + 1 + 1, 1, none⟩ = false := unfrozen_of hw2.last 1
      have f2 : (w2.alloc (.cells #[.int .i64 3, .int .i64 1] 23)).frozen? ⟨w.heap.size + 1 + 1 + 1, 0, none⟩ = false := unfrozen_of hw2.bef 0
      have f3 : (w2.alloc (.cells #[.int .i64 3, .int .i64 1] 23)).frozen? ⟨w.heap.size + 1 + 1 + 1, 1, none⟩ = false := unfrozen_of hw2.bef 1
      have HW2 := hide hw2
      have HN := hide hn
      have HN2 := hide (show w.heap.size + 1 + 1 + 1 + 1 < w2.heap.size from lt_of_block ((unhide HWo).step hb0).last)
      clear hw2 hn
      go_upto_region 5 with fail
      generalize w2.alloc (.cells #[.int .i64 3, .int .i64 1] 23) = w3 at *
      obtain ⟨p, hp⟩ : ∃ p, p = w2.heap.size := ⟨_, rfl⟩
      rw [← hp] at d0 d1 ⊢
      have hpn : w.heap.size + 1 + 1 + 1 + 1 < p := by rw [hp]; exact unhide HN2
      clear HN hp
      go_wp2_with fail
      go_region
      all_goals go_wp2_with fail
      go_roundw
      case rel => exact .inr ⟨by go_num, by go_num, ((unhide HW2).step (Below.refl _ _).drew).set 1 0 3 1⟩
      case measure => simp [intOf]
    · have b0 : wr.cell? ⟨w.heap.size + 1 + 1 + 1, 0, none⟩ = some (.int .i64 1) := cells_of hw.bef 0
      have b1 : wr.cell? ⟨w.heap.size + 1 + 1 + 1, 1, none⟩ = some (.int .i64 0) := cells_of hw.bef 1
      have l0 : wr.cell? ⟨w.heap.size + 1 + 1 + 1 + 1, 0, none⟩ = some (.int .i64 3) := cells_of hw.last 0
      have l1 : wr.cell? ⟨w.heap.size + 1 + 1 + 1 + 1, 1, none⟩ = some (.int .i64 1) := cells_of hw.last 1
      have HW := hide hw
      clear hw
      go_wp2_with fail
      refine ((unhide HF2) _).mono ?_
      rintro e w1 ⟨rfl, rfl⟩
      go_wp2_with fail
      refine ((unhide HM2) _).mono ?_
      rintro e w2 ⟨rfl, hb⟩
      have hw2 := ((unhide HW).step hb).step (below_alloc (Below.refl _ _) (.cells #[.int .i64 22, .int .i64 7] 23))
      have hn := heap_alloc_new w2 (.cells #[.int .i64 22, .int .i64 7] 23)
      clear b0 b1 l0 l1 hb HW
      have d1 : (w2.alloc (.cells #[.int .i64 22, .int .i64 7] 23)).cell? ⟨w2.heap.size, 1, none⟩ = some (.int .i64 7) := cells_of hn 1
      have HW2 := hide hw2
      clear hw2 hn
      go_upto_region 5 with fail
      generalize w2.alloc (.cells #[.int .i64 22, .int .i64 7] 23) = w3 at *
      go_upto_region 8 with fail
      have c0 : w3.cell? ⟨w.heap.size + 1 + 1 + 1 + 1, 0, none⟩ = some (.int .i64 3) := cells_of (unhide HW2).last 0
      have c1 : w3.cell? ⟨w.heap.size + 1 + 1 + 1 + 1, 1, none⟩ = some (.int .i64 1) := cells_of (unhide HW2).last 1
      have c2 : w3.cell? ⟨w.heap.size + 1 + 1 + 1, 0, none⟩ = some (.int .i64 1) := cells_of (unhide HW2).bef 0
      have c3 : w3.cell? ⟨w.heap.size + 1 + 1 + 1, 1, none⟩ = some (.int .i64 0) := cells_of (unhide HW2).bef 1
      have q4 : w.heap.size + 1 + 1 + 1 + 1 < w3.heap.size := lt_of_block (unhide HW2).last
      have q3 : w.heap.size + 1 + 1 + 1 < w3.heap.size := lt_of_block (unhide HW2).bef
      have KEEP := hide (show ∀ X, Below w3.heap.size w3 X → X.cell? ⟨w.heap.size + 1 + 1 + 1 + 1, 0, none⟩ = some (.int .i64 3) ∧ X.cell? ⟨w.heap.size + 1 + 1 + 1 + 1, 1, none⟩ = some (.int .i64 1) ∧ X.cell? ⟨w.heap.size + 1 + 1 + 1, 0, none⟩ = some (.int .i64 1) ∧ X.cell? ⟨w.heap.size + 1 + 1 + 1, 1, none⟩ = some (.int .i64 0) from fun X hB => ⟨keep_cell hB q4 c0, keep_cell hB q4 c1, keep_cell hB q3 c2, keep_cell hB q3 c3⟩)
      clear d1 q3 q4 c0 c1 c2 c3
      have ew : IntKind.i64.wrap 5 = 5 := by decide
      go_cut [12] (fun s12 wx => ∃ b12 : Nat, s12 = .pointer (some ⟨b12, 0, none⟩) ∧ wx.heap[b12]? = some (.cells #[.int .i64 16, .int .i64 5] 23 (0, 0)) ∧ Below w3.heap.size w3 wx ∧ w3.heap.size ≤ b12)
      case first =>
        go_region_held3 (fun w' => w'.cell? ⟨w.heap.size + 1 + 1 + 1 + 1, 0, none⟩ = some (.int .i64 3) ∧ w'.cell? ⟨w.heap.size + 1 + 1 + 1 + 1, 1, none⟩ = some (.int .i64 1) ∧ w'.cell? ⟨w.heap.size + 1 + 1 + 1, 0, none⟩ = some (.int .i64 1) ∧ w'.cell? ⟨w.heap.size + 1 + 1 + 1, 1, none⟩ = some (.int .i64 0)) (exact (unhide KEEP) _ (by (repeat (first | with_reducible exact Below.refl _ _ | with_reducible assumption | with_reducible refine Below.drew ?_ | with_reducible refine below_alloc ?_ _ | (with_reducible refine below_set ?_ ?_ _ _; rotate_left; (first | omega | (simp <;> omega))))))) ((go_at_call 111; refine ((unhide HM3) _).mono ?_; rintro e w' ⟨rfl, hb⟩; have hbw := below_step (w := w3) (by (repeat (first | with_reducible exact Below.refl _ _ | with_reducible assumption | with_reducible refine Below.drew ?_ | with_reducible refine below_alloc ?_ _))) hb; have hsw := hbw.size; (try (have un : w'.heap[w3.heap.size]? = some (.cells #[.int .i64 0, .int .i64 0] 23 (0, 0)) := (by first | exact fresh_block hb | exact fresh_drew hb); have un0 : w'.cell? ⟨w3.heap.size, 0, none⟩ = some (.int .i64 0) := cells_of un 0; have un1 : w'.cell? ⟨w3.heap.size, 1, none⟩ = some (.int .i64 0) := cells_of un 1; have un2 := unfrozen_of un 0; have un3 := unfrozen_of un 1))))
        all_goals
          go_wp2_with fail
          go_meet
          first
            | exact ⟨_, rfl, heap_alloc_new w' _, below_alloc hbw _, hsw⟩
            | exact ⟨_, rfl, set2_block un, hbw.grown (set2_grown _ _ _ _) hbw.size (fun k hk => by injection hk with hk; omega), Nat.le_refl _⟩
      case rest =>
        revert hcut
        generalize wc = W5
        intro hcut
        obtain ⟨b12, rfl, hn12, hb5, ob⟩ := hcut
        have ol := lt_of_block (unhide HW2).last
        have i1 : ¬ (b12 = w.heap.size + 1) := by omega
        have i2 : ¬ (w.heap.size + 1 = b12) := by omega
        have i3 : ¬ (b12 = w.heap.size + 1 + 1) := by omega
        have i4 : ¬ (w.heap.size + 1 + 1 = b12) := by omega
        clear ob ol
        have hw5 := (unhide HW2).step hb5
        have a0 : W5.cell? ⟨b12, 0, none⟩ = some (.int .i64 16) := cells_of hn12 0
        have a1 : W5.cell? ⟨b12, 1, none⟩ = some (.int .i64 5) := cells_of hn12 1
        have x0 : W5.cell? ⟨w.heap.size, 0, none⟩ = some (.int .i64 22) := cells_of hw5.x 0
        have x1 : W5.cell? ⟨w.heap.size, 1, none⟩ = some (.int .i64 7) := cells_of hw5.x 1
        have q12 := lt_of_block hn12
        have qx := lt_of_block hw5.x
        have HW5 := hide hw5
        have HN12 := hide hn12
        clear KEEP HW2 hb5 hw5 hn12
        have KEEP := hide (show ∀ X, Below W5.heap.size W5 X → X.cell? ⟨b12, 0, none⟩ = some (.int .i64 16) ∧ X.cell? ⟨b12, 1, none⟩ = some (.int .i64 5) ∧ X.cell? ⟨w.heap.size, 0, none⟩ = some (.int .i64 22) ∧ X.cell? ⟨w.heap.size, 1, none⟩ = some (.int .i64 7) from fun X hB => ⟨keep_cell hB q12 a0, keep_cell hB q12 a1, keep_cell hB qx x0, keep_cell hB qx x1⟩)
        go_upto_region 9 with fail
        go_region_held3 (fun w' => w'.cell? ⟨b12, 0, none⟩ = some (.int .i64 16) ∧ w'.cell? ⟨b12, 1, none⟩ = some (.int .i64 5) ∧ w'.cell? ⟨w.heap.size, 0, none⟩ = some (.int .i64 22) ∧ w'.cell? ⟨w.heap.size, 1, none⟩ = some (.int .i64 7)) (exact (unhide KEEP) _ (by (repeat (first | with_reducible exact Below.refl _ _ | with_reducible assumption | with_reducible refine Below.drew ?_ | with_reducible refine below_alloc ?_ _)))) (first | (go_at_call_of 50 (Value.agg #[.int .i64 16, .int .i64 5]); refine ((unhide HO1) _).mono ?_; rintro e w' ⟨s5, neg5, A5, c5, l5, s6, neg6, A6, c6, l6, rfl, hf5, hf6, hb5⟩; have hbw := below_step (w := W5) (by (repeat (first | with_reducible exact Below.refl _ _ | with_reducible assumption | with_reducible refine Below.drew ?_ | with_reducible refine below_alloc ?_ _))) hb5; have hsw := hbw.size; obtain ⟨hc, hfz⟩ := bcell hbw) | (go_at_call_of 50 (Value.agg #[.int .i64 22, .int .i64 7]); refine ((unhide HO2) _).mono ?_; rintro e w' ⟨s7, neg7, A7, c7, l7, s8, neg8, A8, c8, l8, rfl, hf7, hf8, hb7⟩; have hf5 := IntF.below (IntF.below hf5 (by (repeat (first | with_reducible exact Below.refl _ _ | with_reducible assumption | with_reducible refine Below.drew ?_ | with_reducible refine below_alloc ?_ _)))) hb7; have hf6 := IntF.below (IntF.below hf6 (by (repeat (first | with_reducible exact Below.refl _ _ | with_reducible assumption | with_reducible refine Below.drew ?_ | with_reducible refine below_alloc ?_ _)))) hb7; have hbw := below_step (w := W5) (by (repeat (first | with_reducible exact Below.refl _ _ | with_reducible assumption | with_reducible refine Below.drew ?_ | with_reducible refine below_alloc ?_ _))) hb7; have hsw := hbw.size; obtain ⟨hc, hfz⟩ := bcell hbw) | (go_at_call_of 62 (Value.agg #[.int .i64 s5, .bool neg5, .slice A5 l5.length c5, .int .i64 s6, .bool neg6, .slice A6 l6.length c6]); refine ((unhide HCC) s5 neg5 A5 c5 l5 s6 neg6 A6 c6 l6 s7 neg7 A7 c7 l7 s8 neg8 A8 c8 l8 _ (below_step' (unhide HW5).below (by (repeat (first | with_reducible exact Below.refl _ _ | with_reducible assumption | with_reducible refine Below.drew ?_ | with_reducible refine below_alloc ?_ _)))) (IntF.below hf5 (by (repeat (first | with_reducible exact Below.refl _ _ | with_reducible assumption | with_reducible refine Below.drew ?_ | with_reducible refine below_alloc ?_ _)))) (IntF.below hf6 (by (repeat (first | with_reducible exact Below.refl _ _ | with_reducible assumption | with_reducible refine Below.drew ?_ | with_reducible refine below_alloc ?_ _)))) (IntF.below hf7 (by (repeat (first | with_reducible exact Below.refl _ _ | with_reducible assumption | with_reducible refine Below.drew ?_ | with_reducible refine below_alloc ?_ _)))) (IntF.below hf8 (by (repeat (first | with_reducible exact Below.refl _ _ | with_reducible assumption | with_reducible refine Below.drew ?_ | with_reducible refine below_alloc ?_ _))))).mono ?_; rintro e w' ⟨rfl, hb9⟩; have hbw := below_step (w := W5) (by (repeat (first | with_reducible exact Below.refl _ _ | with_reducible assumption | with_reducible refine Below.drew ?_ | with_reducible refine below_alloc ?_ _))) hb9; have hsw := hbw.size; obtain ⟨hc, hfz⟩ := bcell hbw))
        clear hf5 hf6 hf7 hf8 hc hfz a0 a1 x0 x1 KEEP
        have hw6 := (unhide HW5).step hbw
        have hn6 := (hbw.block _ (lt_of_block (unhide HN12))).trans (unhide HN12)
        have a0 : w'.cell? ⟨b12, 0, none⟩ = some (.int .i64 16) := cells_of hn6 0
        have a1 : w'.cell? ⟨b12, 1, none⟩ = some (.int .i64 5) := cells_of hn6 1
        have c0 : w'.cell? ⟨w.heap.size + 1 + 1 + 1 + 1, 0, none⟩ = some (.int .i64 3) := cells_of hw6.last 0
        have c1 : w'.cell? ⟨w.heap.size + 1 + 1 + 1 + 1, 1, none⟩ = some (.int .i64 1) := cells_of hw6.last 1
        have r0 : w'.cell? ⟨w.heap.size + 1, 0, none⟩ = some (.int .i64 0) := cells_of hw6.lo 0
        have r1 : w'.cell? ⟨w.heap.size + 1, 1, none⟩ = some (.int .i64 0) := cells_of hw6.lo 1
        have r2 : w'.cell? ⟨w.heap.size + 1 + 1, 0, none⟩ = some (.int .i64 0) := cells_of hw6.hi 0
        have r3 : w'.cell? ⟨w.heap.size + 1 + 1, 1, none⟩ = some (.int .i64 0) := cells_of hw6.hi 1
        have f0 : w'.frozen? ⟨w.heap.size + 1, 0, none⟩ = false := unfrozen_of hw6.lo 0
        have f1 : w'.frozen? ⟨w.heap.size + 1, 1, none⟩ = false := unfrozen_of hw6.lo 1
        have f2 : w'.frozen? ⟨w.heap.size + 1 + 1, 0, none⟩ = false := unfrozen_of hw6.hi 0
        have f3 : w'.frozen? ⟨w.heap.size + 1 + 1, 1, none⟩ = false := unfrozen_of hw6.hi 1
        have hb9' := hw6.below
        have hs : w.heap.size + 1 + 1 < w'.heap.size := lt_of_block hw6.hi
        clear hw6 hn6 HW5 HN12
        go_wp2_with fail
        go_region
        all_goals go_wp2_with fail
        exact bodyPost_ret (v := .tuple #[(Value.agg #[.int .i64 3, .int .i64 1]), (Value.agg #[.int .i64 16, .int .i64 5])]) (by simp [results, Tryz.results60, go_sem, r0, r1, r2, r3, hs]) rfl
          ⟨rfl, ((hb9'.grown (set2_grown _ _ _ _) hb9'.size (fun k hk => by injection hk with hk; omega)).grown (set2_grown _ _ _ _) (Nat.le_trans hb9'.size (set2_grown w' (w.heap.size + 1) (.int .i64 3) (.int .i64 1)).size) (fun k hk => by injection hk with hk; omega)).drew⟩

end Go.Proofs.YtmahhmdodfimbaaGreatDoor
/- The number nearest to 22/7 with a denominator of at most 5. -/
namespace Go.Proofs.YtmahhmdodfimbaaGreatDoor
open Go.RowKit

set_option maxRecDepth 100000 in
set_option maxHeartbeats 16000000 in
theorem near_known (w : World) (hT : Tab w) :
    Calls Tryz.prog 18 #[(Value.agg #[.int .i64 22, .int .i64 7]), .int .i64 5] w fun e w' => e = .returned (.tuple #[(Value.agg #[.int .i64 16, .int .i64 5]), .int .i64 0]) ∧ Below w.heap.size w w' := by
  have HV := hide (val_any 22 7)
  rw [show valE 22 7 = 0 by decide] at HV
  have HNB := hide nb_known
  have HO := hide (fun W => rof_any 22 7 W (by omega) (by omega) (by omega) (by omega))
  have HO1 := hide (fun W => rof_any 3 1 W (by omega) (by omega) (by omega) (by omega))
  have HO2 := hide (fun W => rof_any 16 5 W (by omega) (by omega) (by omega) (by omega))
  have o1 : Wd.okR 22 7 := by decide
  have o2 : Wd.okR 3 1 := by decide
  have o3 : Wd.okR 16 5 := by decide
  obtain ⟨e1, e2⟩ := Wd.qR_ok o1
  obtain ⟨e3, e4⟩ := Wd.qR_ok o2
  obtain ⟨e5, e6⟩ := Wd.qR_ok o3
  obtain ⟨hs1, z1⟩ := opq_sub hT (Wd.qR 22 7) (Wd.qR 3 1) (okR_sz o1) (okR_sz o2) lim3
  obtain ⟨hs2, z2⟩ := opq_sub hT (Wd.qR 16 5) (Wd.qR 22 7) (okR_sz o3) (okR_sz o1) lim3
  have hcc := opc_cmp w _ _ z1 z2 (by unfold lim; omega)
  rw [show sgn ((Wd.qR 22 7 - Wd.qR 3 1).num * (Wd.qR 16 5 - Wd.qR 22 7).den - (Wd.qR 16 5 - Wd.qR 22 7).num * (Wd.qR 22 7 - Wd.qR 3 1).den) = 1 by decide +kernel] at hcc
  unfold OpQ2 at hs1 hs2
  unfold OpC at hcc
  rw [e1, e2, e3, e4] at hs1
  rw [e5, e6, e1, e2] at hs2
  generalize Wd.qR 22 7 - Wd.qR 3 1 = u at *
  generalize Wd.qR 16 5 - Wd.qR 22 7 = v at *
  have HS1 := hide hs1
  have HS2 := hide hs2
  have HCC := hide hcc
  have HT := hide hT
  clear hT o1 o2 o3 e1 e2 e3 e4 e5 e6 hs1 hs2 z1 z2 hcc
  go_enter Tryz.func18, Tryz.ntmps18
  go_wp2_with fail
  obtain ⟨n0_, n1_, hsz, hw0⟩ := two_new w (.cells #[.int .i64 22, .int .i64 7] 23) (.cells #[.int .i64 0, .int .i64 0] 23)
  generalize ((w.alloc (.cells #[.int .i64 22, .int .i64 7] 23)).alloc (.cells #[.int .i64 0, .int .i64 0] 23)) = W0 at *
  clear hsz
  refine ((unhide HV) _ ((unhide HT).below hw0)).mono ?_
  rintro e W1 ⟨rfl, hb⟩
  have x1 := (hb.block _ (lt_of_block n0_)).trans n0_
  have r1 := (hb.block _ (lt_of_block n1_)).trans n1_
  have hw1 := below_step' hw0 hb
  clear n0_ n1_ hb hw0 W0
  have k0 : W1.cell? ⟨w.heap.size, 0, none⟩ = some (.int .i64 22) := cells_of x1 0
  have k1 : W1.cell? ⟨w.heap.size, 1, none⟩ = some (.int .i64 7) := cells_of x1 1
  have X1 := hide x1
  have R1 := hide r1
  clear x1 r1
  go_wp2_with fail
  refine ((unhide HNB) _).mono ?_
  rintro e W2 ⟨rfl, hb⟩
  have x1 := (hb.block _ (lt_of_block (unhide X1))).trans (unhide X1)
  have r1 := (hb.block _ (lt_of_block (unhide R1))).trans (unhide R1)
  have hw2 := below_step' hw1 hb
  clear k0 k1 hb hw1 X1 R1
  have k0 : W2.cell? ⟨w.heap.size, 0, none⟩ = some (.int .i64 22) := cells_of x1 0
  have k1 : W2.cell? ⟨w.heap.size, 1, none⟩ = some (.int .i64 7) := cells_of x1 1
  have X1 := hide x1
  have R1 := hide r1
  clear x1 r1
  go_upto_region 9 with fail
  obtain ⟨n7, n8, hsz, hb⟩ := two_new W2 (.cells #[.int .i64 3, .int .i64 1] 23) (.cells #[.int .i64 16, .int .i64 5] 23)
  have x1 := (hb.block _ (lt_of_block (unhide X1))).trans (unhide X1)
  have r1 := (hb.block _ (lt_of_block (unhide R1))).trans (unhide R1)
  have hw3 := below_step' hw2 hb
  generalize ((W2.alloc (.cells #[.int .i64 3, .int .i64 1] 23)).alloc (.cells #[.int .i64 16, .int .i64 5] 23)) = W3 at *
  have ob7 : w.heap.size + 1 < W2.heap.size := lt_of_block (unhide R1)
  obtain ⟨b7, hb7⟩ : ∃ b, b = W2.heap.size := ⟨_, rfl⟩
  rw [← hb7] at n7 n8 ob7 ⊢
  clear k0 k1 hb hw2 X1 R1 hsz hb7
  have k0 : W3.cell? ⟨w.heap.size, 0, none⟩ = some (.int .i64 22) := cells_of x1 0
  have k1 : W3.cell? ⟨w.heap.size, 1, none⟩ = some (.int .i64 7) := cells_of x1 1
  go_wp2_with fail
  refine ((unhide HO) _).mono ?_
  rintro e W4 ⟨s1, neg1, A1, c1, l1, s2, neg2, A2, c2, l2, rfl, hf1, hf2, hb⟩
  go_upto_region 10 with fail
  have n9 := heap_alloc_new W4 (.cells #[.int .i64 s1, .bool neg1, .slice A1 l1.length c1, .int .i64 s2, .bool neg2, .slice A2 l2.length c2] 63)
  have hn : Below W4.heap.size W4 (W4.alloc (.cells #[.int .i64 s1, .bool neg1, .slice A1 l1.length c1, .int .i64 s2, .bool neg2, .slice A2 l2.length c2] 63)) := below_alloc (Below.refl _ _) _
  have ob9 : W3.heap.size ≤ W4.heap.size := hb.size
  generalize W4.alloc (.cells #[.int .i64 s1, .bool neg1, .slice A1 l1.length c1, .int .i64 s2, .bool neg2, .slice A2 l2.length c2] 63) = W5 at *
  obtain ⟨b9, hb9⟩ : ∃ b, b = W4.heap.size := ⟨_, rfl⟩
  rw [← hb9] at n9 ob9 ⊢
  have hB5 := below_step' hb hn
  have H1 := hide (hf1.below hn)
  have H2 := hide (hf2.below hn)
  have m7 := (hB5.block _ (lt_of_block n7)).trans n7
  have m8 := (hB5.block _ (lt_of_block n8)).trans n8
  have mr := (hB5.block _ (lt_of_block r1)).trans r1
  have HB := Lib.hid (below_step' hw3 hB5)
  have HM8 := hide m8
  have HMR := hide mr
  have kb7_0 : W5.cell? ⟨b7, 0, none⟩ = some (.int .i64 3) := cells_of m7 0
  have kb7_1 : W5.cell? ⟨b7, 1, none⟩ = some (.int .i64 1) := cells_of m7 1
  have kb8_0 : W5.cell? ⟨b7 + 1, 0, none⟩ = some (.int .i64 16) := cells_of m8 0
  have kb8_1 : W5.cell? ⟨b7 + 1, 1, none⟩ = some (.int .i64 5) := cells_of m8 1
  have kb9_0 : W5.cell? ⟨b9, 0, none⟩ = some (.int .i64 s1) := cells_of n9 0
  have kb9_1 : W5.cell? ⟨b9, 1, none⟩ = some (.bool neg1) := cells_of n9 1
  have kb9_2 : W5.cell? ⟨b9, 2, none⟩ = some (.slice A1 l1.length c1) := cells_of n9 2
  have kb9_3 : W5.cell? ⟨b9, 3, none⟩ = some (.int .i64 s2) := cells_of n9 3
  have kb9_4 : W5.cell? ⟨b9, 4, none⟩ = some (.bool neg2) := cells_of n9 4
  have kb9_5 : W5.cell? ⟨b9, 5, none⟩ = some (.slice A2 l2.length c2) := cells_of n9 5
  have qb7 := lt_of_block m7
  have qb8 := lt_of_block m8
  have qb9 := lt_of_block n9
  clear k0 k1 hf1 hf2 hb hn n7 n8 n9 x1 r1 m7 m8 mr hw3 hB5 ob9 hb9
  have KEEP := hide (show ∀ X, Below W5.heap.size W5 X → X.cell? ⟨b7, 0, none⟩ = some (.int .i64 3) ∧ X.cell? ⟨b7, 1, none⟩ = some (.int .i64 1) ∧ X.cell? ⟨b7 + 1, 0, none⟩ = some (.int .i64 16) ∧ X.cell? ⟨b7 + 1, 1, none⟩ = some (.int .i64 5) ∧ X.cell? ⟨b9, 0, none⟩ = some (.int .i64 s1) ∧ X.cell? ⟨b9, 1, none⟩ = some (.bool neg1) ∧ X.cell? ⟨b9, 2, none⟩ = some (.slice A1 l1.length c1) ∧ X.cell? ⟨b9, 3, none⟩ = some (.int .i64 s2) ∧ X.cell? ⟨b9, 4, none⟩ = some (.bool neg2) ∧ X.cell? ⟨b9, 5, none⟩ = some (.slice A2 l2.length c2) from fun X hB => ⟨keep_cell hB qb7 kb7_0, keep_cell hB qb7 kb7_1, keep_cell hB qb8 kb8_0, keep_cell hB qb8 kb8_1, keep_cell hB qb9 kb9_0, keep_cell hB qb9 kb9_1, keep_cell hB qb9 kb9_2, keep_cell hB qb9 kb9_3, keep_cell hB qb9 kb9_4, keep_cell hB qb9 kb9_5⟩)
  go_region_held3 (fun w' => w'.cell? ⟨b7, 0, none⟩ = some (.int .i64 3) ∧ w'.cell? ⟨b7, 1, none⟩ = some (.int .i64 1) ∧ w'.cell? ⟨b7 + 1, 0, none⟩ = some (.int .i64 16) ∧ w'.cell? ⟨b7 + 1, 1, none⟩ = some (.int .i64 5) ∧ w'.cell? ⟨b9, 0, none⟩ = some (.int .i64 s1) ∧ w'.cell? ⟨b9, 1, none⟩ = some (.bool neg1) ∧ w'.cell? ⟨b9, 2, none⟩ = some (.slice A1 l1.length c1) ∧ w'.cell? ⟨b9, 3, none⟩ = some (.int .i64 s2) ∧ w'.cell? ⟨b9, 4, none⟩ = some (.bool neg2) ∧ w'.cell? ⟨b9, 5, none⟩ = some (.slice A2 l2.length c2)) (exact (unhide KEEP) _ (by (repeat (first | with_reducible exact Below.refl _ _ | with_reducible assumption | with_reducible refine Below.drew ?_ | with_reducible refine below_alloc ?_ _)))) (first | (go_at_call_of 50 (Value.agg #[.int .i64 3, .int .i64 1]); refine ((unhide HO1) _).mono ?_; rintro e w' ⟨s5, neg5, A5, c5, l5, s6, neg6, A6, c6, l6, rfl, hf5, hf6, hb5⟩; have hbw := below_step (w := W5) (by (repeat (first | with_reducible exact Below.refl _ _ | with_reducible assumption | with_reducible refine Below.drew ?_ | with_reducible refine below_alloc ?_ _))) hb5; have hsw := hbw.size; obtain ⟨hc, hfz⟩ := bcell hbw) | (go_at_call_of 61 (Value.agg #[.int .i64 s1, .bool neg1, .slice A1 l1.length c1, .int .i64 s2, .bool neg2, .slice A2 l2.length c2]); refine ((unhide HS1) s1 neg1 A1 c1 l1 s2 neg2 A2 c2 l2 s5 neg5 A5 c5 l5 s6 neg6 A6 c6 l6 _ (below_step' HB.out (by (repeat (first | with_reducible exact Below.refl _ _ | with_reducible assumption | with_reducible refine Below.drew ?_ | with_reducible refine below_alloc ?_ _)))) (IntF.below (unhide H1) (by (repeat (first | with_reducible exact Below.refl _ _ | with_reducible assumption | with_reducible refine Below.drew ?_ | with_reducible refine below_alloc ?_ _)))) (IntF.below (unhide H2) (by (repeat (first | with_reducible exact Below.refl _ _ | with_reducible assumption | with_reducible refine Below.drew ?_ | with_reducible refine below_alloc ?_ _)))) (IntF.below hf5 (by (repeat (first | with_reducible exact Below.refl _ _ | with_reducible assumption | with_reducible refine Below.drew ?_ | with_reducible refine below_alloc ?_ _)))) (IntF.below hf6 (by (repeat (first | with_reducible exact Below.refl _ _ | with_reducible assumption | with_reducible refine Below.drew ?_ | with_reducible refine below_alloc ?_ _))))).mono ?_; rintro e w' ⟨s7, neg7, A7, c7, l7, s8, neg8, A8, c8, l8, rfl, hf7, hf8, hb7⟩; have hbw := below_step (w := W5) (by (repeat (first | with_reducible exact Below.refl _ _ | with_reducible assumption | with_reducible refine Below.drew ?_ | with_reducible refine below_alloc ?_ _))) hb7; have hsw := hbw.size; obtain ⟨hc, hfz⟩ := bcell hbw) | (go_at_call_of 50 (Value.agg #[.int .i64 16, .int .i64 5]); refine ((unhide HO2) _).mono ?_; rintro e w' ⟨s9, neg9, A9, c9, l9, s10, neg10, A10, c10, l10, rfl, hf9, hf10, hb9⟩; have hf7 := IntF.below (IntF.below hf7 (by (repeat (first | with_reducible exact Below.refl _ _ | with_reducible assumption | with_reducible refine Below.drew ?_ | with_reducible refine below_alloc ?_ _)))) hb9; have hf8 := IntF.below (IntF.below hf8 (by (repeat (first | with_reducible exact Below.refl _ _ | with_reducible assumption | with_reducible refine Below.drew ?_ | with_reducible refine below_alloc ?_ _)))) hb9; have hbw := below_step (w := W5) (by (repeat (first | with_reducible exact Below.refl _ _ | with_reducible assumption | with_reducible refine Below.drew ?_ | with_reducible refine below_alloc ?_ _))) hb9; have hsw := hbw.size; obtain ⟨hc, hfz⟩ := bcell hbw) | (go_at_call_of 61 (Value.agg #[.int .i64 s9, .bool neg9, .slice A9 l9.length c9, .int .i64 s10, .bool neg10, .slice A10 l10.length c10]); refine ((unhide HS2) s9 neg9 A9 c9 l9 s10 neg10 A10 c10 l10 s1 neg1 A1 c1 l1 s2 neg2 A2 c2 l2 _ (below_step' HB.out (by (repeat (first | with_reducible exact Below.refl _ _ | with_reducible assumption | with_reducible refine Below.drew ?_ | with_reducible refine below_alloc ?_ _)))) (IntF.below hf9 (by (repeat (first | with_reducible exact Below.refl _ _ | with_reducible assumption | with_reducible refine Below.drew ?_ | with_reducible refine below_alloc ?_ _)))) (IntF.below hf10 (by (repeat (first | with_reducible exact Below.refl _ _ | with_reducible assumption | with_reducible refine Below.drew ?_ | with_reducible refine below_alloc ?_ _)))) (IntF.below (unhide H1) (by (repeat (first | with_reducible exact Below.refl _ _ | with_reducible assumption | with_reducible refine Below.drew ?_ | with_reducible refine below_alloc ?_ _)))) (IntF.below (unhide H2) (by (repeat (first | with_reducible exact Below.refl _ _ | with_reducible assumption | with_reducible refine Below.drew ?_ | with_reducible refine below_alloc ?_ _))))).mono ?_; rintro e w' ⟨s11, neg11, A11, c11, l11, s12, neg12, A12, c12, l12, rfl, hf11, hf12, hb11⟩; have hf7 := IntF.below (IntF.below hf7 (by (repeat (first | with_reducible exact Below.refl _ _ | with_reducible assumption | with_reducible refine Below.drew ?_ | with_reducible refine below_alloc ?_ _)))) hb11; have hf8 := IntF.below (IntF.below hf8 (by (repeat (first | with_reducible exact Below.refl _ _ | with_reducible assumption | with_reducible refine Below.drew ?_ | with_reducible refine below_alloc ?_ _)))) hb11; have hbw := below_step (w := W5) (by (repeat (first | with_reducible exact Below.refl _ _ | with_reducible assumption | with_reducible refine Below.drew ?_ | with_reducible refine below_alloc ?_ _))) hb11; have hsw := hbw.size; obtain ⟨hc, hfz⟩ := bcell hbw) | (go_at_call_of 62 (Value.agg #[.int .i64 s7, .bool neg7, .slice A7 l7.length c7, .int .i64 s8, .bool neg8, .slice A8 l8.length c8]); refine ((unhide HCC) s7 neg7 A7 c7 l7 s8 neg8 A8 c8 l8 s11 neg11 A11 c11 l11 s12 neg12 A12 c12 l12 _ (below_step' HB.out (by (repeat (first | with_reducible exact Below.refl _ _ | with_reducible assumption | with_reducible refine Below.drew ?_ | with_reducible refine below_alloc ?_ _)))) (IntF.below hf7 (by (repeat (first | with_reducible exact Below.refl _ _ | with_reducible assumption | with_reducible refine Below.drew ?_ | with_reducible refine below_alloc ?_ _)))) (IntF.below hf8 (by (repeat (first | with_reducible exact Below.refl _ _ | with_reducible assumption | with_reducible refine Below.drew ?_ | with_reducible refine below_alloc ?_ _)))) (IntF.below hf11 (by (repeat (first | with_reducible exact Below.refl _ _ | with_reducible assumption | with_reducible refine Below.drew ?_ | with_reducible refine below_alloc ?_ _)))) (IntF.below hf12 (by (repeat (first | with_reducible exact Below.refl _ _ | with_reducible assumption | with_reducible refine Below.drew ?_ | with_reducible refine below_alloc ?_ _))))).mono ?_; rintro e w' ⟨rfl, hb13⟩; have hbw := below_step (w := W5) (by (repeat (first | with_reducible exact Below.refl _ _ | with_reducible assumption | with_reducible refine Below.drew ?_ | with_reducible refine below_alloc ?_ _))) hb13; have hsw := hbw.size; obtain ⟨hc, hfz⟩ := bcell hbw))
  have hbb := below_step' HB.out hbw
  have m8 := (hbw.block _ qb8).trans (unhide HM8)
  have mr := (hbw.block _ (lt_of_block (unhide HMR))).trans (unhide HMR)
  clear hf7 hf8 hf11 hf12 hc hfz KEEP kb7_0 kb7_1 kb8_0 kb8_1
  have k0 : w'.cell? ⟨b7 + 1, 0, none⟩ = some (.int .i64 16) := cells_of m8 0
  have k1 : w'.cell? ⟨b7 + 1, 1, none⟩ = some (.int .i64 5) := cells_of m8 1
  have r0 : w'.cell? ⟨w.heap.size + 1, 0, none⟩ = some (.int .i64 0) := cells_of mr 0
  have r1 : w'.cell? ⟨w.heap.size + 1, 1, none⟩ = some (.int .i64 0) := cells_of mr 1
  have f0 : w'.frozen? ⟨w.heap.size + 1, 0, none⟩ = false := unfrozen_of mr 0
  have f1 : w'.frozen? ⟨w.heap.size + 1, 1, none⟩ = false := unfrozen_of mr 1
  go_wp2_with fail
  exact bodyPost_ret (v := .tuple #[(Value.agg #[.int .i64 16, .int .i64 5]), .int .i64 0]) (by simp [results, Tryz.results18, go_sem, r0, r1]) rfl
    ⟨rfl, hbb.grown (set2_grown _ _ _ _) hbb.size (fun k hk => by injection hk with hk; omega)⟩

end Go.Proofs.YtmahhmdodfimbaaGreatDoor
/- A quotient of two whole numbers, in lowest terms. -/
namespace Go.Proofs.YtmahhmdodfimbaaGreatDoor
open Go.RowKit

set_option maxRecDepth 100000 in
set_option maxHeartbeats 16000000 in
theorem newr_pos (s1 : Int) (neg1 : Bool) (A1 : Option Addr) (c1 : Nat) (l1 : List Nat) (s2 : Int) (neg2 : Bool) (A2 : Option Addr) (c2 : Nat) (l2 : List Nat) (z1 z2 g r1 r2 : Int) (w : World) (f1 : IntF w s1 neg1 A1 c1 l1 z1) (f2 : IntF w s2 neg2 A2 c2 l2 z2) (hs : ¬ z2 < 0)
    (hg : Op2 w 124 z1 z2 g) (hq1 : Op2 w 125 z1 g r1) (hq2 : Op2 w 125 z2 g r2) :
    Calls Tryz.prog 101 #[(Value.agg #[.int .i64 s1, .bool neg1, .slice A1 l1.length c1]), (Value.agg #[.int .i64 s2, .bool neg2, .slice A2 l2.length c2])] w fun e w' => PairR w r1 r2 e w' := by

  have H1 := hide f1
  have H2 := hide f2
  have HG := hide hg
  have HQ1 := hide hq1
  have HQ2 := hide hq2
  have hs' : decide (sgn z2 < 0) = false := decide_eq_false (by rw [sgn_neg]; exact hs)
  obtain ⟨o, ho⟩ : ∃ o, o = sgn z2 := ⟨_, rfl⟩
  have HS := hide (fun W (f : IntF W s2 neg2 A2 c2 l2 z2) => (show Calls Tryz.prog 128 #[(Value.agg #[.int .i64 s2, .bool neg2, .slice A2 l2.length c2])] W fun e w' => e = .returned (.int .i64 o) ∧ Below W.heap.size W w' by rw [ho]; exact sign_any s2 neg2 A2 c2 l2 z2 W f))
  rw [← ho] at hs'
  clear f1 f2 hg hq1 hq2 hs ho
  go_enter Tryz.func101, Tryz.ntmps101
  go_upto_region 1 with fail
  obtain ⟨n0, n1, n2, hsz, hw0⟩ := three_new w (.cells #[.int .i64 s1, .bool neg1, .slice A1 l1.length c1] 61) (.cells #[.int .i64 s2, .bool neg2, .slice A2 l2.length c2] 61) (.cells #[.int .i64 0, .bool false, .slice none 0 0, .int .i64 0, .bool false, .slice none 0 0] 63)
  generalize (((w.alloc (.cells #[.int .i64 s1, .bool neg1, .slice A1 l1.length c1] 61)).alloc (.cells #[.int .i64 s2, .bool neg2, .slice A2 l2.length c2] 61)).alloc (.cells #[.int .i64 0, .bool false, .slice none 0 0, .int .i64 0, .bool false, .slice none 0 0] 63)) = W0 at *
  have k0_0 : W0.cell? ⟨w.heap.size, 0, none⟩ = some (.int .i64 s1) := cells_of n0 0
  have k0_1 : W0.cell? ⟨w.heap.size, 1, none⟩ = some (.bool neg1) := cells_of n0 1
  have k0_2 : W0.cell? ⟨w.heap.size, 2, none⟩ = some (.slice A1 l1.length c1) := cells_of n0 2
  have q0 : w.heap.size < W0.heap.size := by omega
  have k1_0 : W0.cell? ⟨w.heap.size + 1, 0, none⟩ = some (.int .i64 s2) := cells_of n1 0
  have k1_1 : W0.cell? ⟨w.heap.size + 1, 1, none⟩ = some (.bool neg2) := cells_of n1 1
  have k1_2 : W0.cell? ⟨w.heap.size + 1, 2, none⟩ = some (.slice A2 l2.length c2) := cells_of n1 2
  have q1 : w.heap.size + 1 < W0.heap.size := by omega
  have k2_0 : W0.cell? ⟨w.heap.size + 1 + 1, 0, none⟩ = some (.int .i64 0) := cells_of n2 0
  have k2_1 : W0.cell? ⟨w.heap.size + 1 + 1, 1, none⟩ = some (.bool false) := cells_of n2 1
  have k2_2 : W0.cell? ⟨w.heap.size + 1 + 1, 2, none⟩ = some (.slice none 0 0) := cells_of n2 2
  have k2_3 : W0.cell? ⟨w.heap.size + 1 + 1, 3, none⟩ = some (.int .i64 0) := cells_of n2 3
  have k2_4 : W0.cell? ⟨w.heap.size + 1 + 1, 4, none⟩ = some (.bool false) := cells_of n2 4
  have k2_5 : W0.cell? ⟨w.heap.size + 1 + 1, 5, none⟩ = some (.slice none 0 0) := cells_of n2 5
  have q2 : w.heap.size + 1 + 1 < W0.heap.size := by omega
  have f2_0 := unfrozen_of n2 0
  have f2_1 := unfrozen_of n2 1
  have f2_2 := unfrozen_of n2 2
  have f2_3 := unfrozen_of n2 3
  have f2_4 := unfrozen_of n2 4
  have f2_5 := unfrozen_of n2 5
  have NR := Lib.hid n2
  clear hsz n0 n1 n2
  replace H1 := hide ((unhide H1).below hw0)
  replace H2 := hide ((unhide H2).below hw0)
  go_cut [5] (fun s5_ wx => ∃ b5 : Nat, s5_ = .pointer (some ⟨b5, 0, none⟩) ∧ BoxI wx b5 g ∧ Below W0.heap.size W0 wx ∧ W0.heap.size ≤ b5)
  case first =>
    go_wp2_with fail
    refine ((unhide HG) s1 neg1 A1 c1 l1 s2 neg2 A2 c2 l2 _ hw0 (unhide H1) (unhide H2)).mono ?_
    rintro e w' ⟨s5, neg5, A5, c5, l5, rfl, hf5, hb5⟩
    go_wp2_with fail
    go_meet
    exact ⟨_, rfl, put_n hf5 hb5 rfl⟩
  case rest =>
    revert hcut
    generalize wc = W1
    intro hcut
    obtain ⟨b5, rfl, ⟨s5, neg5, A5, c5, l5, n5, f5⟩, hB1, ob5⟩ := hcut
    have k5_0 : W1.cell? ⟨b5, 0, none⟩ = some (.int .i64 s5) := cells_of n5 0
    have k5_1 : W1.cell? ⟨b5, 1, none⟩ = some (.bool neg5) := cells_of n5 1
    have k5_2 : W1.cell? ⟨b5, 2, none⟩ = some (.slice A5 l5.length c5) := cells_of n5 2
    have y0 : W1.cell? ⟨w.heap.size + 1, 0, none⟩ = some (.int .i64 s2) := keep_cell hB1 q1 k1_0
    have y1 : W1.cell? ⟨w.heap.size + 1, 1, none⟩ = some (.bool neg2) := keep_cell hB1 q1 k1_1
    have y2 : W1.cell? ⟨w.heap.size + 1, 2, none⟩ = some (.slice A2 l2.length c2) := keep_cell hB1 q1 k1_2
    go_wp2_with fail
    refine ((unhide HS) W1 ((unhide H2).below hB1)).mono ?_
    rintro e W2 ⟨rfl, hb⟩
    have q5 := lt_of_block n5
    have n5' := (hb.block _ q5).trans n5
    have f5' := f5.below hb
    have hB := below_step' hB1 hb
    clear k5_0 k5_1 k5_2 y0 y1 y2 f5 n5 hB1
    have ng := n5'
    have fg := f5'
    clear n5' f5' hb
    have FG := hide fg
    clear fg
    have k0_0' : W2.cell? ⟨w.heap.size, 0, none⟩ = some (.int .i64 s1) := keep_cell hB q0 k0_0
    have k0_1' : W2.cell? ⟨w.heap.size, 1, none⟩ = some (.bool neg1) := keep_cell hB q0 k0_1
    have k0_2' : W2.cell? ⟨w.heap.size, 2, none⟩ = some (.slice A1 l1.length c1) := keep_cell hB q0 k0_2
    have q0' : w.heap.size < W2.heap.size := Nat.lt_of_lt_of_le q0 hB.size
    have k1_0' : W2.cell? ⟨w.heap.size + 1, 0, none⟩ = some (.int .i64 s2) := keep_cell hB q1 k1_0
    have k1_1' : W2.cell? ⟨w.heap.size + 1, 1, none⟩ = some (.bool neg2) := keep_cell hB q1 k1_1
    have k1_2' : W2.cell? ⟨w.heap.size + 1, 2, none⟩ = some (.slice A2 l2.length c2) := keep_cell hB q1 k1_2
    have q1' : w.heap.size + 1 < W2.heap.size := Nat.lt_of_lt_of_le q1 hB.size
    have k5_0' := cells_of ng 0
    have k5_1' := cells_of ng 1
    have k5_2' := cells_of ng 2
    have q5' := lt_of_block ng
    simp only [Array.getElem?_eq_getElem, three0, three1, three2] at k5_0' k5_1' k5_2'
    have kr_0 : W2.cell? ⟨w.heap.size + 1 + 1, 0, none⟩ = some (.int .i64 0) := keep_cell hB q2 k2_0
    have fr_0 : W2.frozen? ⟨w.heap.size + 1 + 1, 0, none⟩ = false := (hB.frozen (p := ⟨w.heap.size + 1 + 1, 0, none⟩) q2).trans f2_0
    have kr_1 : W2.cell? ⟨w.heap.size + 1 + 1, 1, none⟩ = some (.bool false) := keep_cell hB q2 k2_1
    have fr_1 : W2.frozen? ⟨w.heap.size + 1 + 1, 1, none⟩ = false := (hB.frozen (p := ⟨w.heap.size + 1 + 1, 1, none⟩) q2).trans f2_1
    have kr_2 : W2.cell? ⟨w.heap.size + 1 + 1, 2, none⟩ = some (.slice none 0 0) := keep_cell hB q2 k2_2
    have fr_2 : W2.frozen? ⟨w.heap.size + 1 + 1, 2, none⟩ = false := (hB.frozen (p := ⟨w.heap.size + 1 + 1, 2, none⟩) q2).trans f2_2
    have kr_3 : W2.cell? ⟨w.heap.size + 1 + 1, 3, none⟩ = some (.int .i64 0) := keep_cell hB q2 k2_3
    have fr_3 : W2.frozen? ⟨w.heap.size + 1 + 1, 3, none⟩ = false := (hB.frozen (p := ⟨w.heap.size + 1 + 1, 3, none⟩) q2).trans f2_3
    have kr_4 : W2.cell? ⟨w.heap.size + 1 + 1, 4, none⟩ = some (.bool false) := keep_cell hB q2 k2_4
    have fr_4 : W2.frozen? ⟨w.heap.size + 1 + 1, 4, none⟩ = false := (hB.frozen (p := ⟨w.heap.size + 1 + 1, 4, none⟩) q2).trans f2_4
    have kr_5 : W2.cell? ⟨w.heap.size + 1 + 1, 5, none⟩ = some (.slice none 0 0) := keep_cell hB q2 k2_5
    have fr_5 : W2.frozen? ⟨w.heap.size + 1 + 1, 5, none⟩ = false := (hB.frozen (p := ⟨w.heap.size + 1 + 1, 5, none⟩) q2).trans f2_5
    have qr : w.heap.size + 1 + 1 < W2.heap.size := Nat.lt_of_lt_of_le q2 hB.size
    have or5 : w.heap.size + 1 + 1 < b5 := Nat.lt_of_lt_of_le q2 ob5
    clear k0_0 k0_1 k0_2 k1_0 k1_1 k1_2 k2_0 k2_1 k2_2 k2_3 k2_4 k2_5 f2_0 f2_1 f2_2 f2_3 f2_4 f2_5 ng
    have KEEP := hide (show ∀ X, Below W2.heap.size W2 X → X.cell? ⟨w.heap.size, 0, none⟩ = some (.int .i64 s1) ∧ X.cell? ⟨w.heap.size, 1, none⟩ = some (.bool neg1) ∧ X.cell? ⟨w.heap.size, 2, none⟩ = some (.slice A1 l1.length c1) ∧ X.cell? ⟨w.heap.size + 1, 0, none⟩ = some (.int .i64 s2) ∧ X.cell? ⟨w.heap.size + 1, 1, none⟩ = some (.bool neg2) ∧ X.cell? ⟨w.heap.size + 1, 2, none⟩ = some (.slice A2 l2.length c2) ∧ X.cell? ⟨b5, 0, none⟩ = some (.int .i64 s5) ∧ X.cell? ⟨b5, 1, none⟩ = some (.bool neg5) ∧ X.cell? ⟨b5, 2, none⟩ = some (.slice A5 l5.length c5) from fun X hX => ⟨keep_cell hX q0' k0_0', keep_cell hX q0' k0_1', keep_cell hX q0' k0_2', keep_cell hX q1' k1_0', keep_cell hX q1' k1_1', keep_cell hX q1' k1_2', keep_cell hX q5' k5_0', keep_cell hX q5' k5_1', keep_cell hX q5' k5_2'⟩)
    go_wp2_with fail
    go_region_held3 (fun w' => w'.cell? ⟨w.heap.size, 0, none⟩ = some (.int .i64 s1) ∧ w'.cell? ⟨w.heap.size, 1, none⟩ = some (.bool neg1) ∧ w'.cell? ⟨w.heap.size, 2, none⟩ = some (.slice A1 l1.length c1) ∧ w'.cell? ⟨w.heap.size + 1, 0, none⟩ = some (.int .i64 s2) ∧ w'.cell? ⟨w.heap.size + 1, 1, none⟩ = some (.bool neg2) ∧ w'.cell? ⟨w.heap.size + 1, 2, none⟩ = some (.slice A2 l2.length c2) ∧ w'.cell? ⟨b5, 0, none⟩ = some (.int .i64 s5) ∧ w'.cell? ⟨b5, 1, none⟩ = some (.bool neg5) ∧ w'.cell? ⟨b5, 2, none⟩ = some (.slice A5 l5.length c5)) (first | with_reducible exact ⟨(cell_set6 _ _ _ _ _ _ _ _ (by omega)).trans (keep_cell hbw q0' k0_0'), (cell_set6 _ _ _ _ _ _ _ _ (by omega)).trans (keep_cell hbw q0' k0_1'), (cell_set6 _ _ _ _ _ _ _ _ (by omega)).trans (keep_cell hbw q0' k0_2'), (cell_set6 _ _ _ _ _ _ _ _ (by omega)).trans (keep_cell hbw q1' k1_0'), (cell_set6 _ _ _ _ _ _ _ _ (by omega)).trans (keep_cell hbw q1' k1_1'), (cell_set6 _ _ _ _ _ _ _ _ (by omega)).trans (keep_cell hbw q1' k1_2'), (cell_set6 _ _ _ _ _ _ _ _ (by omega)).trans (keep_cell hbw q5' k5_0'), (cell_set6 _ _ _ _ _ _ _ _ (by omega)).trans (keep_cell hbw q5' k5_1'), (cell_set6 _ _ _ _ _ _ _ _ (by omega)).trans (keep_cell hbw q5' k5_2')⟩ | with_reducible exact (unhide KEEP) _ (by (repeat (first | with_reducible exact Below.refl _ _ | with_reducible assumption | with_reducible refine Below.drew ?_ | with_reducible refine below_alloc ?_ _)))) (first | (go_at_call_of 125 (Value.agg #[.int .i64 s1, .bool neg1, .slice A1 l1.length c1]); refine ((unhide HQ1) s1 neg1 A1 c1 l1 s5 neg5 A5 c5 l5 _ (below_step' hw0 (below_step' hB (by (repeat (first | with_reducible exact Below.refl _ _ | with_reducible assumption | with_reducible refine Below.drew ?_ | with_reducible refine below_alloc ?_ _))))) (IntF.below (unhide H1) (below_step' hB (by (repeat (first | with_reducible exact Below.refl _ _ | with_reducible assumption | with_reducible refine Below.drew ?_ | with_reducible refine below_alloc ?_ _))))) (IntF.below (unhide FG) (by (repeat (first | with_reducible exact Below.refl _ _ | with_reducible assumption | with_reducible refine Below.drew ?_ | with_reducible refine below_alloc ?_ _))))).mono ?_; rintro e w' ⟨s8, neg8, A8, c8, l8, rfl, hf8, hb8⟩; have hbw := below_step (w := W2) (by (repeat (first | with_reducible exact Below.refl _ _ | with_reducible assumption | with_reducible refine Below.drew ?_ | with_reducible refine below_alloc ?_ _))) hb8; have hsw := hbw.size; obtain ⟨hc, hfz⟩ := bcell hbw) | (go_at_call_of 125 (Value.agg #[.int .i64 s2, .bool neg2, .slice A2 l2.length c2]); refine ((unhide HQ2) s2 neg2 A2 c2 l2 s5 neg5 A5 c5 l5 _ (below_step' hw0 (below_step' hB (by (repeat (first | with_reducible exact Below.refl _ _ | with_reducible assumption | with_reducible refine Below.drew ?_ | with_reducible refine below_alloc ?_ _))))) (IntF.below (unhide H2) (below_step' hB (by (repeat (first | with_reducible exact Below.refl _ _ | with_reducible assumption | with_reducible refine Below.drew ?_ | with_reducible refine below_alloc ?_ _))))) (IntF.below (unhide FG) (by (repeat (first | with_reducible exact Below.refl _ _ | with_reducible assumption | with_reducible refine Below.drew ?_ | with_reducible refine below_alloc ?_ _))))).mono ?_; rintro e w' ⟨s9, neg9, A9, c9, l9, rfl, hf9, hb9⟩; have hf8 := IntF.below (IntF.below hf8 (by (repeat (first | with_reducible exact Below.refl _ _ | with_reducible assumption | with_reducible refine Below.drew ?_ | with_reducible refine below_alloc ?_ _)))) hb9; have hbw := below_step (w := W2) (by (repeat (first | with_reducible exact Below.refl _ _ | with_reducible assumption | with_reducible refine Below.drew ?_ | with_reducible refine below_alloc ?_ _))) hb9; have hsw := hbw.size; obtain ⟨hc, hfz⟩ := bcell hbw))
    have hBB : Below W0.heap.size W0 w' := below_step' hB hbw
    have hblk : w'.heap[w.heap.size + 1 + 1]? = some (.cells #[.int .i64 0, .bool false, .slice none 0 0, .int .i64 0, .bool false, .slice none 0 0] 63 (0, 0)) := (hBB.block _ q2).trans NR.out
    have HBLK := Lib.hid hblk
    have hb9 : Below w.heap.size w w' := below_step' hw0 hBB
    clear hblk
    go_wp2_with fail
    exact bodyPost_ret (v := (Value.agg #[.int .i64 s8, .bool neg8, .slice A8 l8.length c8, .int .i64 s9, .bool neg9, .slice A9 l9.length c9])) (by simp [results, Tryz.results101, go_sem, hc, kr_0, kr_1, kr_2, kr_3, kr_4, kr_5, qr]) rfl
      ⟨s8, neg8, A8, c8, l8, s9, neg9, A9, c9, l9, rfl, (hf8).upto HBLK.out (noWord6 _ _ _ _ _ _ _ _ _ _) (set6_grown _ _ _ _ _ _ _ _), (hf9).upto HBLK.out (noWord6 _ _ _ _ _ _ _ _ _ _) (set6_grown _ _ _ _ _ _ _ _), hb9.grown (set6_grown _ _ _ _ _ _ _ _) hb9.size (fun k hk => by injection hk with hk; omega)⟩
set_option maxRecDepth 100000 in
set_option maxHeartbeats 16000000 in
theorem newr_neg (s1 : Int) (neg1 : Bool) (A1 : Option Addr) (c1 : Nat) (l1 : List Nat) (s2 : Int) (neg2 : Bool) (A2 : Option Addr) (c2 : Nat) (l2 : List Nat) (z1 z2 g gn r1 r2 : Int) (w : World) (f1 : IntF w s1 neg1 A1 c1 l1 z1) (f2 : IntF w s2 neg2 A2 c2 l2 z2) (hs : z2 < 0) (hgn : gn = -g)
    (hg : Op2 w 124 z1 z2 g) (hq1 : Op2 w 125 z1 gn r1) (hq2 : Op2 w 125 z2 gn r2) :
    Calls Tryz.prog 101 #[(Value.agg #[.int .i64 s1, .bool neg1, .slice A1 l1.length c1]), (Value.agg #[.int .i64 s2, .bool neg2, .slice A2 l2.length c2])] w fun e w' => PairR w r1 r2 e w' := by
  subst hgn
  have H1 := hide f1
  have H2 := hide f2
  have HG := hide hg
  have HQ1 := hide hq1
  have HQ2 := hide hq2
  have hs' : decide (sgn z2 < 0) = true := decide_eq_true (by rw [sgn_neg]; exact hs)
  obtain ⟨o, ho⟩ : ∃ o, o = sgn z2 := ⟨_, rfl⟩
  have HS := hide (fun W (f : IntF W s2 neg2 A2 c2 l2 z2) => (show Calls Tryz.prog 128 #[(Value.agg #[.int .i64 s2, .bool neg2, .slice A2 l2.length c2])] W fun e w' => e = .returned (.int .i64 o) ∧ Below W.heap.size W w' by rw [ho]; exact sign_any s2 neg2 A2 c2 l2 z2 W f))
  rw [← ho] at hs'
  clear f1 f2 hg hq1 hq2 hs ho
  go_enter Tryz.func101, Tryz.ntmps101
  go_upto_region 1 with fail
  obtain ⟨n0, n1, n2, hsz, hw0⟩ := three_new w (.cells #[.int .i64 s1, .bool neg1, .slice A1 l1.length c1] 61) (.cells #[.int .i64 s2, .bool neg2, .slice A2 l2.length c2] 61) (.cells #[.int .i64 0, .bool false, .slice none 0 0, .int .i64 0, .bool false, .slice none 0 0] 63)
  generalize (((w.alloc (.cells #[.int .i64 s1, .bool neg1, .slice A1 l1.length c1] 61)).alloc (.cells #[.int .i64 s2, .bool neg2, .slice A2 l2.length c2] 61)).alloc (.cells #[.int .i64 0, .bool false, .slice none 0 0, .int .i64 0, .bool false, .slice none 0 0] 63)) = W0 at *
  have k0_0 : W0.cell? ⟨w.heap.size, 0, none⟩ = some (.int .i64 s1) := cells_of n0 0
  have k0_1 : W0.cell? ⟨w.heap.size, 1, none⟩ = some (.bool neg1) := cells_of n0 1
  have k0_2 : W0.cell? ⟨w.heap.size, 2, none⟩ = some (.slice A1 l1.length c1) := cells_of n0 2
  have q0 : w.heap.size < W0.heap.size := by omega
  have k1_0 : W0.cell? ⟨w.heap.size + 1, 0, none⟩ = some (.int .i64 s2) := cells_of n1 0
  have k1_1 : W0.cell? ⟨w.heap.size + 1, 1, none⟩ = some (.bool neg2) := cells_of n1 1
  have k1_2 : W0.cell? ⟨w.heap.size + 1, 2, none⟩ = some (.slice A2 l2.length c2) := cells_of n1 2
  have q1 : w.heap.size + 1 < W0.heap.size := by omega
  have k2_0 : W0.cell? ⟨w.heap.size + 1 + 1, 0, none⟩ = some (.int .i64 0) := cells_of n2 0
  have k2_1 : W0.cell? ⟨w.heap.size + 1 + 1, 1, none⟩ = some (.bool false) := cells_of n2 1
  have k2_2 : W0.cell? ⟨w.heap.size + 1 + 1, 2, none⟩ = some (.slice none 0 0) := cells_of n2 2
  have k2_3 : W0.cell? ⟨w.heap.size + 1 + 1, 3, none⟩ = some (.int .i64 0) := cells_of n2 3
  have k2_4 : W0.cell? ⟨w.heap.size + 1 + 1, 4, none⟩ = some (.bool false) := cells_of n2 4
  have k2_5 : W0.cell? ⟨w.heap.size + 1 + 1, 5, none⟩ = some (.slice none 0 0) := cells_of n2 5
  have q2 : w.heap.size + 1 + 1 < W0.heap.size := by omega
  have f2_0 := unfrozen_of n2 0
  have f2_1 := unfrozen_of n2 1
  have f2_2 := unfrozen_of n2 2
  have f2_3 := unfrozen_of n2 3
  have f2_4 := unfrozen_of n2 4
  have f2_5 := unfrozen_of n2 5
  have NR := Lib.hid n2
  clear hsz n0 n1 n2
  replace H1 := hide ((unhide H1).below hw0)
  replace H2 := hide ((unhide H2).below hw0)
  go_cut [5] (fun s5_ wx => ∃ b5 : Nat, s5_ = .pointer (some ⟨b5, 0, none⟩) ∧ BoxI wx b5 g ∧ Below W0.heap.size W0 wx ∧ W0.heap.size ≤ b5)
  case first =>
    go_wp2_with fail
    refine ((unhide HG) s1 neg1 A1 c1 l1 s2 neg2 A2 c2 l2 _ hw0 (unhide H1) (unhide H2)).mono ?_
    rintro e w' ⟨s5, neg5, A5, c5, l5, rfl, hf5, hb5⟩
    go_wp2_with fail
    go_meet
    exact ⟨_, rfl, put_n hf5 hb5 rfl⟩
  case rest =>
    revert hcut
    generalize wc = W1
    intro hcut
    obtain ⟨b5, rfl, ⟨s5, neg5, A5, c5, l5, n5, f5⟩, hB1, ob5⟩ := hcut
    have k5_0 : W1.cell? ⟨b5, 0, none⟩ = some (.int .i64 s5) := cells_of n5 0
    have k5_1 : W1.cell? ⟨b5, 1, none⟩ = some (.bool neg5) := cells_of n5 1
    have k5_2 : W1.cell? ⟨b5, 2, none⟩ = some (.slice A5 l5.length c5) := cells_of n5 2
    have y0 : W1.cell? ⟨w.heap.size + 1, 0, none⟩ = some (.int .i64 s2) := keep_cell hB1 q1 k1_0
    have y1 : W1.cell? ⟨w.heap.size + 1, 1, none⟩ = some (.bool neg2) := keep_cell hB1 q1 k1_1
    have y2 : W1.cell? ⟨w.heap.size + 1, 2, none⟩ = some (.slice A2 l2.length c2) := keep_cell hB1 q1 k1_2
    go_wp2_with fail
    refine ((unhide HS) W1 ((unhide H2).below hB1)).mono ?_
    rintro e W2 ⟨rfl, hb⟩
    have q5 := lt_of_block n5
    have n5' := (hb.block _ q5).trans n5
    have f5' := f5.below hb
    have hB := below_step' hB1 hb
    clear k5_0 k5_1 k5_2 y0 y1 y2 f5 n5 hB1
    have k5_0 : W2.cell? ⟨b5, 0, none⟩ = some (.int .i64 s5) := cells_of n5' 0
    have k5_1 : W2.cell? ⟨b5, 1, none⟩ = some (.bool neg5) := cells_of n5' 1
    have k5_2 : W2.cell? ⟨b5, 2, none⟩ = some (.slice A5 l5.length c5) := cells_of n5' 2
    have F5 := hide f5'
    clear f5' hb
    go_wp2_with fail
    refine (neg_any s5 neg5 A5 c5 l5 g _ (unhide F5)).mono ?_
    rintro e W3 ⟨s7, neg7, A7, c7, l7, rfl, hf7, hb⟩
    have n5 := (hb.block _ (lt_of_block n5')).trans n5'
    replace hB := below_step' hB hb
    clear k5_0 k5_1 k5_2 n5' hb
    have k5_0 : W3.cell? ⟨b5, 0, none⟩ = some (.int .i64 s5) := cells_of n5 0
    have k5_1 : W3.cell? ⟨b5, 1, none⟩ = some (.bool neg5) := cells_of n5 1
    have k5_2 : W3.cell? ⟨b5, 2, none⟩ = some (.slice A5 l5.length c5) := cells_of n5 2
    have u5_0 := unfrozen_of n5 0
    have u5_1 := unfrozen_of n5 1
    have u5_2 := unfrozen_of n5 2
    have HF7 := hide hf7
    have N5 := hide n5
    clear hf7 n5
    go_upto_region 4 with fail
    have pb := set3_block (u0 := .int .i64 s7) (u1 := .bool neg7) (u2 := .slice A7 l7.length c7) (unhide N5)
    have g3 := set3_grown W3 b5 (.int .i64 s7) (.bool neg7) (.slice A7 l7.length c7)
    have fg := (unhide HF7).upto (unhide N5) (noWord3 _ _ _ _ _) g3
    replace hB := hB.grown g3 hB.size (fun k hk => by injection hk with hk; omega)
    have ng := pb
    clear pb g3 k5_0 k5_1 k5_2 u5_0 u5_1 u5_2
    generalize (((W3.setCell ⟨b5, 0, none⟩ (.int .i64 s7)).setCell ⟨b5, 1, none⟩ (.bool neg7)).setCell ⟨b5, 2, none⟩ (.slice A7 l7.length c7)) = W4 at *
    have FG := hide fg
    clear fg
    have k0_0' : W4.cell? ⟨w.heap.size, 0, none⟩ = some (.int .i64 s1) := keep_cell hB q0 k0_0
    have k0_1' : W4.cell? ⟨w.heap.size, 1, none⟩ = some (.bool neg1) := keep_cell hB q0 k0_1
    have k0_2' : W4.cell? ⟨w.heap.size, 2, none⟩ = some (.slice A1 l1.length c1) := keep_cell hB q0 k0_2
    have q0' : w.heap.size < W4.heap.size := Nat.lt_of_lt_of_le q0 hB.size
    have k1_0' : W4.cell? ⟨w.heap.size + 1, 0, none⟩ = some (.int .i64 s2) := keep_cell hB q1 k1_0
    have k1_1' : W4.cell? ⟨w.heap.size + 1, 1, none⟩ = some (.bool neg2) := keep_cell hB q1 k1_1
    have k1_2' : W4.cell? ⟨w.heap.size + 1, 2, none⟩ = some (.slice A2 l2.length c2) := keep_cell hB q1 k1_2
    have q1' : w.heap.size + 1 < W4.heap.size := Nat.lt_of_lt_of_le q1 hB.size
    have k5_0' := cells_of ng 0
    have k5_1' := cells_of ng 1
    have k5_2' := cells_of ng 2
    have q5' := lt_of_block ng
    simp only [Array.getElem?_eq_getElem, three0, three1, three2] at k5_0' k5_1' k5_2'
    have kr_0 : W4.cell? ⟨w.heap.size + 1 + 1, 0, none⟩ = some (.int .i64 0) := keep_cell hB q2 k2_0
    have fr_0 : W4.frozen? ⟨w.heap.size + 1 + 1, 0, none⟩ = false := (hB.frozen (p := ⟨w.heap.size + 1 + 1, 0, none⟩) q2).trans f2_0
    have kr_1 : W4.cell? ⟨w.heap.size + 1 + 1, 1, none⟩ = some (.bool false) := keep_cell hB q2 k2_1
    have fr_1 : W4.frozen? ⟨w.heap.size + 1 + 1, 1, none⟩ = false := (hB.frozen (p := ⟨w.heap.size + 1 + 1, 1, none⟩) q2).trans f2_1
    have kr_2 : W4.cell? ⟨w.heap.size + 1 + 1, 2, none⟩ = some (.slice none 0 0) := keep_cell hB q2 k2_2
    have fr_2 : W4.frozen? ⟨w.heap.size + 1 + 1, 2, none⟩ = false := (hB.frozen (p := ⟨w.heap.size + 1 + 1, 2, none⟩) q2).trans f2_2
    have kr_3 : W4.cell? ⟨w.heap.size + 1 + 1, 3, none⟩ = some (.int .i64 0) := keep_cell hB q2 k2_3
    have fr_3 : W4.frozen? ⟨w.heap.size + 1 + 1, 3, none⟩ = false := (hB.frozen (p := ⟨w.heap.size + 1 + 1, 3, none⟩) q2).trans f2_3
    have kr_4 : W4.cell? ⟨w.heap.size + 1 + 1, 4, none⟩ = some (.bool false) := keep_cell hB q2 k2_4
    have fr_4 : W4.frozen? ⟨w.heap.size + 1 + 1, 4, none⟩ = false := (hB.frozen (p := ⟨w.heap.size + 1 + 1, 4, none⟩) q2).trans f2_4
    have kr_5 : W4.cell? ⟨w.heap.size + 1 + 1, 5, none⟩ = some (.slice none 0 0) := keep_cell hB q2 k2_5
    have fr_5 : W4.frozen? ⟨w.heap.size + 1 + 1, 5, none⟩ = false := (hB.frozen (p := ⟨w.heap.size + 1 + 1, 5, none⟩) q2).trans f2_5
    have qr : w.heap.size + 1 + 1 < W4.heap.size := Nat.lt_of_lt_of_le q2 hB.size
    have or5 : w.heap.size + 1 + 1 < b5 := Nat.lt_of_lt_of_le q2 ob5
    clear k0_0 k0_1 k0_2 k1_0 k1_1 k1_2 k2_0 k2_1 k2_2 k2_3 k2_4 k2_5 f2_0 f2_1 f2_2 f2_3 f2_4 f2_5 ng
    have KEEP := hide (show ∀ X, Below W4.heap.size W4 X → X.cell? ⟨w.heap.size, 0, none⟩ = some (.int .i64 s1) ∧ X.cell? ⟨w.heap.size, 1, none⟩ = some (.bool neg1) ∧ X.cell? ⟨w.heap.size, 2, none⟩ = some (.slice A1 l1.length c1) ∧ X.cell? ⟨w.heap.size + 1, 0, none⟩ = some (.int .i64 s2) ∧ X.cell? ⟨w.heap.size + 1, 1, none⟩ = some (.bool neg2) ∧ X.cell? ⟨w.heap.size + 1, 2, none⟩ = some (.slice A2 l2.length c2) ∧ X.cell? ⟨b5, 0, none⟩ = some (.int .i64 s7) ∧ X.cell? ⟨b5, 1, none⟩ = some (.bool neg7) ∧ X.cell? ⟨b5, 2, none⟩ = some (.slice A7 l7.length c7) from fun X hX => ⟨keep_cell hX q0' k0_0', keep_cell hX q0' k0_1', keep_cell hX q0' k0_2', keep_cell hX q1' k1_0', keep_cell hX q1' k1_1', keep_cell hX q1' k1_2', keep_cell hX q5' k5_0', keep_cell hX q5' k5_1', keep_cell hX q5' k5_2'⟩)
    go_wp2_with fail
    go_region_held3 (fun w' => w'.cell? ⟨w.heap.size, 0, none⟩ = some (.int .i64 s1) ∧ w'.cell? ⟨w.heap.size, 1, none⟩ = some (.bool neg1) ∧ w'.cell? ⟨w.heap.size, 2, none⟩ = some (.slice A1 l1.length c1) ∧ w'.cell? ⟨w.heap.size + 1, 0, none⟩ = some (.int .i64 s2) ∧ w'.cell? ⟨w.heap.size + 1, 1, none⟩ = some (.bool neg2) ∧ w'.cell? ⟨w.heap.size + 1, 2, none⟩ = some (.slice A2 l2.length c2) ∧ w'.cell? ⟨b5, 0, none⟩ = some (.int .i64 s7) ∧ w'.cell? ⟨b5, 1, none⟩ = some (.bool neg7) ∧ w'.cell? ⟨b5, 2, none⟩ = some (.slice A7 l7.length c7)) (first | with_reducible exact ⟨(cell_set6 _ _ _ _ _ _ _ _ (by omega)).trans (keep_cell hbw q0' k0_0'), (cell_set6 _ _ _ _ _ _ _ _ (by omega)).trans (keep_cell hbw q0' k0_1'), (cell_set6 _ _ _ _ _ _ _ _ (by omega)).trans (keep_cell hbw q0' k0_2'), (cell_set6 _ _ _ _ _ _ _ _ (by omega)).trans (keep_cell hbw q1' k1_0'), (cell_set6 _ _ _ _ _ _ _ _ (by omega)).trans (keep_cell hbw q1' k1_1'), (cell_set6 _ _ _ _ _ _ _ _ (by omega)).trans (keep_cell hbw q1' k1_2'), (cell_set6 _ _ _ _ _ _ _ _ (by omega)).trans (keep_cell hbw q5' k5_0'), (cell_set6 _ _ _ _ _ _ _ _ (by omega)).trans (keep_cell hbw q5' k5_1'), (cell_set6 _ _ _ _ _ _ _ _ (by omega)).trans (keep_cell hbw q5' k5_2')⟩ | with_reducible exact (unhide KEEP) _ (by (repeat (first | with_reducible exact Below.refl _ _ | with_reducible assumption | with_reducible refine Below.drew ?_ | with_reducible refine below_alloc ?_ _)))) (first | (go_at_call_of 125 (Value.agg #[.int .i64 s1, .bool neg1, .slice A1 l1.length c1]); refine ((unhide HQ1) s1 neg1 A1 c1 l1 s7 neg7 A7 c7 l7 _ (below_step' hw0 (below_step' hB (by (repeat (first | with_reducible exact Below.refl _ _ | with_reducible assumption | with_reducible refine Below.drew ?_ | with_reducible refine below_alloc ?_ _))))) (IntF.below (unhide H1) (below_step' hB (by (repeat (first | with_reducible exact Below.refl _ _ | with_reducible assumption | with_reducible refine Below.drew ?_ | with_reducible refine below_alloc ?_ _))))) (IntF.below (unhide FG) (by (repeat (first | with_reducible exact Below.refl _ _ | with_reducible assumption | with_reducible refine Below.drew ?_ | with_reducible refine below_alloc ?_ _))))).mono ?_; rintro e w' ⟨s8, neg8, A8, c8, l8, rfl, hf8, hb8⟩; have hbw := below_step (w := W4) (by (repeat (first | with_reducible exact Below.refl _ _ | with_reducible assumption | with_reducible refine Below.drew ?_ | with_reducible refine below_alloc ?_ _))) hb8; have hsw := hbw.size; obtain ⟨hc, hfz⟩ := bcell hbw) | (go_at_call_of 125 (Value.agg #[.int .i64 s2, .bool neg2, .slice A2 l2.length c2]); refine ((unhide HQ2) s2 neg2 A2 c2 l2 s7 neg7 A7 c7 l7 _ (below_step' hw0 (below_step' hB (by (repeat (first | with_reducible exact Below.refl _ _ | with_reducible assumption | with_reducible refine Below.drew ?_ | with_reducible refine below_alloc ?_ _))))) (IntF.below (unhide H2) (below_step' hB (by (repeat (first | with_reducible exact Below.refl _ _ | with_reducible assumption | with_reducible refine Below.drew ?_ | with_reducible refine below_alloc ?_ _))))) (IntF.below (unhide FG) (by (repeat (first | with_reducible exact Below.refl _ _ | with_reducible assumption | with_reducible refine Below.drew ?_ | with_reducible refine below_alloc ?_ _))))).mono ?_; rintro e w' ⟨s9, neg9, A9, c9, l9, rfl, hf9, hb9⟩; have hf8 := IntF.below (IntF.below hf8 (by (repeat (first | with_reducible exact Below.refl _ _ | with_reducible assumption | with_reducible refine Below.drew ?_ | with_reducible refine below_alloc ?_ _)))) hb9; have hbw := below_step (w := W4) (by (repeat (first | with_reducible exact Below.refl _ _ | with_reducible assumption | with_reducible refine Below.drew ?_ | with_reducible refine below_alloc ?_ _))) hb9; have hsw := hbw.size; obtain ⟨hc, hfz⟩ := bcell hbw))
    have hBB : Below W0.heap.size W0 w' := below_step' hB hbw
    have hblk : w'.heap[w.heap.size + 1 + 1]? = some (.cells #[.int .i64 0, .bool false, .slice none 0 0, .int .i64 0, .bool false, .slice none 0 0] 63 (0, 0)) := (hBB.block _ q2).trans NR.out
    have HBLK := Lib.hid hblk
    have hb9 : Below w.heap.size w w' := below_step' hw0 hBB
    clear hblk
    go_wp2_with fail
    exact bodyPost_ret (v := (Value.agg #[.int .i64 s8, .bool neg8, .slice A8 l8.length c8, .int .i64 s9, .bool neg9, .slice A9 l9.length c9])) (by simp [results, Tryz.results101, go_sem, hc, kr_0, kr_1, kr_2, kr_3, kr_4, kr_5, qr]) rfl
      ⟨s8, neg8, A8, c8, l8, s9, neg9, A9, c9, l9, rfl, (hf8).upto HBLK.out (noWord6 _ _ _ _ _ _ _ _ _ _) (set6_grown _ _ _ _ _ _ _ _), (hf9).upto HBLK.out (noWord6 _ _ _ _ _ _ _ _ _ _) (set6_grown _ _ _ _ _ _ _ _), hb9.grown (set6_grown _ _ _ _ _ _ _ _) hb9.size (fun k hk => by injection hk with hk; omega)⟩
theorem newr_any {K : Nat} (s1 : Int) (neg1 : Bool) (A1 : Option Addr) (c1 : Nat) (l1 : List Nat) (s2 : Int) (neg2 : Bool) (A2 : Option Addr) (c2 : Nat) (l2 : List Nat) (z1 z2 : Int) (w : World) (hT : Tab w) (f1 : IntF w s1 neg1 A1 c1 l1 z1) (f2 : IntF w s2 neg2 A2 c2 l2 z2) (h0 : z2 ≠ 0) (hx : Wd.Sz B64 K z1) (hy : Wd.Sz B64 K z2) (hK : K ≤ lim) :
    Calls Tryz.prog 101 #[(Value.agg #[.int .i64 s1, .bool neg1, .slice A1 l1.length c1]), (Value.agg #[.int .i64 s2, .bool neg2, .slice A2 l2.length c2])] w fun e w' => PairR w (Rat.divInt z1 z2).num ((Rat.divInt z1 z2).den : Int) e w' := by
  have hp := Wd.divInt_parts z1 z2 h0
  have g0 : 0 < z1.natAbs.gcd z2.natAbs := Nat.gcd_pos_of_pos_right _ (by omega)
  have sg : Wd.Sz B64 K ((z1.natAbs.gcd z2.natAbs : Nat) : Int) := hy.gcd_right h0
  rw [hp.1, hp.2]
  by_cases hs : z2 < 0
  · have e : z2.sign * ((z1.natAbs.gcd z2.natAbs : Nat) : Int) = -((z1.natAbs.gcd z2.natAbs : Nat) : Int) := by rw [Int.sign_eq_neg_one_of_neg hs]; omega
    rw [e]
    exact newr_neg s1 neg1 A1 c1 l1 s2 neg2 A2 c2 l2 z1 z2 _ _ _ _ w f1 f2 hs rfl (op_gcd hT hx hy hK rfl) (op_quo hx sg.neg hK (by omega) rfl) (op_quo hy sg.neg hK (by omega) rfl)
  · have e : z2.sign * ((z1.natAbs.gcd z2.natAbs : Nat) : Int) = ((z1.natAbs.gcd z2.natAbs : Nat) : Int) := by rw [Int.sign_eq_one_of_pos (by omega)]; omega
    rw [e]
    exact newr_pos s1 neg1 A1 c1 l1 s2 neg2 A2 c2 l2 z1 z2 _ _ _ w f1 f2 hs (op_gcd hT hx hy hK rfl) (op_quo hx sg hK (by omega) rfl) (op_quo hy sg hK (by omega) rfl)

end Go.Proofs.YtmahhmdodfimbaaGreatDoor
/- The number of two ints. -/
namespace Go.Proofs.YtmahhmdodfimbaaGreatDoor
open Go.RowKit

/-- What Make tells. -/
def mkE (n d : Int) : Wd.Told := if d = 0 then ⟨0, 0, 1⟩ else Wd.told (Rat.divInt n d)
set_option maxRecDepth 100000 in
set_option maxHeartbeats 16000000 in
theorem make_zero (n : Int) (w : World) : Calls Tryz.prog 48 #[.int .i64 n, .int .i64 0] w fun e w' => TolR w ⟨0, 0, 1⟩ e w' := by
  go_enter Tryz.func48, Tryz.ntmps48
  go_wp2
  exact bodyPost_ret (v := .tuple #[.agg #[.int .i64 0, .int .i64 0], .int .i64 1]) (by simp [results, Tryz.results48, go_sem]) rfl
    ⟨rfl, (Below.refl _ _).alloc (Nat.le_refl _) _⟩
set_option maxRecDepth 100000 in
set_option maxHeartbeats 16000000 in
theorem make_any (n d : Int) (w : World) (hT : Tab w) (b1 : -9223372036854775808 ≤ n) (b2 : n ≤ 9223372036854775807) (b3 : -9223372036854775808 ≤ d) (b4 : d ≤ 9223372036854775807) :
    Calls Tryz.prog 48 #[.int .i64 n, .int .i64 d] w fun e w' => TolR w (mkE n d) e w' := by
  unfold mkE
  by_cases h0 : d = 0
  · subst h0; rw [if_pos rfl]; exact make_zero n w
  rw [if_neg h0]
  obtain ⟨q, hq⟩ : ∃ q, q = Rat.divInt n d := ⟨_, rfl⟩
  have B : (9223372036854775808 : Nat) < B64 := by rw [B64_eq]; omega
  have HN := hide (fun (s5 : Int) (neg5 : Bool) (A5 : Option Addr) (c5 : Nat) (l5 : List Nat) (s6 : Int) (neg6 : Bool) (A6 : Option Addr) (c6 : Nat) (l6 : List Nat) (W : World) (hW : Tab W) (f5 : IntF W s5 neg5 A5 c5 l5 n) (f6 : IntF W s6 neg6 A6 c6 l6 d) => newr_any (K := 1) s5 neg5 A5 c5 l5 s6 neg6 A6 c6 l6 n d W hW f5 f6 h0 (Wd.Sz.of_le (by omega) B64_pos (Nat.le_refl _)) (Wd.Sz.of_le (by omega) B64_pos (Nat.le_refl _)) (by unfold lim; omega))
  rw [← hq] at HN ⊢
  have HO1 := hide (fun W => newInt_any n b1 b2 W)
  have HO2 := hide (fun W => newInt_any d b3 b4 W)
  have hz : (d == 0) = false := beq_eq_false_iff_ne.2 h0
  have HT := hide hT
  have HRT := hide (fun (s9 : Int) (neg9 : Bool) (A9 : Option Addr) (c9 : Nat) (l9 : List Nat) (s10 : Int) (neg10 : Bool) (A10 : Option Addr) (c10 : Nat) (l10 : List Nat) (W : World) (f9 : IntF W s9 neg9 A9 c9 l9 q.num) (f10 : IntF W s10 neg10 A10 c10 l10 (q.den : Int)) => rrat_any s9 neg9 A9 c9 l9 q.num s10 neg10 A10 c10 l10 (q.den : Int) W f9 f10 q rfl rfl)
  obtain ⟨tn, htn⟩ : ∃ x, x = (Wd.told q).n := ⟨_, rfl⟩
  obtain ⟨td, htd⟩ : ∃ x, x = (Wd.told q).d := ⟨_, rfl⟩
  obtain ⟨te, hte⟩ : ∃ x, x = (Wd.told q).e := ⟨_, rfl⟩
  rw [← htn, ← htd, ← hte] at HRT
  have HTL := Lib.hid (show Wd.told q = ⟨tn, td, te⟩ by rw [htn, htd, hte])
  clear htn htd hte
  clear hT h0 b1 b2 b3 b4 hq
  go_enter Tryz.func48, Tryz.ntmps48
  go_wp2_with fail
  have nr := heap_alloc_new w (.cells #[.int .i64 0, .int .i64 0] 23)
  have hw0 : Below w.heap.size w (w.alloc (.cells #[.int .i64 0, .int .i64 0] 23)) := below_alloc (Below.refl _ _) _
  generalize w.alloc (.cells #[.int .i64 0, .int .i64 0] 23) = W0 at *
  have NR := Lib.hid nr
  clear nr
  refine ((unhide HO1) _).mono ?_
  rintro e W1 ⟨s5, neg5, A5, c5, l5, rfl, hf5, hb5⟩
  go_wp2_with fail
  refine ((unhide HO2) _).mono ?_
  rintro e W2 ⟨s6, neg6, A6, c6, l6, rfl, hf6, hb6⟩
  have hB := below_step' hb5 hb6
  go_wp2_with fail
  refine ((unhide HN) s5 neg5 A5 c5 l5 s6 neg6 A6 c6 l6 _ ((unhide HT).below (below_step' hw0 hB)) (hf5.below hb6) hf6).mono ?_
  rintro e W3 ⟨s9, neg9, A9, c9, l9, s10, neg10, A10, c10, l10, rfl, hf9, hf10, hb9⟩
  replace hB := below_step' hB hb9
  go_wp2_with fail
  refine ((unhide HRT) s9 neg9 A9 c9 l9 s10 neg10 A10 c10 l10 _ hf9 hf10).mono ?_
  rintro e W4 ⟨rfl, hb10⟩
  replace hB := below_step' hB hb10
  have nr4 := (hB.block _ (lt_of_block NR.out)).trans NR.out
  have k0 : W4.cell? ⟨w.heap.size, 0, none⟩ = some (.int .i64 0) := cells_of nr4 0
  have k1 : W4.cell? ⟨w.heap.size, 1, none⟩ = some (.int .i64 0) := cells_of nr4 1
  have u0 := unfrozen_of nr4 0
  have u1 := unfrozen_of nr4 1
  have hbn : Below w.heap.size w W4 := below_step' hw0 hB
  clear nr4
  go_wp2_with fail
  exact bodyPost_ret (v := .tuple #[.agg #[.int .i64 tn, .int .i64 td], .int .i64 te]) (by simp [results, Tryz.results48, go_sem, k0, k1]) rfl
    ⟨HTL.out ▸ rfl, hbn.grown (set2_grown _ _ _ _) hbn.size (fun k hk => by injection hk with hk; omega)⟩

end Go.Proofs.YtmahhmdodfimbaaGreatDoor
/- The document's examples. -/
namespace Go.Proofs.YtmahhmdodfimbaaGreatDoor
open Go.RowKit

theorem told_ext {t : Wd.Told} {a b c : Int} (h : t.n = a ∧ t.d = b ∧ t.e = c) : t = ⟨a, b, c⟩ := by
  cases t
  obtain ⟨rfl, rfl, rfl⟩ := h
  rfl
set_option maxRecDepth 100000 in
set_option maxHeartbeats 16000000 in
theorem known_any (w : World) (hT : Tab w) : Calls Tryz.prog 11 #[] w fun e w' => e = .returned (.bool true) ∧ Below w.heap.size w w' := by
  have HM := hide (fun W (hW : Tab W) => make_any (-6) 4 W hW (by omega) (by omega) (by omega) (by omega))
  rw [told_ext (t := mkE (-6) 4) (a := -3) (b := 2) (c := 0) (by decide +kernel)] at HM
  have HF := hide (floor_any (-3) 2)
  rw [show floorV (-3) 2 = -2 by decide, show valE (-3) 2 = 0 by decide] at HF
  have HN := hide near_known
  have HT := hide hT
  clear hT
  go_enter Tryz.func11, Tryz.ntmps11
  go_wp2_with fail
  refine ((unhide HM) _ (unhide HT)).mono ?_
  rintro e W1 ⟨rfl, hb1⟩
  go_wp2_with fail
  have nx := heap_alloc_new W1 (.cells #[.int .i64 (-3), .int .i64 2] 23)
  have hb2 := below_step' hb1 (below_alloc (Below.refl _ _) (.cells #[.int .i64 (-3), .int .i64 2] 23))
  generalize W1.alloc (.cells #[.int .i64 (-3), .int .i64 2] 23) = W2 at *
  obtain ⟨bx, hbx⟩ : ∃ b, b = W1.heap.size := ⟨_, rfl⟩
  rw [← hbx] at nx ⊢
  clear hb1 hbx
  refine ((unhide HF) _ ((unhide HT).below hb2)).mono ?_
  rintro e W3 ⟨rfl, hb⟩
  have nx3 := (hb.block _ (lt_of_block nx)).trans nx
  have hb3 := below_step' hb2 hb
  clear nx hb hb2
  go_wp2_with fail
  refine ((unhide HN) _ ((unhide HT).below hb3)).mono ?_
  rintro e W4 ⟨rfl, hb⟩
  have nx4 := (hb.block _ (lt_of_block nx3)).trans nx3
  have hb4 := below_step' hb3 hb
  have hlt := lt_of_block nx4
  have k0 : W4.cell? ⟨bx, 0, none⟩ = some (.int .i64 (-3)) := cells_of nx4 0
  have k1 : W4.cell? ⟨bx, 1, none⟩ = some (.int .i64 2) := cells_of nx4 1
  have hne : ¬ (bx = W4.heap.size) := by omega
  clear nx3 nx4 hb hb3
  go_wp2
  go_ret
  exact ⟨rfl, below_alloc hb4 _⟩

end Go.Proofs.YtmahhmdodfimbaaGreatDoor
/- Sum, difference, product and quotient: the law's walk. -/
namespace Go.Proofs.YtmahhmdodfimbaaGreatDoor
open Go.RowKit

set_option maxRecDepth 100000 in
set_option maxHeartbeats 16000000 in
theorem arith_walk (n1 d1 n2 d2 u0 v0 e0 u1 v1 e1 u2 v2 e2 u3 v3 e3 : Int) (w : World) (hT : Tab w)
    (c0 : ∀ W, Tab W → Calls Tryz.prog 9 #[.int .i64 0, .agg #[.int .i64 n1, .int .i64 d1], .agg #[.int .i64 n2, .int .i64 d2]] W fun e w' => e = .returned (.tuple #[.agg #[.int .i64 u0, .int .i64 v0], .int .i64 e0]) ∧ Below W.heap.size W w')
    (r0 : ∀ W, Calls Tryz.prog 10 #[.int .i64 0, .agg #[.int .i64 n1, .int .i64 d1], .agg #[.int .i64 n2, .int .i64 d2]] W fun e w' => e = .returned (.tuple #[.agg #[.int .i64 u0, .int .i64 v0], .int .i64 e0]) ∧ Below W.heap.size W w')
    (c1 : ∀ W, Tab W → Calls Tryz.prog 9 #[.int .i64 1, .agg #[.int .i64 n1, .int .i64 d1], .agg #[.int .i64 n2, .int .i64 d2]] W fun e w' => e = .returned (.tuple #[.agg #[.int .i64 u1, .int .i64 v1], .int .i64 e1]) ∧ Below W.heap.size W w')
    (r1 : ∀ W, Calls Tryz.prog 10 #[.int .i64 1, .agg #[.int .i64 n1, .int .i64 d1], .agg #[.int .i64 n2, .int .i64 d2]] W fun e w' => e = .returned (.tuple #[.agg #[.int .i64 u1, .int .i64 v1], .int .i64 e1]) ∧ Below W.heap.size W w')
    (c2 : ∀ W, Tab W → Calls Tryz.prog 9 #[.int .i64 2, .agg #[.int .i64 n1, .int .i64 d1], .agg #[.int .i64 n2, .int .i64 d2]] W fun e w' => e = .returned (.tuple #[.agg #[.int .i64 u2, .int .i64 v2], .int .i64 e2]) ∧ Below W.heap.size W w')
    (r2 : ∀ W, Calls Tryz.prog 10 #[.int .i64 2, .agg #[.int .i64 n1, .int .i64 d1], .agg #[.int .i64 n2, .int .i64 d2]] W fun e w' => e = .returned (.tuple #[.agg #[.int .i64 u2, .int .i64 v2], .int .i64 e2]) ∧ Below W.heap.size W w')
    (c3 : ∀ W, Tab W → Calls Tryz.prog 9 #[.int .i64 3, .agg #[.int .i64 n1, .int .i64 d1], .agg #[.int .i64 n2, .int .i64 d2]] W fun e w' => e = .returned (.tuple #[.agg #[.int .i64 u3, .int .i64 v3], .int .i64 e3]) ∧ Below W.heap.size W w')
    (r3 : ∀ W, Calls Tryz.prog 10 #[.int .i64 3, .agg #[.int .i64 n1, .int .i64 d1], .agg #[.int .i64 n2, .int .i64 d2]] W fun e w' => e = .returned (.tuple #[.agg #[.int .i64 u3, .int .i64 v3], .int .i64 e3]) ∧ Below W.heap.size W w') :
    Calls Tryz.prog 3 #[.agg #[.int .i64 n1, .int .i64 d1], .agg #[.int .i64 n2, .int .i64 d2]] w fun e w' => e = .returned (.bool true) ∧ Below w.heap.size w w' := by
  have C0 := hide c0; have C1 := hide c1; have C2 := hide c2; have C3 := hide c3; have R0 := hide r0; have R1 := hide r1; have R2 := hide r2; have R3 := hide r3
  have HT := hide hT; have HKN := hide known_any
  clear c0 c1 c2 c3 r0 r1 r2 r3 hT
  go_enter Tryz.func3, Tryz.ntmps3
  go_upto_region 1 with fail
  obtain ⟨n0_, n1_, hsz, hw0⟩ := two_new w (.cells #[.int .i64 n1, .int .i64 d1] 23) (.cells #[.int .i64 n2, .int .i64 d2] 23)
  generalize ((w.alloc (.cells #[.int .i64 n1, .int .i64 d1] 23)).alloc (.cells #[.int .i64 n2, .int .i64 d2] 23)) = W0 at *
  have JX := hide n0_; have JY := hide n1_; have HB0 := Lib.hid hw0
  clear hsz n0_ n1_ hw0
  go_wp2_with fail
  go_loopw [5] (fun kv wr => ∃ k : Nat, k ≤ 4 ∧ kv = .int .i64 ((k : Nat) : Int) ∧ Below W0.heap.size W0 wr) (fun kv _ => 4 - (intOf kv).toNat)
  case atStart => exact ⟨0, by omega, rfl, Below.refl _ _⟩
  case round =>
    obtain ⟨k, hk, rfl, hbr⟩ := hrel
    have HBR := Lib.hid hbr
    clear hbr
    rcases (show k = 0 ∨ k = 1 ∨ k = 2 ∨ k = 3 ∨ k = 4 by omega) with rfl | rfl | rfl | rfl | rfl
    · have jx := hide ((HBR.out.block _ (lt_of_block (unhide JX))).trans (unhide JX))
      have jy := hide ((HBR.out.block _ (lt_of_block (unhide JY))).trans (unhide JY))
      have HB := Lib.hid (below_step' HB0.out HBR.out)
      have HBW := HBR
      have kx0 : wr.cell? ⟨w.heap.size, 0, none⟩ = some (.int .i64 n1) := cells_of (unhide jx) 0
      have kx1 : wr.cell? ⟨w.heap.size, 1, none⟩ = some (.int .i64 d1) := cells_of (unhide jx) 1
      have ky0 : wr.cell? ⟨w.heap.size + 1, 0, none⟩ = some (.int .i64 n2) := cells_of (unhide jy) 0
      have ky1 : wr.cell? ⟨w.heap.size + 1, 1, none⟩ = some (.int .i64 d2) := cells_of (unhide jy) 1
      go_wp2_with fail
      refine ((unhide C0) _ ((unhide HT).below HB.out)).mono ?_
      rintro e V1 ⟨rfl, hb⟩
      clear kx0 kx1 ky0 ky1
      go_upto_region 5 with fail
      have hn := heap_alloc_new V1 (.cells #[.int .i64 u0, .int .i64 v0] 23)
      replace hb := below_step' hb (below_alloc (Below.refl V1.heap.size V1) (.cells #[.int .i64 u0, .int .i64 v0] 23))
      generalize V1.alloc (.cells #[.int .i64 u0, .int .i64 v0] 23) = W1 at *
      obtain ⟨ba, hbn⟩ : ∃ b, b = V1.heap.size := ⟨_, rfl⟩
      rw [← hbn] at hn ⊢
      clear hbn
      replace jx := hide ((hb.block _ (lt_of_block (unhide jx))).trans (unhide jx))
      replace jy := hide ((hb.block _ (lt_of_block (unhide jy))).trans (unhide jy))
      replace HB := Lib.hid (below_step' HB.out hb)
      replace HBW := Lib.hid (below_step' HBW.out hb)
      have ja := hide hn
      clear hn hb
      have kx0 : W1.cell? ⟨w.heap.size, 0, none⟩ = some (.int .i64 n1) := cells_of (unhide jx) 0
      have kx1 : W1.cell? ⟨w.heap.size, 1, none⟩ = some (.int .i64 d1) := cells_of (unhide jx) 1
      have ky0 : W1.cell? ⟨w.heap.size + 1, 0, none⟩ = some (.int .i64 n2) := cells_of (unhide jy) 0
      have ky1 : W1.cell? ⟨w.heap.size + 1, 1, none⟩ = some (.int .i64 d2) := cells_of (unhide jy) 1
      go_wp2_with fail
      refine ((unhide R0) _).mono ?_
      rintro e V2 ⟨rfl, hb⟩
      clear kx0 kx1 ky0 ky1
      go_upto_region 6 with fail
      have hn := heap_alloc_new V2 (.cells #[.int .i64 u0, .int .i64 v0] 23)
      replace hb := below_step' hb (below_alloc (Below.refl V2.heap.size V2) (.cells #[.int .i64 u0, .int .i64 v0] 23))
      generalize V2.alloc (.cells #[.int .i64 u0, .int .i64 v0] 23) = W2 at *
      obtain ⟨bb, hbn⟩ : ∃ b, b = V2.heap.size := ⟨_, rfl⟩
      rw [← hbn] at hn ⊢
      clear hbn
      replace jx := hide ((hb.block _ (lt_of_block (unhide jx))).trans (unhide jx))
      replace jy := hide ((hb.block _ (lt_of_block (unhide jy))).trans (unhide jy))
      replace ja := hide ((hb.block _ (lt_of_block (unhide ja))).trans (unhide ja))
      replace HB := Lib.hid (below_step' HB.out hb)
      replace HBW := Lib.hid (below_step' HBW.out hb)
      have jb := hide hn
      clear hn hb
      have ka0 : W2.cell? ⟨ba, 0, none⟩ = some (.int .i64 u0) := cells_of (unhide ja) 0
      have ka1 : W2.cell? ⟨ba, 1, none⟩ = some (.int .i64 v0) := cells_of (unhide ja) 1
      have kb0 : W2.cell? ⟨bb, 0, none⟩ = some (.int .i64 u0) := cells_of (unhide jb) 0
      have kb1 : W2.cell? ⟨bb, 1, none⟩ = some (.int .i64 v0) := cells_of (unhide jb) 1
      clear jx jy ja jb
      go_wp2_with fail
      go_roundw
      case rel => exact ⟨0+1, by omega, by go_num, HBW.out⟩
      case measure => simp [intOf]
    · have jx := hide ((HBR.out.block _ (lt_of_block (unhide JX))).trans (unhide JX))
      have jy := hide ((HBR.out.block _ (lt_of_block (unhide JY))).trans (unhide JY))
      have HB := Lib.hid (below_step' HB0.out HBR.out)
      have HBW := HBR
      have kx0 : wr.cell? ⟨w.heap.size, 0, none⟩ = some (.int .i64 n1) := cells_of (unhide jx) 0
      have kx1 : wr.cell? ⟨w.heap.size, 1, none⟩ = some (.int .i64 d1) := cells_of (unhide jx) 1
      have ky0 : wr.cell? ⟨w.heap.size + 1, 0, none⟩ = some (.int .i64 n2) := cells_of (unhide jy) 0
      have ky1 : wr.cell? ⟨w.heap.size + 1, 1, none⟩ = some (.int .i64 d2) := cells_of (unhide jy) 1
      go_wp2_with fail
      refine ((unhide C1) _ ((unhide HT).below HB.out)).mono ?_
      rintro e V1 ⟨rfl, hb⟩
      clear kx0 kx1 ky0 ky1
      go_upto_region 5 with fail
      have hn := heap_alloc_new V1 (.cells #[.int .i64 u1, .int .i64 v1] 23)
      replace hb := below_step' hb (below_alloc (Below.refl V1.heap.size V1) (.cells #[.int .i64 u1, .int .i64 v1] 23))
      generalize V1.alloc (.cells #[.int .i64 u1, .int .i64 v1] 23) = W1 at *
      obtain ⟨ba, hbn⟩ : ∃ b, b = V1.heap.size := ⟨_, rfl⟩
      rw [← hbn] at hn ⊢
      clear hbn
      replace jx := hide ((hb.block _ (lt_of_block (unhide jx))).trans (unhide jx))
      replace jy := hide ((hb.block _ (lt_of_block (unhide jy))).trans (unhide jy))
      replace HB := Lib.hid (below_step' HB.out hb)
      replace HBW := Lib.hid (below_step' HBW.out hb)
      have ja := hide hn
      clear hn hb
      have kx0 : W1.cell? ⟨w.heap.size, 0, none⟩ = some (.int .i64 n1) := cells_of (unhide jx) 0
      have kx1 : W1.cell? ⟨w.heap.size, 1, none⟩ = some (.int .i64 d1) := cells_of (unhide jx) 1
      have ky0 : W1.cell? ⟨w.heap.size + 1, 0, none⟩ = some (.int .i64 n2) := cells_of (unhide jy) 0
      have ky1 : W1.cell? ⟨w.heap.size + 1, 1, none⟩ = some (.int .i64 d2) := cells_of (unhide jy) 1
      go_wp2_with fail
      refine ((unhide R1) _).mono ?_
      rintro e V2 ⟨rfl, hb⟩
      clear kx0 kx1 ky0 ky1
      go_upto_region 6 with fail
      have hn := heap_alloc_new V2 (.cells #[.int .i64 u1, .int .i64 v1] 23)
      replace hb := below_step' hb (below_alloc (Below.refl V2.heap.size V2) (.cells #[.int .i64 u1, .int .i64 v1] 23))
      generalize V2.alloc (.cells #[.int .i64 u1, .int .i64 v1] 23) = W2 at *
      obtain ⟨bb, hbn⟩ : ∃ b, b = V2.heap.size := ⟨_, rfl⟩
      rw [← hbn] at hn ⊢
      clear hbn
      replace jx := hide ((hb.block _ (lt_of_block (unhide jx))).trans (unhide jx))
      replace jy := hide ((hb.block _ (lt_of_block (unhide jy))).trans (unhide jy))
      replace ja := hide ((hb.block _ (lt_of_block (unhide ja))).trans (unhide ja))
      replace HB := Lib.hid (below_step' HB.out hb)
      replace HBW := Lib.hid (below_step' HBW.out hb)
      have jb := hide hn
      clear hn hb
      have ka0 : W2.cell? ⟨ba, 0, none⟩ = some (.int .i64 u1) := cells_of (unhide ja) 0
      have ka1 : W2.cell? ⟨ba, 1, none⟩ = some (.int .i64 v1) := cells_of (unhide ja) 1
      have kb0 : W2.cell? ⟨bb, 0, none⟩ = some (.int .i64 u1) := cells_of (unhide jb) 0
      have kb1 : W2.cell? ⟨bb, 1, none⟩ = some (.int .i64 v1) := cells_of (unhide jb) 1
      clear jx jy ja jb
      go_wp2_with fail
      go_roundw
      case rel => exact ⟨1+1, by omega, by go_num, HBW.out⟩
      case measure => simp [intOf]
    · have jx := hide ((HBR.out.block _ (lt_of_block (unhide JX))).trans (unhide JX))
      have jy := hide ((HBR.out.block _ (lt_of_block (unhide JY))).trans (unhide JY))
      have HB := Lib.hid (below_step' HB0.out HBR.out)
      have HBW := HBR
      have kx0 : wr.cell? ⟨w.heap.size, 0, none⟩ = some (.int .i64 n1) := cells_of (unhide jx) 0
      have kx1 : wr.cell? ⟨w.heap.size, 1, none⟩ = some (.int .i64 d1) := cells_of (unhide jx) 1
      have ky0 : wr.cell? ⟨w.heap.size + 1, 0, none⟩ = some (.int .i64 n2) := cells_of (unhide jy) 0
      have ky1 : wr.cell? ⟨w.heap.size + 1, 1, none⟩ = some (.int .i64 d2) := cells_of (unhide jy) 1
      go_wp2_with fail
      refine ((unhide C2) _ ((unhide HT).below HB.out)).mono ?_
      rintro e V1 ⟨rfl, hb⟩
      clear kx0 kx1 ky0 ky1
      go_upto_region 5 with fail
      have hn := heap_alloc_new V1 (.cells #[.int .i64 u2, .int .i64 v2] 23)
      replace hb := below_step' hb (below_alloc (Below.refl V1.heap.size V1) (.cells #[.int .i64 u2, .int .i64 v2] 23))
      generalize V1.alloc (.cells #[.int .i64 u2, .int .i64 v2] 23) = W1 at *
      obtain ⟨ba, hbn⟩ : ∃ b, b = V1.heap.size := ⟨_, rfl⟩
      rw [← hbn] at hn ⊢
      clear hbn
      replace jx := hide ((hb.block _ (lt_of_block (unhide jx))).trans (unhide jx))
      replace jy := hide ((hb.block _ (lt_of_block (unhide jy))).trans (unhide jy))
      replace HB := Lib.hid (below_step' HB.out hb)
      replace HBW := Lib.hid (below_step' HBW.out hb)
      have ja := hide hn
      clear hn hb
      have kx0 : W1.cell? ⟨w.heap.size, 0, none⟩ = some (.int .i64 n1) := cells_of (unhide jx) 0
      have kx1 : W1.cell? ⟨w.heap.size, 1, none⟩ = some (.int .i64 d1) := cells_of (unhide jx) 1
      have ky0 : W1.cell? ⟨w.heap.size + 1, 0, none⟩ = some (.int .i64 n2) := cells_of (unhide jy) 0
      have ky1 : W1.cell? ⟨w.heap.size + 1, 1, none⟩ = some (.int .i64 d2) := cells_of (unhide jy) 1
      go_wp2_with fail
      refine ((unhide R2) _).mono ?_
      rintro e V2 ⟨rfl, hb⟩
      clear kx0 kx1 ky0 ky1
      go_upto_region 6 with fail
      have hn := heap_alloc_new V2 (.cells #[.int .i64 u2, .int .i64 v2] 23)
      replace hb := below_step' hb (below_alloc (Below.refl V2.heap.size V2) (.cells #[.int .i64 u2, .int .i64 v2] 23))
      generalize V2.alloc (.cells #[.int .i64 u2, .int .i64 v2] 23) = W2 at *
      obtain ⟨bb, hbn⟩ : ∃ b, b = V2.heap.size := ⟨_, rfl⟩
      rw [← hbn] at hn ⊢
      clear hbn
      replace jx := hide ((hb.block _ (lt_of_block (unhide jx))).trans (unhide jx))
      replace jy := hide ((hb.block _ (lt_of_block (unhide jy))).trans (unhide jy))
      replace ja := hide ((hb.block _ (lt_of_block (unhide ja))).trans (unhide ja))
      replace HB := Lib.hid (below_step' HB.out hb)
      replace HBW := Lib.hid (below_step' HBW.out hb)
      have jb := hide hn
      clear hn hb
      have ka0 : W2.cell? ⟨ba, 0, none⟩ = some (.int .i64 u2) := cells_of (unhide ja) 0
      have ka1 : W2.cell? ⟨ba, 1, none⟩ = some (.int .i64 v2) := cells_of (unhide ja) 1
      have kb0 : W2.cell? ⟨bb, 0, none⟩ = some (.int .i64 u2) := cells_of (unhide jb) 0
      have kb1 : W2.cell? ⟨bb, 1, none⟩ = some (.int .i64 v2) := cells_of (unhide jb) 1
      clear jx jy ja jb
      go_wp2_with fail
      go_roundw
      case rel => exact ⟨2+1, by omega, by go_num, HBW.out⟩
      case measure => simp [intOf]
    · have jx := hide ((HBR.out.block _ (lt_of_block (unhide JX))).trans (unhide JX))
      have jy := hide ((HBR.out.block _ (lt_of_block (unhide JY))).trans (unhide JY))
      have HB := Lib.hid (below_step' HB0.out HBR.out)
      have HBW := HBR
      have kx0 : wr.cell? ⟨w.heap.size, 0, none⟩ = some (.int .i64 n1) := cells_of (unhide jx) 0
      have kx1 : wr.cell? ⟨w.heap.size, 1, none⟩ = some (.int .i64 d1) := cells_of (unhide jx) 1
      have ky0 : wr.cell? ⟨w.heap.size + 1, 0, none⟩ = some (.int .i64 n2) := cells_of (unhide jy) 0
      have ky1 : wr.cell? ⟨w.heap.size + 1, 1, none⟩ = some (.int .i64 d2) := cells_of (unhide jy) 1
      go_wp2_with fail
      refine ((unhide C3) _ ((unhide HT).below HB.out)).mono ?_
      rintro e V1 ⟨rfl, hb⟩
      clear kx0 kx1 ky0 ky1
      go_upto_region 5 with fail
      have hn := heap_alloc_new V1 (.cells #[.int .i64 u3, .int .i64 v3] 23)
      replace hb := below_step' hb (below_alloc (Below.refl V1.heap.size V1) (.cells #[.int .i64 u3, .int .i64 v3] 23))
      generalize V1.alloc (.cells #[.int .i64 u3, .int .i64 v3] 23) = W1 at *
      obtain ⟨ba, hbn⟩ : ∃ b, b = V1.heap.size := ⟨_, rfl⟩
      rw [← hbn] at hn ⊢
      clear hbn
      replace jx := hide ((hb.block _ (lt_of_block (unhide jx))).trans (unhide jx))
      replace jy := hide ((hb.block _ (lt_of_block (unhide jy))).trans (unhide jy))
      replace HB := Lib.hid (below_step' HB.out hb)
      replace HBW := Lib.hid (below_step' HBW.out hb)
      have ja := hide hn
      clear hn hb
      have kx0 : W1.cell? ⟨w.heap.size, 0, none⟩ = some (.int .i64 n1) := cells_of (unhide jx) 0
      have kx1 : W1.cell? ⟨w.heap.size, 1, none⟩ = some (.int .i64 d1) := cells_of (unhide jx) 1
      have ky0 : W1.cell? ⟨w.heap.size + 1, 0, none⟩ = some (.int .i64 n2) := cells_of (unhide jy) 0
      have ky1 : W1.cell? ⟨w.heap.size + 1, 1, none⟩ = some (.int .i64 d2) := cells_of (unhide jy) 1
      go_wp2_with fail
      refine ((unhide R3) _).mono ?_
      rintro e V2 ⟨rfl, hb⟩
      clear kx0 kx1 ky0 ky1
      go_upto_region 6 with fail
      have hn := heap_alloc_new V2 (.cells #[.int .i64 u3, .int .i64 v3] 23)
      replace hb := below_step' hb (below_alloc (Below.refl V2.heap.size V2) (.cells #[.int .i64 u3, .int .i64 v3] 23))
      generalize V2.alloc (.cells #[.int .i64 u3, .int .i64 v3] 23) = W2 at *
      obtain ⟨bb, hbn⟩ : ∃ b, b = V2.heap.size := ⟨_, rfl⟩
      rw [← hbn] at hn ⊢
      clear hbn
      replace jx := hide ((hb.block _ (lt_of_block (unhide jx))).trans (unhide jx))
      replace jy := hide ((hb.block _ (lt_of_block (unhide jy))).trans (unhide jy))
      replace ja := hide ((hb.block _ (lt_of_block (unhide ja))).trans (unhide ja))
      replace HB := Lib.hid (below_step' HB.out hb)
      replace HBW := Lib.hid (below_step' HBW.out hb)
      have jb := hide hn
      clear hn hb
      have ka0 : W2.cell? ⟨ba, 0, none⟩ = some (.int .i64 u3) := cells_of (unhide ja) 0
      have ka1 : W2.cell? ⟨ba, 1, none⟩ = some (.int .i64 v3) := cells_of (unhide ja) 1
      have kb0 : W2.cell? ⟨bb, 0, none⟩ = some (.int .i64 u3) := cells_of (unhide jb) 0
      have kb1 : W2.cell? ⟨bb, 1, none⟩ = some (.int .i64 v3) := cells_of (unhide jb) 1
      clear jx jy ja jb
      go_wp2_with fail
      go_roundw
      case rel => exact ⟨3+1, by omega, by go_num, HBW.out⟩
      case measure => simp [intOf]
    · have HB := Lib.hid (below_step' HB0.out HBR.out)
      clear JX JY C0 C1 C2 C3 R0 R1 R2 R3
      go_wp2_with fail
      refine ((unhide HKN) _ ((unhide HT).below HB.out)).mono ?_
      rintro e V1 ⟨rfl, hb⟩
      have hb9 := below_step' HB.out hb
      clear hb
      go_wp2_with fail
      all_goals first | go_ret | skip
      exact ⟨rfl, hb9⟩

end Go.Proofs.YtmahhmdodfimbaaGreatDoor
/- The law's own function done: a sum, difference, product or quotient of the program. -/
namespace Go.Proofs.YtmahhmdodfimbaaGreatDoor
open Go.RowKit

set_option maxRecDepth 100000 in
set_option maxHeartbeats 16000000 in
theorem done_walk0 (n1 d1 n2 d2 rn rd re : Int) (w : World) (hT : Tab w)
    (hc : ∀ W, Tab W → Calls Tryz.prog 36 #[.agg #[.int .i64 n1, .int .i64 d1], .agg #[.int .i64 n2, .int .i64 d2]] W fun e w' => e = .returned (.tuple #[.agg #[.int .i64 rn, .int .i64 rd], .int .i64 re]) ∧ Below W.heap.size W w') :
    Calls Tryz.prog 9 #[.int .i64 0, .agg #[.int .i64 n1, .int .i64 d1], .agg #[.int .i64 n2, .int .i64 d2]] w fun e w' => e = .returned (.tuple #[.agg #[.int .i64 rn, .int .i64 rd], .int .i64 re]) ∧ Below w.heap.size w w' := by
  have HC := hide hc; have HT := hide hT
  clear hc hT
  go_enter Tryz.func9, Tryz.ntmps9
  go_upto_region 1 with fail
  obtain ⟨n0, n1_, n2_, hsz, hw0⟩ := three_new w (.cells #[.int .i64 n1, .int .i64 d1] 23) (.cells #[.int .i64 n2, .int .i64 d2] 23) (.cells #[.int .i64 0, .int .i64 0] 23)
  generalize (((w.alloc (.cells #[.int .i64 n1, .int .i64 d1] 23)).alloc (.cells #[.int .i64 n2, .int .i64 d2] 23)).alloc (.cells #[.int .i64 0, .int .i64 0] 23)) = W0 at *
  have k0_0 : W0.cell? ⟨w.heap.size, 0, none⟩ = some (.int .i64 n1) := cells_of n0 0
  have k0_1 : W0.cell? ⟨w.heap.size, 1, none⟩ = some (.int .i64 d1) := cells_of n0 1
  have k1_0 : W0.cell? ⟨w.heap.size + 1, 0, none⟩ = some (.int .i64 n2) := cells_of n1_ 0
  have k1_1 : W0.cell? ⟨w.heap.size + 1, 1, none⟩ = some (.int .i64 d2) := cells_of n1_ 1
  have k2_0 : W0.cell? ⟨w.heap.size + 1 + 1, 0, none⟩ = some (.int .i64 0) := cells_of n2_ 0
  have k2_1 : W0.cell? ⟨w.heap.size + 1 + 1, 1, none⟩ = some (.int .i64 0) := cells_of n2_ 1
  have f2_0 := unfrozen_of n2_ 0; have f2_1 := unfrozen_of n2_ 1
  have q2 := lt_of_block n2_
  clear n0 n1_ n2_ hsz
  go_wp2_with fail
  refine ((unhide HC) _ ((unhide HT).below hw0)).mono ?_
  rintro e W1 ⟨rfl, hb⟩
  obtain ⟨hc, hfz⟩ := bcell hb
  replace k2_0 := (hc _ _ q2).trans k2_0
  replace f2_0 := (hfz _ _ q2).trans f2_0
  replace k2_1 := (hc _ _ q2).trans k2_1
  replace f2_1 := (hfz _ _ q2).trans f2_1
  replace q2 := Nat.lt_of_lt_of_le q2 hb.size
  replace hw0 := below_step' hw0 hb
  clear hb hc hfz k0_0 k0_1 k1_0 k1_1
  go_wp2_with fail
  exact bodyPost_ret (v := .tuple #[.agg #[.int .i64 rn, .int .i64 rd], .int .i64 re]) (by simp [results, Tryz.results9, go_sem, k2_0, k2_1, q2]) rfl
    ⟨rfl, hw0.grown (set2_grown _ _ _ _) hw0.size (fun k hk => by injection hk with hk; omega)⟩

set_option maxRecDepth 100000 in
set_option maxHeartbeats 16000000 in
theorem done_walk1 (n1 d1 n2 d2 rn rd re : Int) (w : World) (hT : Tab w)
    (hc : ∀ W, Tab W → Calls Tryz.prog 37 #[.agg #[.int .i64 n1, .int .i64 d1], .agg #[.int .i64 n2, .int .i64 d2]] W fun e w' => e = .returned (.tuple #[.agg #[.int .i64 rn, .int .i64 rd], .int .i64 re]) ∧ Below W.heap.size W w') :
    Calls Tryz.prog 9 #[.int .i64 1, .agg #[.int .i64 n1, .int .i64 d1], .agg #[.int .i64 n2, .int .i64 d2]] w fun e w' => e = .returned (.tuple #[.agg #[.int .i64 rn, .int .i64 rd], .int .i64 re]) ∧ Below w.heap.size w w' := by
  have HC := hide hc; have HT := hide hT
  clear hc hT
  go_enter Tryz.func9, Tryz.ntmps9
  go_upto_region 1 with fail
  obtain ⟨n0, n1_, n2_, hsz, hw0⟩ := three_new w (.cells #[.int .i64 n1, .int .i64 d1] 23) (.cells #[.int .i64 n2, .int .i64 d2] 23) (.cells #[.int .i64 0, .int .i64 0] 23)
  generalize (((w.alloc (.cells #[.int .i64 n1, .int .i64 d1] 23)).alloc (.cells #[.int .i64 n2, .int .i64 d2] 23)).alloc (.cells #[.int .i64 0, .int .i64 0] 23)) = W0 at *
  have k0_0 : W0.cell? ⟨w.heap.size, 0, none⟩ = some (.int .i64 n1) := cells_of n0 0
  have k0_1 : W0.cell? ⟨w.heap.size, 1, none⟩ = some (.int .i64 d1) := cells_of n0 1
  have k1_0 : W0.cell? ⟨w.heap.size + 1, 0, none⟩ = some (.int .i64 n2) := cells_of n1_ 0
  have k1_1 : W0.cell? ⟨w.heap.size + 1, 1, none⟩ = some (.int .i64 d2) := cells_of n1_ 1
  have k2_0 : W0.cell? ⟨w.heap.size + 1 + 1, 0, none⟩ = some (.int .i64 0) := cells_of n2_ 0
  have k2_1 : W0.cell? ⟨w.heap.size + 1 + 1, 1, none⟩ = some (.int .i64 0) := cells_of n2_ 1
  have f2_0 := unfrozen_of n2_ 0; have f2_1 := unfrozen_of n2_ 1
  have q2 := lt_of_block n2_
  clear n0 n1_ n2_ hsz
  go_wp2_with fail
  refine ((unhide HC) _ ((unhide HT).below hw0)).mono ?_
  rintro e W1 ⟨rfl, hb⟩
  obtain ⟨hc, hfz⟩ := bcell hb
  replace k2_0 := (hc _ _ q2).trans k2_0
  replace f2_0 := (hfz _ _ q2).trans f2_0
  replace k2_1 := (hc _ _ q2).trans k2_1
  replace f2_1 := (hfz _ _ q2).trans f2_1
  replace q2 := Nat.lt_of_lt_of_le q2 hb.size
  replace hw0 := below_step' hw0 hb
  clear hb hc hfz k0_0 k0_1 k1_0 k1_1
  go_wp2_with fail
  exact bodyPost_ret (v := .tuple #[.agg #[.int .i64 rn, .int .i64 rd], .int .i64 re]) (by simp [results, Tryz.results9, go_sem, k2_0, k2_1, q2]) rfl
    ⟨rfl, hw0.grown (set2_grown _ _ _ _) hw0.size (fun k hk => by injection hk with hk; omega)⟩

set_option maxRecDepth 100000 in
set_option maxHeartbeats 16000000 in
theorem done_walk2 (n1 d1 n2 d2 rn rd re : Int) (w : World) (hT : Tab w)
    (hc : ∀ W, Tab W → Calls Tryz.prog 38 #[.agg #[.int .i64 n1, .int .i64 d1], .agg #[.int .i64 n2, .int .i64 d2]] W fun e w' => e = .returned (.tuple #[.agg #[.int .i64 rn, .int .i64 rd], .int .i64 re]) ∧ Below W.heap.size W w') :
    Calls Tryz.prog 9 #[.int .i64 2, .agg #[.int .i64 n1, .int .i64 d1], .agg #[.int .i64 n2, .int .i64 d2]] w fun e w' => e = .returned (.tuple #[.agg #[.int .i64 rn, .int .i64 rd], .int .i64 re]) ∧ Below w.heap.size w w' := by
  have HC := hide hc; have HT := hide hT
  clear hc hT
  go_enter Tryz.func9, Tryz.ntmps9
  go_upto_region 1 with fail
  obtain ⟨n0, n1_, n2_, hsz, hw0⟩ := three_new w (.cells #[.int .i64 n1, .int .i64 d1] 23) (.cells #[.int .i64 n2, .int .i64 d2] 23) (.cells #[.int .i64 0, .int .i64 0] 23)
  generalize (((w.alloc (.cells #[.int .i64 n1, .int .i64 d1] 23)).alloc (.cells #[.int .i64 n2, .int .i64 d2] 23)).alloc (.cells #[.int .i64 0, .int .i64 0] 23)) = W0 at *
  have k0_0 : W0.cell? ⟨w.heap.size, 0, none⟩ = some (.int .i64 n1) := cells_of n0 0
  have k0_1 : W0.cell? ⟨w.heap.size, 1, none⟩ = some (.int .i64 d1) := cells_of n0 1
  have k1_0 : W0.cell? ⟨w.heap.size + 1, 0, none⟩ = some (.int .i64 n2) := cells_of n1_ 0
  have k1_1 : W0.cell? ⟨w.heap.size + 1, 1, none⟩ = some (.int .i64 d2) := cells_of n1_ 1
  have k2_0 : W0.cell? ⟨w.heap.size + 1 + 1, 0, none⟩ = some (.int .i64 0) := cells_of n2_ 0
  have k2_1 : W0.cell? ⟨w.heap.size + 1 + 1, 1, none⟩ = some (.int .i64 0) := cells_of n2_ 1
  have f2_0 := unfrozen_of n2_ 0; have f2_1 := unfrozen_of n2_ 1
  have q2 := lt_of_block n2_
  clear n0 n1_ n2_ hsz
  go_wp2_with fail
  refine ((unhide HC) _ ((unhide HT).below hw0)).mono ?_
  rintro e W1 ⟨rfl, hb⟩
  obtain ⟨hc, hfz⟩ := bcell hb
  replace k2_0 := (hc _ _ q2).trans k2_0
  replace f2_0 := (hfz _ _ q2).trans f2_0
  replace k2_1 := (hc _ _ q2).trans k2_1
  replace f2_1 := (hfz _ _ q2).trans f2_1
  replace q2 := Nat.lt_of_lt_of_le q2 hb.size
  replace hw0 := below_step' hw0 hb
  clear hb hc hfz k0_0 k0_1 k1_0 k1_1
  go_wp2_with fail
  exact bodyPost_ret (v := .tuple #[.agg #[.int .i64 rn, .int .i64 rd], .int .i64 re]) (by simp [results, Tryz.results9, go_sem, k2_0, k2_1, q2]) rfl
    ⟨rfl, hw0.grown (set2_grown _ _ _ _) hw0.size (fun k hk => by injection hk with hk; omega)⟩

set_option maxRecDepth 100000 in
set_option maxHeartbeats 16000000 in
theorem done_walk3 (n1 d1 n2 d2 rn rd re : Int) (w : World) (hT : Tab w)
    (hc : ∀ W, Tab W → Calls Tryz.prog 39 #[.agg #[.int .i64 n1, .int .i64 d1], .agg #[.int .i64 n2, .int .i64 d2]] W fun e w' => e = .returned (.tuple #[.agg #[.int .i64 rn, .int .i64 rd], .int .i64 re]) ∧ Below W.heap.size W w') :
    Calls Tryz.prog 9 #[.int .i64 3, .agg #[.int .i64 n1, .int .i64 d1], .agg #[.int .i64 n2, .int .i64 d2]] w fun e w' => e = .returned (.tuple #[.agg #[.int .i64 rn, .int .i64 rd], .int .i64 re]) ∧ Below w.heap.size w w' := by
  have HC := hide hc; have HT := hide hT
  clear hc hT
  go_enter Tryz.func9, Tryz.ntmps9
  go_upto_region 1 with fail
  obtain ⟨n0, n1_, n2_, hsz, hw0⟩ := three_new w (.cells #[.int .i64 n1, .int .i64 d1] 23) (.cells #[.int .i64 n2, .int .i64 d2] 23) (.cells #[.int .i64 0, .int .i64 0] 23)
  generalize (((w.alloc (.cells #[.int .i64 n1, .int .i64 d1] 23)).alloc (.cells #[.int .i64 n2, .int .i64 d2] 23)).alloc (.cells #[.int .i64 0, .int .i64 0] 23)) = W0 at *
  have k0_0 : W0.cell? ⟨w.heap.size, 0, none⟩ = some (.int .i64 n1) := cells_of n0 0
  have k0_1 : W0.cell? ⟨w.heap.size, 1, none⟩ = some (.int .i64 d1) := cells_of n0 1
  have k1_0 : W0.cell? ⟨w.heap.size + 1, 0, none⟩ = some (.int .i64 n2) := cells_of n1_ 0
  have k1_1 : W0.cell? ⟨w.heap.size + 1, 1, none⟩ = some (.int .i64 d2) := cells_of n1_ 1
  have k2_0 : W0.cell? ⟨w.heap.size + 1 + 1, 0, none⟩ = some (.int .i64 0) := cells_of n2_ 0
  have k2_1 : W0.cell? ⟨w.heap.size + 1 + 1, 1, none⟩ = some (.int .i64 0) := cells_of n2_ 1
  have f2_0 := unfrozen_of n2_ 0; have f2_1 := unfrozen_of n2_ 1
  have q2 := lt_of_block n2_
  clear n0 n1_ n2_ hsz
  go_wp2_with fail
  refine ((unhide HC) _ ((unhide HT).below hw0)).mono ?_
  rintro e W1 ⟨rfl, hb⟩
  obtain ⟨hc, hfz⟩ := bcell hb
  replace k2_0 := (hc _ _ q2).trans k2_0
  replace f2_0 := (hfz _ _ q2).trans f2_0
  replace k2_1 := (hc _ _ q2).trans k2_1
  replace f2_1 := (hfz _ _ q2).trans f2_1
  replace q2 := Nat.lt_of_lt_of_le q2 hb.size
  replace hw0 := below_step' hw0 hb
  clear hb hc hfz k0_0 k0_1 k1_0 k1_1
  go_wp2_with fail
  exact bodyPost_ret (v := .tuple #[.agg #[.int .i64 rn, .int .i64 rd], .int .i64 re]) (by simp [results, Tryz.results9, go_sem, k2_0, k2_1, q2]) rfl
    ⟨rfl, hw0.grown (set2_grown _ _ _ _) hw0.size (fun k hk => by injection hk with hk; omega)⟩

end Go.Proofs.YtmahhmdodfimbaaGreatDoor
