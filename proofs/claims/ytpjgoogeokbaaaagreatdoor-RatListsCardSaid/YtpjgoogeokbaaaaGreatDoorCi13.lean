/- Part 13 of the texts beneath a law of layer 1: RlC, RlH, RlI, RlJ, RlD. -/
import Derived.Test.YtpjgoogeokbaaaaGreatDoorCi12
/- The reference: the product of a list. -/
namespace Go.Proofs.YtpjgoogeokbaaaaGreatDoor
open Go.RowKit

set_option maxRecDepth 100000 in
set_option maxHeartbeats 16000000 in
theorem tprod_long (A : Option Addr) (cap : Nat) (l : List (Int × Int)) (w : World) (hcp : l.length ≤ cap) (hm : cap ≤ 9223372036854775807) (hl : 64 < l.length) :
    Calls Tryz.prog 25 #[.slice A l.length cap] w fun e w' => TolR w ⟨0, 0, 3⟩ e w' := by
  have d1 : decide ((64 : Int) < (l.length : Int)) = true := decide_eq_true (by omega)
  have d2 : decide (64 < l.length) = true := decide_eq_true (by omega)
  go_enter Tryz.func25, Tryz.ntmps25
  go_upto_region 1 with fail
  obtain ⟨n0, hsz, hw0⟩ := one_new w (.cells #[.int .i64 0, .int .i64 0] 23)
  generalize w.alloc (.cells #[.int .i64 0, .int .i64 0] 23) = W0 at *
  have r0 : W0.cell? ⟨w.heap.size, 0, none⟩ = some (.int .i64 0) := cells_of n0 0
  have r1 : W0.cell? ⟨w.heap.size, 1, none⟩ = some (.int .i64 0) := cells_of n0 1
  have f0 := unfrozen_of n0 0; have f1 := unfrozen_of n0 1
  have q0 := lt_of_block n0
  clear n0 hsz
  go_wp2_with fail
  exact bodyPost_ret (v := .tuple #[.agg #[.int .i64 0, .int .i64 0], .int .i64 3]) (by simp [results, Tryz.results25, go_sem, r0, r1, q0]) rfl
    ⟨rfl, hw0.grown (set2_grown _ _ _ _) hw0.size (fun k hk => by injection hk with hk; omega)⟩
set_option maxRecDepth 100000 in
set_option maxHeartbeats 16000000 in
theorem tprod_bad (A : Option Addr) (cap : Nat) (l : List (Int × Int)) (w : World) (h : Rs w w.heap.size A l) (hcp : l.length ≤ cap) (hm : cap ≤ 9223372036854775807) (hl : ¬ 64 < l.length) (hj : ¬ Oks l) :
    Calls Tryz.prog 25 #[.slice A l.length cap] w fun e w' => TolR w ⟨0, 0, 1⟩ e w' := by
  have d1 : decide ((64 : Int) < (l.length : Int)) = false := decide_eq_false (by omega)
  have d2 : decide (64 < l.length) = false := decide_eq_false (by omega)
  have HA := hide (fun W (hW : Below w.heap.size w W) => tAlls_any A cap l W ((h.below hW).up hW.size) hcp hm)
  rw [if_neg hj] at HA
  clear hj h
  go_enter Tryz.func25, Tryz.ntmps25
  go_upto_region 1 with fail
  obtain ⟨n0, hsz, hw0⟩ := one_new w (.cells #[.int .i64 0, .int .i64 0] 23)
  generalize w.alloc (.cells #[.int .i64 0, .int .i64 0] 23) = W0 at *
  have r0 : W0.cell? ⟨w.heap.size, 0, none⟩ = some (.int .i64 0) := cells_of n0 0
  have r1 : W0.cell? ⟨w.heap.size, 1, none⟩ = some (.int .i64 0) := cells_of n0 1
  have f0 := unfrozen_of n0 0; have f1 := unfrozen_of n0 1
  have q0 := lt_of_block n0
  clear n0 hsz
  go_wp2_with fail
  refine ((unhide HA) _ hw0).mono ?_
  rintro e W1 ⟨rfl, hb⟩
  obtain ⟨hc, hfz⟩ := bcell hb
  replace r0 := (hc _ _ q0).trans r0
  replace r1 := (hc _ _ q0).trans r1
  replace f0 := (hfz _ _ q0).trans f0
  replace f1 := (hfz _ _ q0).trans f1
  replace q0 := Nat.lt_of_lt_of_le q0 hb.size
  replace hw0 := below_step' hw0 hb
  clear hc hfz
  clear hb
  go_wp2_with fail
  exact bodyPost_ret (v := .tuple #[.agg #[.int .i64 0, .int .i64 0], .int .i64 1]) (by simp [results, Tryz.results25, go_sem, r0, r1, q0]) rfl
    ⟨rfl, hw0.grown (set2_grown _ _ _ _) hw0.size (fun k hk => by injection hk with hk; omega)⟩
set_option maxRecDepth 100000 in
set_option maxHeartbeats 16000000 in
theorem tprod_ok (A : Option Addr) (cap : Nat) (l : List (Int × Int)) (w : World) (h : Rs w w.heap.size A l) (hcp : l.length ≤ cap) (hm : cap ≤ 9223372036854775807) (hl : ¬ 64 < l.length) (hj : Oks l) :
    Calls Tryz.prog 25 #[.slice A l.length cap] w fun e w' => TolR w (Wd.told (Wd.prodTo (qAt l) l.length)) e w' := by
  have d1 : decide ((64 : Int) < (l.length : Int)) = false := decide_eq_false (by omega)
  have d2 : decide (64 < l.length) = false := decide_eq_false (by omega)
  have HA := hide (fun W (hW : Below w.heap.size w W) => tAlls_any A cap l W ((h.below hW).up hW.size) hcp hm)
  rw [if_pos hj] at HA
  have HJ := hide hj; have HRS := hide h
  obtain ⟨m, hmm⟩ : ∃ m, m = l.length := ⟨_, rfl⟩
  have HM := Lib.hid hmm
  rw [← hmm] at hl hcp d1 d2 HA ⊢
  have HSZ : Hid (∀ i, i ≤ m → Wd.SzQ B32 200 (Wd.prodTo (qAt l) i)) := fun i hi => (Wd.szq_prod B32_pos i (fun k hk => okR_szq (hj k (by omega)))).mono'' B32_pos (by omega)
  have HO := hide (fun W => tint_any 1 W (by omega) (by omega))
  clear hj h hmm
  go_enter Tryz.func25, Tryz.ntmps25
  go_upto_region 1 with fail
  obtain ⟨n0, hsz, hw0⟩ := one_new w (.cells #[.int .i64 0, .int .i64 0] 23)
  generalize w.alloc (.cells #[.int .i64 0, .int .i64 0] 23) = W0 at *
  have r0 : W0.cell? ⟨w.heap.size, 0, none⟩ = some (.int .i64 0) := cells_of n0 0
  have r1 : W0.cell? ⟨w.heap.size, 1, none⟩ = some (.int .i64 0) := cells_of n0 1
  have f0 := unfrozen_of n0 0; have f1 := unfrozen_of n0 1
  have q0 := lt_of_block n0
  clear n0 hsz
  go_wp2_with fail
  refine ((unhide HA) _ hw0).mono ?_
  rintro e W1 ⟨rfl, hb⟩
  obtain ⟨hc, hfz⟩ := bcell hb
  replace r0 := (hc _ _ q0).trans r0
  replace r1 := (hc _ _ q0).trans r1
  replace f0 := (hfz _ _ q0).trans f0
  replace f1 := (hfz _ _ q0).trans f1
  replace q0 := Nat.lt_of_lt_of_le q0 hb.size
  replace hw0 := below_step' hw0 hb
  clear hc hfz
  clear hb
  go_wp2_with fail
  refine ((unhide HO) _).mono ?_
  rintro e W2 ⟨A1, c1, l1, m1, A2, c2, l2, m2, rfl, g1, g2, hb⟩
  obtain ⟨hc, hfz⟩ := bcell hb
  replace r0 := (hc _ _ q0).trans r0
  replace r1 := (hc _ _ q0).trans r1
  replace f0 := (hfz _ _ q0).trans f0
  replace f1 := (hfz _ _ q0).trans f1
  replace q0 := Nat.lt_of_lt_of_le q0 hb.size
  replace hw0 := below_step' hw0 hb
  clear hc hfz
  clear hb
  have hbx := BoxQ.new (QV.of g1 g2) rfl
  have hb := below_alloc (Below.refl W2.heap.size W2) (.cells #[.slice A1 l1.length c1, .bool m1, .slice A2 l2.length c2, .bool m2] 52)
  clear g1 g2
  go_upto_region 7 with fail
  obtain ⟨bx, hbxe⟩ : ∃ b, b = W2.heap.size := ⟨_, rfl⟩
  rw [← hbxe] at hbx ⊢
  have hbB : w.heap.size < bx := by rw [hbxe]; exact q0
  generalize W2.alloc (.cells #[.slice A1 l1.length c1, .bool m1, .slice A2 l2.length c2, .bool m2] 52) = W3 at *
  obtain ⟨hc, hfz⟩ := bcell hb
  replace r0 := (hc _ _ q0).trans r0
  replace r1 := (hc _ _ q0).trans r1
  replace f0 := (hfz _ _ q0).trans f0
  replace f1 := (hfz _ _ q0).trans f1
  replace q0 := Nat.lt_of_lt_of_le q0 hb.size
  replace hw0 := below_step' hw0 hb
  clear hc hfz
  clear hb hbxe
  have HW0 := hide hw0; have HRES := hide (And.intro (And.intro r0 r1) (And.intro (And.intro f0 f1) q0))
  have hbs := (unhide HW0).size
  clear r0 r1 f0 f1 q0 hw0 HA
  go_wp2_with fail
  go_loopw [6] (fun iv wr => ∃ i : Nat, i ≤ m ∧ iv = .int .i64 ((i : Nat) : Int) ∧ BoxQ wr bx (Wd.prodTo (qAt l) i) ∧ Hid (Below (w.heap.size + 1) W3 wr)) (fun iv _ => m - (intOf iv).toNat)
  case atStart => exact ⟨0, Nat.zero_le _, by first | rfl | go_num, hbx, hide (Below.refl _ _)⟩
  case round =>
    obtain ⟨i, hi, rfl, hbq, hgr⟩ := hrel
    have hwr : Below w.heap.size w wr := (unhide HW0).trans ((unhide hgr).mono (by omega))
    have hq0 := (unhide HRES).2.2
    have hgs := (unhide hgr).size
    by_cases hlt : i < m
    · have hil : i < l.length := by rw [← HM.out]; exact hlt
      obtain ⟨b, off, rfl, hbb, hcell⟩ := (unhide HRS) (by omega)
      have k0 := (hwr.cell (p := ⟨b, off + i * 2, none⟩) hbb).trans (hcell i hil).1
      have k1 := (hwr.cell (p := ⟨b, off + i * 2 + 1, none⟩) hbb).trans (hcell i hil).2
      have oki := (unhide HJ) i hil
      have zs1 := (unhide HSZ) i (by omega)
      have zs2 : Wd.SzQ B32 200 (qAt l i) := (okR_szq oki).mono'' B32_pos (by omega)
      have hnext : Wd.prodTo (qAt l) (i + 1) = Wd.prodTo (qAt l) i * qAt l i := rfl
      have HNX := Lib.hid hnext
      have HOFi := hide (fun W => of_ok oki W)
      have hqa : qAt l i = Wd.qR (rn l i) (rd l i) := rfl
      rw [← hqa] at HOFi
      obtain ⟨nn, hnn⟩ : ∃ z, z = rn l i := ⟨_, rfl⟩
      obtain ⟨dd, hdd⟩ : ∃ z, z = rd l i := ⟨_, rfl⟩
      rw [← hnn] at k0 HOFi
      rw [← hdd] at k1 HOFi
      obtain ⟨x, hx⟩ : ∃ x, x = Wd.prodTo (qAt l) i := ⟨_, rfl⟩
      obtain ⟨y, hy⟩ : ∃ y, y = qAt l i := ⟨_, rfl⟩
      rw [← hx] at hbq zs1 HNX
      rw [← hy] at zs2 HNX HOFi
      have HAD : Hid (∀ (A1 : Option Addr) (c1 : Nat) (l1 : List Nat) (m1 : Bool) (A2 : Option Addr) (c2 : Nat) (l2 : List Nat) (m2 : Bool) (A3 : Option Addr) (c3 : Nat) (l3 : List Nat) (m3 : Bool) (A4 : Option Addr) (c4 : Nat) (l4 : List Nat) (m4 : Bool) W, QV W A1 c1 l1 m1 A2 c2 l2 m2 (x) → QV W A3 c3 l3 m3 A4 c4 l4 m4 (y) → Calls Tryz.prog 45 #[(Value.agg #[.slice A1 l1.length c1, .bool m1, .slice A2 l2.length c2, .bool m2]), (Value.agg #[.slice A3 l3.length c3, .bool m3, .slice A4 l4.length c4, .bool m4])] W fun e w' => QR W (x * y) e w') := fun A1 c1 l1 m1 A2 c2 l2 m2 A3 c3 l3 m3 A4 c4 l4 m4 W g1 g3 => tqmul_any 200 A1 c1 l1 m1 A2 c2 l2 m2 A3 c3 l3 m3 A4 c4 l4 m4 x y W g1 g3 zs1 zs2 (by omega)
      have dl1 : decide ((i : Int) < (m : Int)) = true := decide_eq_true (by omega)
      have dl2 : decide (i < m) = true := decide_eq_true hlt
      clear hcell oki zs1 zs2 hnext hqa hnn hdd hx hy hil
      obtain ⟨A1, c1, l1, m1, A2, c2, l2, m2, j1, f1'⟩ := hbq
      have kx_0 : wr.cell? ⟨bx, 0, none⟩ = some (.slice A1 l1.length c1) := cells_of j1 0
      have ux_0 := unfrozen_of j1 0
      have kx_1 : wr.cell? ⟨bx, 1, none⟩ = some (.bool m1) := cells_of j1 1
      have ux_1 := unfrozen_of j1 1
      have kx_2 : wr.cell? ⟨bx, 2, none⟩ = some (.slice A2 l2.length c2) := cells_of j1 2
      have ux_2 := unfrozen_of j1 2
      have kx_3 : wr.cell? ⟨bx, 3, none⟩ = some (.bool m2) := cells_of j1 3
      have ux_3 := unfrozen_of j1 3
      have qx := lt_of_block j1
      have F1 := hide f1'; have J1 := hide j1
      clear f1' j1
      go_wp2_with fail
      go_region_with (first | (go_at_call 41; refine ((unhide HOFi) _).mono ?_; rintro e w' ⟨A3, c3, l3, m3, A4, c4, l4, m4, rfl, g1, g2, hb3⟩; have iq3 := QV.of g1 g2; clear g1 g2; have hbw := below_step (w := wr) (by (first | with_reducible assumption | (repeat (first | with_reducible exact Below.refl _ _ | with_reducible assumption | refine Below.drew ?_ | (refine Below.alloc ?_ (by simp <;> omega) _) | refine belowN ?_ _)))) hb3; obtain ⟨hc, hfz⟩ := bcell hbw) | (go_at_call 45; refine ((unhide HAD) A1 c1 l1 m1 A2 c2 l2 m2 A3 c3 l3 m3 A4 c4 l4 m4 _ (QV.below (unhide F1) (by (first | with_reducible assumption | (repeat (first | with_reducible exact Below.refl _ _ | with_reducible assumption | refine Below.drew ?_ | (refine Below.alloc ?_ (by simp <;> omega) _) | refine belowN ?_ _))))) (by first | exact iq3 | exact QV.below iq3 (by (first | with_reducible assumption | (repeat (first | with_reducible exact Below.refl _ _ | with_reducible assumption | refine Below.drew ?_ | (refine Below.alloc ?_ (by simp <;> omega) _) | refine belowN ?_ _)))))).mono ?_; rintro e w' ⟨A5, c5, l5, m5, A6, c6, l6, m6, rfl, g1, g2, hb5⟩; have iq5 := QV.of g1 g2; clear g1 g2; have hbw := below_step (w := wr) (by (first | with_reducible assumption | (repeat (first | with_reducible exact Below.refl _ _ | with_reducible assumption | refine Below.drew ?_ | (refine Below.alloc ?_ (by simp <;> omega) _) | refine belowN ?_ _)))) hb5; obtain ⟨hc, hfz⟩ := bcell hbw))
      all_goals
        have hst := boxq_st (boxq_below ⟨_, _, _, _, _, _, _, _, unhide J1, unhide F1⟩ hbw) iq5 ((unhide hgr).trans (hbw.mono (by omega))) (by omega) (by have := hbw.size; omega)
        clear iq5
        go_wp2_with fail
        go_roundw
        case rel => exact ⟨i + 1, by omega, by first | rfl | go_num, HNX.out ▸ hst.1, hide hst.2⟩
        case measure => simp [intOf] <;> omega
    · obtain rfl : i = m := by omega
      have dl1 : decide ((i : Int) < (i : Int)) = false := decide_eq_false (by omega)
      have dl2 : decide (i < i) = false := decide_eq_false (by omega)
      clear HSZ HJ HRS
      obtain ⟨⟨r0, r1⟩, ⟨f0, f1⟩, q0⟩ := unhide HRES
      have hblk := (unhide hgr).block w.heap.size (by omega)
      replace r0 := (World.cell?_of_block (a := ⟨w.heap.size, 0, none⟩) hblk).trans r0
      replace r1 := (World.cell?_of_block (a := ⟨w.heap.size, 1, none⟩) hblk).trans r1
      replace f0 := (World.frozen?_of_block (a := ⟨w.heap.size, 0, none⟩) hblk).trans f0
      replace f1 := (World.frozen?_of_block (a := ⟨w.heap.size, 1, none⟩) hblk).trans f1
      replace q0 := Nat.lt_of_lt_of_le q0 hgs
      obtain ⟨A1, c1, l1, m1, A2, c2, l2, m2, j1, f1'⟩ := hbq
      have kx_0 : wr.cell? ⟨bx, 0, none⟩ = some (.slice A1 l1.length c1) := cells_of j1 0
      have ux_0 := unfrozen_of j1 0
      have kx_1 : wr.cell? ⟨bx, 1, none⟩ = some (.bool m1) := cells_of j1 1
      have ux_1 := unfrozen_of j1 1
      have kx_2 : wr.cell? ⟨bx, 2, none⟩ = some (.slice A2 l2.length c2) := cells_of j1 2
      have ux_2 := unfrozen_of j1 2
      have kx_3 : wr.cell? ⟨bx, 3, none⟩ = some (.bool m2) := cells_of j1 3
      have ux_3 := unfrozen_of j1 3
      have qx := lt_of_block j1
      have HRAT := hide (ttoldv_any A1 c1 l1 m1 A2 c2 l2 m2 _ wr f1')
      have hw0 := hwr
      clear f1' j1 hblk hwr hgr HRES HW0
      go_wp2_with fail
      refine (unhide HRAT).mono ?_
      rintro e W5 ⟨rfl, hb⟩
      obtain ⟨hc, hfz⟩ := bcell hb
      replace r0 := (hc _ _ q0).trans r0
      replace r1 := (hc _ _ q0).trans r1
      replace f0 := (hfz _ _ q0).trans f0
      replace f1 := (hfz _ _ q0).trans f1
      replace q0 := Nat.lt_of_lt_of_le q0 hb.size
      replace hw0 := below_step' hw0 hb
      clear hc hfz
      clear hb
      go_wp2_with fail
      exact bodyPost_ret (v := .tuple #[.agg #[.int .i64 (Wd.told (Wd.prodTo (qAt l) i)).n, .int .i64 (Wd.told (Wd.prodTo (qAt l) i)).d], .int .i64 (Wd.told (Wd.prodTo (qAt l) i)).e]) (by simp [results, Tryz.results25, go_sem, r0, r1, q0]) rfl
        ⟨rfl, hw0.grown (set2_grown _ _ _ _) hw0.size (fun k hk => by injection hk with hk; omega)⟩
theorem tprod_any (A : Option Addr) (cap : Nat) (l : List (Int × Int)) (w : World) (h : Rs w w.heap.size A l) (hcp : l.length ≤ cap) (hm : cap ≤ 9223372036854775807) :
    Calls Tryz.prog 25 #[.slice A l.length cap] w fun e w' => TolR w (tprodT l) e w' := by
  unfold tprodT
  by_cases hl : 64 < l.length
  · rw [if_pos hl]; exact tprod_long A cap l w hcp hm hl
  · rw [if_neg hl]
    by_cases hj : Oks l
    · rw [if_pos hj]; exact tprod_ok A cap l w h hcp hm hl hj
    · rw [if_neg hj]; exact tprod_bad A cap l w h hcp hm hl hj


end Go.Proofs.YtpjgoogeokbaaaaGreatDoor
/- The program: the sum of a list. -/
namespace Go.Proofs.YtpjgoogeokbaaaaGreatDoor
open Go.RowKit

set_option maxRecDepth 100000 in
set_option maxHeartbeats 16000000 in
theorem psum_long (A : Option Addr) (cap : Nat) (l : List (Int × Int)) (w : World) (h : Rs w w.heap.size A l) (hcp : l.length ≤ cap) (hm : cap ≤ 9223372036854775807) (hT : Tab w) (hl : 64 < l.length) :
    Calls Tryz.prog 22 #[.slice A l.length cap] w fun e w' => TolR w ⟨0, 0, 3⟩ e w' := by
  have HV : Hid ((3 : Int) = lstE 1 (fun _ => l)) := hide (by unfold lstE; rw [if_pos ⟨0, by omega, hl⟩])
  have HT := hide hT; have HR0 := hide (And.intro h (And.intro hcp hm))
  clear hT h hl 
  go_enter Tryz.func22, Tryz.ntmps22
  go_upto_region 1 with fail
  obtain ⟨n0, hsz, hw0⟩ := one_new w (.cells #[.int .i64 0, .int .i64 0] 23)
  generalize w.alloc (.cells #[.int .i64 0, .int .i64 0] 23) = W0 at *
  have r0 : W0.cell? ⟨w.heap.size, 0, none⟩ = some (.int .i64 0) := cells_of n0 0
  have r1 : W0.cell? ⟨w.heap.size, 1, none⟩ = some (.int .i64 0) := cells_of n0 1
  have f0 := unfrozen_of n0 0; have f1 := unfrozen_of n0 1
  have q0 := lt_of_block n0
  clear n0 hsz
  go_wp2_with fail
  have hnew := heap_alloc_new W0 (.cells #[.slice A l.length cap] 35)
  have hb := below_alloc (Below.refl W0.heap.size W0) (.cells #[.slice A l.length cap] 35)
  have hlt0 := lt_of_block hnew
  obtain ⟨hc, hfz⟩ := bcell hb
  replace r0 := (hc _ _ q0).trans r0
  replace r1 := (hc _ _ q0).trans r1
  replace f0 := (hfz _ _ q0).trans f0
  replace f1 := (hfz _ _ q0).trans f1
  replace q0 := Nat.lt_of_lt_of_le q0 hb.size
  replace hw0 := below_step' hw0 hb
  clear hc hfz
  refine (liste_any W0.heap.size 1 (fun _ => A) (fun _ => cap) (fun _ => l) _ (fun j hj => by rcases (show j = 0 by omega) with rfl; exact cells_of hnew 0) hlt0 (by omega) ((unhide HT).below hw0) (fun j hj => ⟨((unhide HR0).1.below hw0).up hw0.size, (unhide HR0).2.1, (unhide HR0).2.2⟩) 3 (unhide HV)).mono ?_
  rintro e W2 ⟨rfl, hb2⟩
  clear hnew hlt0 hb
  have hb := hb2
  clear hb2
  obtain ⟨hc, hfz⟩ := bcell hb
  replace r0 := (hc _ _ q0).trans r0
  replace r1 := (hc _ _ q0).trans r1
  replace f0 := (hfz _ _ q0).trans f0
  replace f1 := (hfz _ _ q0).trans f1
  replace q0 := Nat.lt_of_lt_of_le q0 hb.size
  replace hw0 := below_step' hw0 hb
  clear hc hfz
  clear hb
  go_wp2_with fail
  exact bodyPost_ret (v := .tuple #[.agg #[.int .i64 0, .int .i64 0], .int .i64 3]) (by simp [results, Tryz.results22, go_sem, r0, r1, q0]) rfl
    ⟨rfl, hw0.grown (set2_grown _ _ _ _) hw0.size (fun k hk => by injection hk with hk; omega)⟩
set_option maxRecDepth 100000 in
set_option maxHeartbeats 16000000 in
theorem psum_bad (A : Option Addr) (cap : Nat) (l : List (Int × Int)) (w : World) (h : Rs w w.heap.size A l) (hcp : l.length ≤ cap) (hm : cap ≤ 9223372036854775807) (hT : Tab w) (hl : ¬ 64 < l.length) (hj : ¬ Oks l) :
    Calls Tryz.prog 22 #[.slice A l.length cap] w fun e w' => TolR w ⟨0, 0, 1⟩ e w' := by
  have HV : Hid ((1 : Int) = lstE 1 (fun _ => l)) := hide (by unfold lstE; rw [if_neg (fun ⟨_, _, h⟩ => hl h), if_pos ⟨0, by omega, hj⟩])
  have HT := hide hT; have HR0 := hide (And.intro h (And.intro hcp hm))
  clear hT h hl hj
  go_enter Tryz.func22, Tryz.ntmps22
  go_upto_region 1 with fail
  obtain ⟨n0, hsz, hw0⟩ := one_new w (.cells #[.int .i64 0, .int .i64 0] 23)
  generalize w.alloc (.cells #[.int .i64 0, .int .i64 0] 23) = W0 at *
  have r0 : W0.cell? ⟨w.heap.size, 0, none⟩ = some (.int .i64 0) := cells_of n0 0
  have r1 : W0.cell? ⟨w.heap.size, 1, none⟩ = some (.int .i64 0) := cells_of n0 1
  have f0 := unfrozen_of n0 0; have f1 := unfrozen_of n0 1
  have q0 := lt_of_block n0
  clear n0 hsz
  go_wp2_with fail
  have hnew := heap_alloc_new W0 (.cells #[.slice A l.length cap] 35)
  have hb := below_alloc (Below.refl W0.heap.size W0) (.cells #[.slice A l.length cap] 35)
  have hlt0 := lt_of_block hnew
  obtain ⟨hc, hfz⟩ := bcell hb
  replace r0 := (hc _ _ q0).trans r0
  replace r1 := (hc _ _ q0).trans r1
  replace f0 := (hfz _ _ q0).trans f0
  replace f1 := (hfz _ _ q0).trans f1
  replace q0 := Nat.lt_of_lt_of_le q0 hb.size
  replace hw0 := below_step' hw0 hb
  clear hc hfz
  refine (liste_any W0.heap.size 1 (fun _ => A) (fun _ => cap) (fun _ => l) _ (fun j hj => by rcases (show j = 0 by omega) with rfl; exact cells_of hnew 0) hlt0 (by omega) ((unhide HT).below hw0) (fun j hj => ⟨((unhide HR0).1.below hw0).up hw0.size, (unhide HR0).2.1, (unhide HR0).2.2⟩) 1 (unhide HV)).mono ?_
  rintro e W2 ⟨rfl, hb2⟩
  clear hnew hlt0 hb
  have hb := hb2
  clear hb2
  obtain ⟨hc, hfz⟩ := bcell hb
  replace r0 := (hc _ _ q0).trans r0
  replace r1 := (hc _ _ q0).trans r1
  replace f0 := (hfz _ _ q0).trans f0
  replace f1 := (hfz _ _ q0).trans f1
  replace q0 := Nat.lt_of_lt_of_le q0 hb.size
  replace hw0 := below_step' hw0 hb
  clear hc hfz
  clear hb
  go_wp2_with fail
  exact bodyPost_ret (v := .tuple #[.agg #[.int .i64 0, .int .i64 0], .int .i64 1]) (by simp [results, Tryz.results22, go_sem, r0, r1, q0]) rfl
    ⟨rfl, hw0.grown (set2_grown _ _ _ _) hw0.size (fun k hk => by injection hk with hk; omega)⟩
set_option maxRecDepth 100000 in
set_option maxHeartbeats 16000000 in
theorem psum_ok (A : Option Addr) (cap : Nat) (l : List (Int × Int)) (w : World) (h : Rs w w.heap.size A l) (hcp : l.length ≤ cap) (hm : cap ≤ 9223372036854775807) (hT : Tab w) (hl : ¬ 64 < l.length) (hj : Oks l) :
    Calls Tryz.prog 22 #[.slice A l.length cap] w fun e w' => TolR w (Wd.told (Wd.sumTo (qAt l) l.length)) e w' := by
  have HV : Hid ((0 : Int) = lstE 1 (fun _ => l)) := hide (by unfold lstE; rw [if_neg (fun ⟨_, _, h⟩ => hl h), if_neg (fun ⟨_, _, h⟩ => h hj)])
  have HT := hide hT; have HR0 := hide (And.intro h (And.intro hcp hm))
  have HTO := hide (fun W (hW : Below w.heap.size w W) => total_any A cap l W ((h.below hW).up hW.size) hcp hm hl hj (hT.below hW))
  clear hT h hl hj
  go_enter Tryz.func22, Tryz.ntmps22
  go_upto_region 1 with fail
  obtain ⟨n0, hsz, hw0⟩ := one_new w (.cells #[.int .i64 0, .int .i64 0] 23)
  generalize w.alloc (.cells #[.int .i64 0, .int .i64 0] 23) = W0 at *
  have r0 : W0.cell? ⟨w.heap.size, 0, none⟩ = some (.int .i64 0) := cells_of n0 0
  have r1 : W0.cell? ⟨w.heap.size, 1, none⟩ = some (.int .i64 0) := cells_of n0 1
  have f0 := unfrozen_of n0 0; have f1 := unfrozen_of n0 1
  have q0 := lt_of_block n0
  clear n0 hsz
  go_wp2_with fail
  have hnew := heap_alloc_new W0 (.cells #[.slice A l.length cap] 35)
  have hb := below_alloc (Below.refl W0.heap.size W0) (.cells #[.slice A l.length cap] 35)
  have hlt0 := lt_of_block hnew
  obtain ⟨hc, hfz⟩ := bcell hb
  replace r0 := (hc _ _ q0).trans r0
  replace r1 := (hc _ _ q0).trans r1
  replace f0 := (hfz _ _ q0).trans f0
  replace f1 := (hfz _ _ q0).trans f1
  replace q0 := Nat.lt_of_lt_of_le q0 hb.size
  replace hw0 := below_step' hw0 hb
  clear hc hfz
  refine (liste_any W0.heap.size 1 (fun _ => A) (fun _ => cap) (fun _ => l) _ (fun j hj => by rcases (show j = 0 by omega) with rfl; exact cells_of hnew 0) hlt0 (by omega) ((unhide HT).below hw0) (fun j hj => ⟨((unhide HR0).1.below hw0).up hw0.size, (unhide HR0).2.1, (unhide HR0).2.2⟩) 0 (unhide HV)).mono ?_
  rintro e W2 ⟨rfl, hb2⟩
  clear hnew hlt0 hb
  have hb := hb2
  clear hb2
  obtain ⟨hc, hfz⟩ := bcell hb
  replace r0 := (hc _ _ q0).trans r0
  replace r1 := (hc _ _ q0).trans r1
  replace f0 := (hfz _ _ q0).trans f0
  replace f1 := (hfz _ _ q0).trans f1
  replace q0 := Nat.lt_of_lt_of_le q0 hb.size
  replace hw0 := below_step' hw0 hb
  clear hc hfz
  clear hb
  go_wp2_with fail
  refine ((unhide HTO) _ hw0).mono ?_
  rintro e W3 ⟨s1a, neg1a, A1a, c1a, l1a, s1b, neg1b, A1b, c1b, l1b, rfl, g1, g2, hb⟩
  have hrat := rrat_any s1a neg1a A1a c1a l1a _ s1b neg1b A1b c1b l1b _ W3 g1 g2 _ rfl rfl
  have HRAT := hide hrat
  obtain ⟨hc, hfz⟩ := bcell hb
  replace r0 := (hc _ _ q0).trans r0
  replace r1 := (hc _ _ q0).trans r1
  replace f0 := (hfz _ _ q0).trans f0
  replace f1 := (hfz _ _ q0).trans f1
  replace q0 := Nat.lt_of_lt_of_le q0 hb.size
  replace hw0 := below_step' hw0 hb
  clear hc hfz
  clear hb hrat g1 g2
  go_wp2_with fail
  refine (unhide HRAT).mono ?_
  rintro e W5 ⟨rfl, hb⟩
  obtain ⟨hc, hfz⟩ := bcell hb
  replace r0 := (hc _ _ q0).trans r0
  replace r1 := (hc _ _ q0).trans r1
  replace f0 := (hfz _ _ q0).trans f0
  replace f1 := (hfz _ _ q0).trans f1
  replace q0 := Nat.lt_of_lt_of_le q0 hb.size
  replace hw0 := below_step' hw0 hb
  clear hc hfz
  clear hb
  go_wp2_with fail
  exact bodyPost_ret (v := .tuple #[.agg #[.int .i64 (Wd.told (Wd.sumTo (qAt l) l.length)).n, .int .i64 (Wd.told (Wd.sumTo (qAt l) l.length)).d], .int .i64 (Wd.told (Wd.sumTo (qAt l) l.length)).e]) (by simp [results, Tryz.results22, go_sem, r0, r1, q0]) rfl
    ⟨rfl, hw0.grown (set2_grown _ _ _ _) hw0.size (fun k hk => by injection hk with hk; omega)⟩
theorem psum_any (A : Option Addr) (cap : Nat) (l : List (Int × Int)) (w : World) (h : Rs w w.heap.size A l) (hcp : l.length ≤ cap) (hm : cap ≤ 9223372036854775807) (hT : Tab w) :
    Calls Tryz.prog 22 #[.slice A l.length cap] w fun e w' => TolR w (tsumT l) e w' := by
  unfold tsumT
  by_cases hl : 64 < l.length
  · rw [if_pos hl]; exact psum_long A cap l w h hcp hm hT hl
  · rw [if_neg hl]
    by_cases hj : Oks l
    · rw [if_pos hj]; exact psum_ok A cap l w h hcp hm hT hl hj
    · rw [if_neg hj]; exact psum_bad A cap l w h hcp hm hT hl hj

end Go.Proofs.YtpjgoogeokbaaaaGreatDoor
/- The program: the product of a list. -/
namespace Go.Proofs.YtpjgoogeokbaaaaGreatDoor
open Go.RowKit

set_option maxRecDepth 100000 in
set_option maxHeartbeats 16000000 in
theorem pprod_long (A : Option Addr) (cap : Nat) (l : List (Int × Int)) (w : World) (h : Rs w w.heap.size A l) (hcp : l.length ≤ cap) (hm : cap ≤ 9223372036854775807) (hT : Tab w) (hl : 64 < l.length) :
    Calls Tryz.prog 24 #[.slice A l.length cap] w fun e w' => TolR w ⟨0, 0, 3⟩ e w' := by
  have HV : Hid ((3 : Int) = lstE 1 (fun _ => l)) := hide (by unfold lstE; rw [if_pos ⟨0, by omega, hl⟩])
  have HT := hide hT; have HR0 := hide (And.intro h (And.intro hcp hm))
  clear hT h hl 
  go_enter Tryz.func24, Tryz.ntmps24
  go_upto_region 1 with fail
  obtain ⟨n0, hsz, hw0⟩ := one_new w (.cells #[.int .i64 0, .int .i64 0] 23)
  generalize w.alloc (.cells #[.int .i64 0, .int .i64 0] 23) = W0 at *
  have r0 : W0.cell? ⟨w.heap.size, 0, none⟩ = some (.int .i64 0) := cells_of n0 0
  have r1 : W0.cell? ⟨w.heap.size, 1, none⟩ = some (.int .i64 0) := cells_of n0 1
  have f0 := unfrozen_of n0 0; have f1 := unfrozen_of n0 1
  have q0 := lt_of_block n0
  clear n0 hsz
  go_wp2_with fail
  have hnew := heap_alloc_new W0 (.cells #[.slice A l.length cap] 35)
  have hb := below_alloc (Below.refl W0.heap.size W0) (.cells #[.slice A l.length cap] 35)
  have hlt0 := lt_of_block hnew
  obtain ⟨hc, hfz⟩ := bcell hb
  replace r0 := (hc _ _ q0).trans r0
  replace r1 := (hc _ _ q0).trans r1
  replace f0 := (hfz _ _ q0).trans f0
  replace f1 := (hfz _ _ q0).trans f1
  replace q0 := Nat.lt_of_lt_of_le q0 hb.size
  replace hw0 := below_step' hw0 hb
  clear hc hfz
  refine (liste_any W0.heap.size 1 (fun _ => A) (fun _ => cap) (fun _ => l) _ (fun j hj => by rcases (show j = 0 by omega) with rfl; exact cells_of hnew 0) hlt0 (by omega) ((unhide HT).below hw0) (fun j hj => ⟨((unhide HR0).1.below hw0).up hw0.size, (unhide HR0).2.1, (unhide HR0).2.2⟩) 3 (unhide HV)).mono ?_
  rintro e W2 ⟨rfl, hb2⟩
  clear hnew hlt0 hb
  have hb := hb2
  clear hb2
  obtain ⟨hc, hfz⟩ := bcell hb
  replace r0 := (hc _ _ q0).trans r0
  replace r1 := (hc _ _ q0).trans r1
  replace f0 := (hfz _ _ q0).trans f0
  replace f1 := (hfz _ _ q0).trans f1
  replace q0 := Nat.lt_of_lt_of_le q0 hb.size
  replace hw0 := below_step' hw0 hb
  clear hc hfz
  clear hb
  go_wp2_with fail
  exact bodyPost_ret (v := .tuple #[.agg #[.int .i64 0, .int .i64 0], .int .i64 3]) (by simp [results, Tryz.results24, go_sem, r0, r1, q0]) rfl
    ⟨rfl, hw0.grown (set2_grown _ _ _ _) hw0.size (fun k hk => by injection hk with hk; omega)⟩
set_option maxRecDepth 100000 in
set_option maxHeartbeats 16000000 in
theorem pprod_bad (A : Option Addr) (cap : Nat) (l : List (Int × Int)) (w : World) (h : Rs w w.heap.size A l) (hcp : l.length ≤ cap) (hm : cap ≤ 9223372036854775807) (hT : Tab w) (hl : ¬ 64 < l.length) (hj : ¬ Oks l) :
    Calls Tryz.prog 24 #[.slice A l.length cap] w fun e w' => TolR w ⟨0, 0, 1⟩ e w' := by
  have HV : Hid ((1 : Int) = lstE 1 (fun _ => l)) := hide (by unfold lstE; rw [if_neg (fun ⟨_, _, h⟩ => hl h), if_pos ⟨0, by omega, hj⟩])
  have HT := hide hT; have HR0 := hide (And.intro h (And.intro hcp hm))
  clear hT h hl hj
  go_enter Tryz.func24, Tryz.ntmps24
  go_upto_region 1 with fail
  obtain ⟨n0, hsz, hw0⟩ := one_new w (.cells #[.int .i64 0, .int .i64 0] 23)
  generalize w.alloc (.cells #[.int .i64 0, .int .i64 0] 23) = W0 at *
  have r0 : W0.cell? ⟨w.heap.size, 0, none⟩ = some (.int .i64 0) := cells_of n0 0
  have r1 : W0.cell? ⟨w.heap.size, 1, none⟩ = some (.int .i64 0) := cells_of n0 1
  have f0 := unfrozen_of n0 0; have f1 := unfrozen_of n0 1
  have q0 := lt_of_block n0
  clear n0 hsz
  go_wp2_with fail
  have hnew := heap_alloc_new W0 (.cells #[.slice A l.length cap] 35)
  have hb := below_alloc (Below.refl W0.heap.size W0) (.cells #[.slice A l.length cap] 35)
  have hlt0 := lt_of_block hnew
  obtain ⟨hc, hfz⟩ := bcell hb
  replace r0 := (hc _ _ q0).trans r0
  replace r1 := (hc _ _ q0).trans r1
  replace f0 := (hfz _ _ q0).trans f0
  replace f1 := (hfz _ _ q0).trans f1
  replace q0 := Nat.lt_of_lt_of_le q0 hb.size
  replace hw0 := below_step' hw0 hb
  clear hc hfz
  refine (liste_any W0.heap.size 1 (fun _ => A) (fun _ => cap) (fun _ => l) _ (fun j hj => by rcases (show j = 0 by omega) with rfl; exact cells_of hnew 0) hlt0 (by omega) ((unhide HT).below hw0) (fun j hj => ⟨((unhide HR0).1.below hw0).up hw0.size, (unhide HR0).2.1, (unhide HR0).2.2⟩) 1 (unhide HV)).mono ?_
  rintro e W2 ⟨rfl, hb2⟩
  clear hnew hlt0 hb
  have hb := hb2
  clear hb2
  obtain ⟨hc, hfz⟩ := bcell hb
  replace r0 := (hc _ _ q0).trans r0
  replace r1 := (hc _ _ q0).trans r1
  replace f0 := (hfz _ _ q0).trans f0
  replace f1 := (hfz _ _ q0).trans f1
  replace q0 := Nat.lt_of_lt_of_le q0 hb.size
  replace hw0 := below_step' hw0 hb
  clear hc hfz
  clear hb
  go_wp2_with fail
  exact bodyPost_ret (v := .tuple #[.agg #[.int .i64 0, .int .i64 0], .int .i64 1]) (by simp [results, Tryz.results24, go_sem, r0, r1, q0]) rfl
    ⟨rfl, hw0.grown (set2_grown _ _ _ _) hw0.size (fun k hk => by injection hk with hk; omega)⟩
set_option maxRecDepth 100000 in
set_option maxHeartbeats 16000000 in
theorem pprod_ok (A : Option Addr) (cap : Nat) (l : List (Int × Int)) (w : World) (h : Rs w w.heap.size A l) (hcp : l.length ≤ cap) (hm : cap ≤ 9223372036854775807) (hT : Tab w) (hl : ¬ 64 < l.length) (hj : Oks l) :
    Calls Tryz.prog 24 #[.slice A l.length cap] w fun e w' => TolR w (Wd.told (Wd.prodTo (qAt l) l.length)) e w' := by
  have HV : Hid ((0 : Int) = lstE 1 (fun _ => l)) := hide (by unfold lstE; rw [if_neg (fun ⟨_, _, h⟩ => hl h), if_neg (fun ⟨_, _, h⟩ => h hj)])
  have HR0 := hide (And.intro h (And.intro hcp hm))
  have HJ := hide hj; have HRS := hide h; have HT := hide hT
  obtain ⟨m, hmm⟩ : ∃ m, m = l.length := ⟨_, rfl⟩
  have HM := Lib.hid hmm
  have hLL := hcp
  have HSZ : Hid (∀ i, i ≤ m → SzQ 200 (Wd.prodTo (qAt l) i)) := fun i hi => Wd.SzQ.mono'' B64_pos (Wd.szq_prod B64_pos i (fun k hk => okR_sz (hj k (by omega)))) (by omega)
  have HO := hide (fun W => rwhole_any 1 W (by omega) (by omega))
  clear hj h hT
  go_enter Tryz.func24, Tryz.ntmps24
  go_upto_region 1 with fail
  obtain ⟨n0, hsz, hw0⟩ := one_new w (.cells #[.int .i64 0, .int .i64 0] 23)
  generalize w.alloc (.cells #[.int .i64 0, .int .i64 0] 23) = W0 at *
  have r0 : W0.cell? ⟨w.heap.size, 0, none⟩ = some (.int .i64 0) := cells_of n0 0
  have r1 : W0.cell? ⟨w.heap.size, 1, none⟩ = some (.int .i64 0) := cells_of n0 1
  have f0 := unfrozen_of n0 0; have f1 := unfrozen_of n0 1
  have q0 := lt_of_block n0
  clear n0 hsz
  go_wp2_with fail
  have hnew := heap_alloc_new W0 (.cells #[.slice A l.length cap] 35)
  have hb := below_alloc (Below.refl W0.heap.size W0) (.cells #[.slice A l.length cap] 35)
  have hlt0 := lt_of_block hnew
  obtain ⟨hc, hfz⟩ := bcell hb
  replace r0 := (hc _ _ q0).trans r0
  replace r1 := (hc _ _ q0).trans r1
  replace f0 := (hfz _ _ q0).trans f0
  replace f1 := (hfz _ _ q0).trans f1
  replace q0 := Nat.lt_of_lt_of_le q0 hb.size
  replace hw0 := below_step' hw0 hb
  clear hc hfz
  refine (liste_any W0.heap.size 1 (fun _ => A) (fun _ => cap) (fun _ => l) _ (fun j hj => by rcases (show j = 0 by omega) with rfl; exact cells_of hnew 0) hlt0 (by omega) ((unhide HT).below hw0) (fun j hj => ⟨((unhide HR0).1.below hw0).up hw0.size, (unhide HR0).2.1, (unhide HR0).2.2⟩) 0 (unhide HV)).mono ?_
  rintro e W2 ⟨rfl, hb2⟩
  clear hnew hlt0 hb
  have hb := hb2
  clear hb2
  obtain ⟨hc, hfz⟩ := bcell hb
  replace r0 := (hc _ _ q0).trans r0
  replace r1 := (hc _ _ q0).trans r1
  replace f0 := (hfz _ _ q0).trans f0
  replace f1 := (hfz _ _ q0).trans f1
  replace q0 := Nat.lt_of_lt_of_le q0 hb.size
  replace hw0 := below_step' hw0 hb
  clear hc hfz
  clear hb
  clear HV
  rw [← hmm] at hl hcp ⊢
  clear hmm hLL
  go_wp2_with fail
  refine ((unhide HO) _).mono ?_
  rintro e W6 ⟨s1a, neg1a, A1a, c1a, l1a, s1b, neg1b, A1b, c1b, l1b, rfl, g1, g2, hb⟩
  have hbx := boxt_new ⟨g1, g2⟩
  obtain ⟨hc, hfz⟩ := bcell hb
  replace r0 := (hc _ _ q0).trans r0
  replace r1 := (hc _ _ q0).trans r1
  replace f0 := (hfz _ _ q0).trans f0
  replace f1 := (hfz _ _ q0).trans f1
  replace q0 := Nat.lt_of_lt_of_le q0 hb.size
  replace hw0 := below_step' hw0 hb
  clear hc hfz
  clear hb g1 g2
  have hb := below_alloc (Below.refl W6.heap.size W6) (.cells #[.int .i64 s1a, .bool neg1a, .slice A1a l1a.length c1a, .int .i64 s1b, .bool neg1b, .slice A1b l1b.length c1b] 63)
  go_upto_region 5 with fail
  obtain ⟨bx, hbxe⟩ : ∃ b, b = W6.heap.size := ⟨_, rfl⟩
  rw [← hbxe] at hbx ⊢
  have hbB : w.heap.size < bx := by rw [hbxe]; exact q0
  generalize W6.alloc (.cells #[.int .i64 s1a, .bool neg1a, .slice A1a l1a.length c1a, .int .i64 s1b, .bool neg1b, .slice A1b l1b.length c1b] 63) = W3 at *
  obtain ⟨hc, hfz⟩ := bcell hb
  replace r0 := (hc _ _ q0).trans r0
  replace r1 := (hc _ _ q0).trans r1
  replace f0 := (hfz _ _ q0).trans f0
  replace f1 := (hfz _ _ q0).trans f1
  replace q0 := Nat.lt_of_lt_of_le q0 hb.size
  replace hw0 := below_step' hw0 hb
  clear hc hfz
  clear hb hbxe
  have HW0 := hide hw0; have HRES := hide (And.intro (And.intro r0 r1) (And.intro (And.intro f0 f1) q0)); have HQ0 := hide q0
  have hbs := hw0.size
  clear r0 r1 f0 f1 q0 hw0
  go_wp2_with fail
  go_loopw [18] (fun iv wr => ∃ i : Nat, i ≤ m ∧ iv = .int .i64 ((i : Nat) : Int) ∧ BoxT wr bx (Wd.prodTo (qAt l) i) ∧ Hid (Below (w.heap.size + 1) W3 wr)) (fun iv _ => m - (intOf iv).toNat)
  case atStart => exact ⟨0, Nat.zero_le _, by first | rfl | go_num, hbx, hide (Below.refl _ _)⟩
  case round =>
    obtain ⟨i, hi, rfl, hbq, hgr⟩ := hrel
    have hwr : Below w.heap.size w wr := (unhide HW0).trans ((unhide hgr).mono (by omega))
    have hq0 := unhide HQ0
    have hgs := (unhide hgr).size
    by_cases hlt : i < m
    · have hil : i < l.length := by rw [← HM.out]; exact hlt
      obtain ⟨b, off, rfl, hbb, hcell⟩ := (unhide HRS) (by omega)
      have k0 := (hwr.cell (p := ⟨b, off + i * 2, none⟩) hbb).trans (hcell i hil).1
      have k1 := (hwr.cell (p := ⟨b, off + i * 2 + 1, none⟩) hbb).trans (hcell i hil).2
      have oki := (unhide HJ) i hil
      have zs1 := (unhide HSZ) i (by omega)
      have zs2 : SzQ 200 (qAt l i) := (okR_sz oki).mono (by omega)
      have hnext : Wd.prodTo (qAt l) (i + 1) = Wd.prodTo (qAt l) i * qAt l i := rfl
      have HNX := Lib.hid hnext
      have hofi : ∀ W, Calls Tryz.prog 50 #[.agg #[.int .i64 (rn l i), .int .i64 (rd l i)]] W fun e w' => PairR W (qAt l i).num ((qAt l i).den : Int) e w' := fun W => by
        have h := rof_any (rn l i) (rd l i) W (okR_int oki).1 (okR_int oki).2.1 (okR_int oki).2.2.1 (okR_int oki).2.2.2.1
        have e := Wd.qR_ok oki
        rw [show (qAt l i).num = rn l i from e.1, show ((qAt l i).den : Int) = rd l i from e.2]
        exact h
      have HOFi := hide hofi
      have dl1 : decide ((i : Int) < (m : Int)) = true := decide_eq_true (by omega)
      have dl2 : decide (i < m) = true := decide_eq_true hlt
      obtain ⟨nn, hnn⟩ : ∃ z, z = rn l i := ⟨_, rfl⟩
      obtain ⟨dd, hdd⟩ : ∃ z, z = rd l i := ⟨_, rfl⟩
      rw [← hnn] at k0 HOFi
      rw [← hdd] at k1 HOFi
      obtain ⟨x, hx⟩ : ∃ x, x = Wd.prodTo (qAt l) i := ⟨_, rfl⟩
      obtain ⟨y, hy⟩ : ∃ y, y = qAt l i := ⟨_, rfl⟩
      rw [← hx] at hbq zs1 HNX
      rw [← hy] at zs2 HNX HOFi
      clear hcell oki hnext hofi hnn hdd hx hy hil
      go_upto_region 8 with fail
      obtain ⟨n7, hsz7, hw7⟩ := one_new wr (.cells #[.int .i64 nn, .int .i64 dd] 23)
      have hbv := boxt_below hbq hw7
      have hgv := (unhide hgr).trans (hw7.mono (by omega))
      have HWV := hwr.trans (hw7.mono (by have := hwr.size; omega))
      generalize wr.alloc (.cells #[.int .i64 nn, .int .i64 dd] 23) = V at *
      have k7_0 : V.cell? ⟨wr.heap.size, 0, none⟩ = some (.int .i64 nn) := cells_of n7 0
      have k7_1 : V.cell? ⟨wr.heap.size, 1, none⟩ = some (.int .i64 dd) := cells_of n7 1
      have q7 := lt_of_block n7
      have hT' : Tab V := (unhide HT).below HWV
      have HAD := hide (opq_mul hT' x y zs1 zs2 (by unfold lim; omega)).1
      have hgs7 := hgv.size
      have HGV := hide hgv
      obtain ⟨s1a, neg1a, A1a, c1a, l1a, s1b, neg1b, A1b, c1b, l1b, j1, f1'⟩ := hbv
      have kx_0 : V.cell? ⟨bx, 0, none⟩ = some (.int .i64 s1a) := cells_of j1 0
      have ux_0 := unfrozen_of j1 0
      have kx_1 : V.cell? ⟨bx, 1, none⟩ = some (.bool neg1a) := cells_of j1 1
      have ux_1 := unfrozen_of j1 1
      have kx_2 : V.cell? ⟨bx, 2, none⟩ = some (.slice A1a l1a.length c1a) := cells_of j1 2
      have ux_2 := unfrozen_of j1 2
      have kx_3 : V.cell? ⟨bx, 3, none⟩ = some (.int .i64 s1b) := cells_of j1 3
      have ux_3 := unfrozen_of j1 3
      have kx_4 : V.cell? ⟨bx, 4, none⟩ = some (.bool neg1b) := cells_of j1 4
      have ux_4 := unfrozen_of j1 4
      have kx_5 : V.cell? ⟨bx, 5, none⟩ = some (.slice A1b l1b.length c1b) := cells_of j1 5
      have ux_5 := unfrozen_of j1 5
      have qx := lt_of_block j1
      have F1 := hide f1'; have J1 := hide j1
      clear f1' j1 zs1 zs2 hT' hgv hgr hbq n7 hsz7 hw7 k0 k1 HWV hwr
      go_region_with (first | (go_at_call 50; refine ((unhide HOFi) _).mono ?_; rintro e w' ⟨s3a, neg3a, A3a, c3a, l3a, s3b, neg3b, A3b, c3b, l3b, rfl, g1, g2, hb3⟩; have iq3 := IQ.mk g1 g2; clear g1 g2; have hbw := below_step (w := V) (by (first | with_reducible assumption | (repeat (first | with_reducible exact Below.refl _ _ | with_reducible assumption | refine Below.drew ?_ | (refine Below.alloc ?_ (by simp <;> omega) _) | refine belowN ?_ _)))) hb3; obtain ⟨hc, hfz⟩ := bcell hbw) | (go_at_call 71; refine ((unhide HAD) s1a neg1a A1a c1a l1a s1b neg1b A1b c1b l1b s3a neg3a A3a c3a l3a s3b neg3b A3b c3b l3b _ (by (first | with_reducible assumption | (repeat (first | with_reducible exact Below.refl _ _ | with_reducible assumption | refine Below.drew ?_ | (refine Below.alloc ?_ (by simp <;> omega) _) | refine belowN ?_ _)))) ((unhide F1).below (by (first | with_reducible assumption | (repeat (first | with_reducible exact Below.refl _ _ | with_reducible assumption | refine Below.drew ?_ | (refine Below.alloc ?_ (by simp <;> omega) _) | refine belowN ?_ _))))).n ((unhide F1).below (by (first | with_reducible assumption | (repeat (first | with_reducible exact Below.refl _ _ | with_reducible assumption | refine Below.drew ?_ | (refine Below.alloc ?_ (by simp <;> omega) _) | refine belowN ?_ _))))).d (IQ.n (q := y) (by first | exact iq3 | exact IQ.below iq3 (Below.drew (Below.refl _ _)))) (IQ.d (q := y) (by first | exact iq3 | exact IQ.below iq3 (Below.drew (Below.refl _ _))))).mono ?_; rintro e w' ⟨s5a, neg5a, A5a, c5a, l5a, s5b, neg5b, A5b, c5b, l5b, rfl, g1, g2, hb5⟩; have iq5 := IQ.mk g1 g2; clear g1 g2; have hbw := below_step (w := V) (by (first | with_reducible assumption | (repeat (first | with_reducible exact Below.refl _ _ | with_reducible assumption | refine Below.drew ?_ | (refine Below.alloc ?_ (by simp <;> omega) _) | refine belowN ?_ _)))) hb5; obtain ⟨hc, hfz⟩ := bcell hbw))
      all_goals
        have hst := boxt_store (boxt_below ⟨_, _, _, _, _, _, _, _, _, _, unhide J1, unhide F1⟩ hbw) iq5 ((unhide HGV).trans (hbw.mono (by omega))) (by omega) (by have := hbw.size; omega)
        clear iq5
        go_wp2_with fail
        go_roundw
        case rel => exact ⟨i + 1, by omega, by first | rfl | go_num, HNX.out ▸ hst.1, hide hst.2⟩
        case measure => simp [intOf] <;> omega
    · obtain rfl : i = m := by omega
      have dl1 : decide ((i : Int) < (i : Int)) = false := decide_eq_false (by omega)
      have dl2 : decide (i < i) = false := decide_eq_false (by omega)
      obtain ⟨⟨r0, r1⟩, ⟨f0, f1⟩, q0⟩ := unhide HRES
      have hblk := (unhide hgr).block w.heap.size (by omega)
      replace r0 := (World.cell?_of_block (a := ⟨w.heap.size, 0, none⟩) hblk).trans r0
      replace r1 := (World.cell?_of_block (a := ⟨w.heap.size, 1, none⟩) hblk).trans r1
      replace f0 := (World.frozen?_of_block (a := ⟨w.heap.size, 0, none⟩) hblk).trans f0
      replace f1 := (World.frozen?_of_block (a := ⟨w.heap.size, 1, none⟩) hblk).trans f1
      replace q0 := Nat.lt_of_lt_of_le q0 hgs
      obtain ⟨s1a, neg1a, A1a, c1a, l1a, s1b, neg1b, A1b, c1b, l1b, j1, f1'⟩ := hbq
      have kx_0 : wr.cell? ⟨bx, 0, none⟩ = some (.int .i64 s1a) := cells_of j1 0
      have ux_0 := unfrozen_of j1 0
      have kx_1 : wr.cell? ⟨bx, 1, none⟩ = some (.bool neg1a) := cells_of j1 1
      have ux_1 := unfrozen_of j1 1
      have kx_2 : wr.cell? ⟨bx, 2, none⟩ = some (.slice A1a l1a.length c1a) := cells_of j1 2
      have ux_2 := unfrozen_of j1 2
      have kx_3 : wr.cell? ⟨bx, 3, none⟩ = some (.int .i64 s1b) := cells_of j1 3
      have ux_3 := unfrozen_of j1 3
      have kx_4 : wr.cell? ⟨bx, 4, none⟩ = some (.bool neg1b) := cells_of j1 4
      have ux_4 := unfrozen_of j1 4
      have kx_5 : wr.cell? ⟨bx, 5, none⟩ = some (.slice A1b l1b.length c1b) := cells_of j1 5
      have ux_5 := unfrozen_of j1 5
      have qx := lt_of_block j1
      have HRAT := hide (rrat_any s1a neg1a A1a c1a l1a _ s1b neg1b A1b c1b l1b _ wr f1'.n f1'.d _ rfl rfl)
      have hw0 := hwr
      clear f1' j1 hblk hwr hgr HRES HW0 HSZ HJ HRS
      go_wp2_with fail
      refine (unhide HRAT).mono ?_
      rintro e W5 ⟨rfl, hb⟩
      obtain ⟨hc, hfz⟩ := bcell hb
      replace r0 := (hc _ _ q0).trans r0
      replace r1 := (hc _ _ q0).trans r1
      replace f0 := (hfz _ _ q0).trans f0
      replace f1 := (hfz _ _ q0).trans f1
      replace q0 := Nat.lt_of_lt_of_le q0 hb.size
      replace hw0 := below_step' hw0 hb
      clear hc hfz
      clear hb
      go_wp2_with fail
      exact bodyPost_ret (v := .tuple #[.agg #[.int .i64 (Wd.told (Wd.prodTo (qAt l) i)).n, .int .i64 (Wd.told (Wd.prodTo (qAt l) i)).d], .int .i64 (Wd.told (Wd.prodTo (qAt l) i)).e]) (by simp [results, Tryz.results24, go_sem, r0, r1, q0]) rfl
        ⟨by first | rfl | rw [HM.out], hw0.grown (set2_grown _ _ _ _) hw0.size (fun k hk => by injection hk with hk; omega)⟩
theorem pprod_any (A : Option Addr) (cap : Nat) (l : List (Int × Int)) (w : World) (h : Rs w w.heap.size A l) (hcp : l.length ≤ cap) (hm : cap ≤ 9223372036854775807) (hT : Tab w) :
    Calls Tryz.prog 24 #[.slice A l.length cap] w fun e w' => TolR w (tprodT l) e w' := by
  unfold tprodT
  by_cases hl : 64 < l.length
  · rw [if_pos hl]; exact pprod_long A cap l w h hcp hm hT hl
  · rw [if_neg hl]
    by_cases hj : Oks l
    · rw [if_pos hj]; exact pprod_ok A cap l w h hcp hm hT hl hj
    · rw [if_neg hj]; exact pprod_bad A cap l w h hcp hm hT hl hj

end Go.Proofs.YtpjgoogeokbaaaaGreatDoor
/- The program: the sum of products. -/
namespace Go.Proofs.YtpjgoogeokbaaaaGreatDoor
open Go.RowKit

/-- Block pb holds the pairs of the first i of m. -/
def PP (w : World) (pb m i : Nat) (l l' : List (Int × Int)) : Prop := ∃ cs : Array Value, w.heap[pb]? = some (.cells cs 88 (0, 0)) ∧ cs.size = m * 4 ∧ (∀ o, o < m * 4 → ∃ z : Int, cs[o]? = some (.int .i64 z)) ∧ ∀ j, j < i → cs[j * 4]? = some (.int .i64 (rn l j)) ∧ cs[j * 4 + 1]? = some (.int .i64 (rd l j)) ∧ cs[j * 4 + 2]? = some (.int .i64 (rn l' j)) ∧ cs[j * 4 + 3]? = some (.int .i64 (rd l' j))
theorem PP.keep {w w' : World} {pb m i : Nat} {l l' : List (Int × Int)} (h : PP w pb m i l l') (hb : w'.heap[pb]? = w.heap[pb]?) : PP w' pb m i l l' := by
  obtain ⟨cs, h1, h2⟩ := h
  exact ⟨cs, hb.trans h1, h2⟩
theorem PP.lt {w : World} {pb m i : Nat} {l l' : List (Int × Int)} (h : PP w pb m i l l') : pb < w.heap.size := by
  obtain ⟨cs, h1, _⟩ := h
  exact lt_of_block h1
theorem PP.at {w : World} {pb m i : Nat} {l l' : List (Int × Int)} (h : PP w pb m i l l') (j : Nat) (hj : j < i) : w.cell? ⟨pb, j * 4, none⟩ = some (.int .i64 (rn l j)) ∧ w.cell? ⟨pb, j * 4 + 1, none⟩ = some (.int .i64 (rd l j)) ∧ w.cell? ⟨pb, j * 4 + 2, none⟩ = some (.int .i64 (rn l' j)) ∧ w.cell? ⟨pb, j * 4 + 3, none⟩ = some (.int .i64 (rd l' j)) := by
  obtain ⟨cs, h1, _, _, h2⟩ := h
  obtain ⟨a, b, c, d⟩ := h2 j hj
  exact ⟨(cells_of h1 _).trans a, (cells_of h1 _).trans b, (cells_of h1 _).trans c, (cells_of h1 _).trans d⟩
set_option maxRecDepth 100000 in
set_option maxHeartbeats 16000000 in
theorem prodp_any (n1 d1 n2 d2 : Int) (w : World) (hT : Tab w) (o1 : Wd.okR n1 d1) (o2 : Wd.okR n2 d2) :
    Calls Tryz.prog 74 #[.agg #[.int .i64 n1, .int .i64 d1, .int .i64 n2, .int .i64 d2]] w fun e w' => PairR w (Wd.qR n1 d1 * Wd.qR n2 d2).num ((Wd.qR n1 d1 * Wd.qR n2 d2).den : Int) e w' := by
  have hof1 : ∀ W, Calls Tryz.prog 50 #[.agg #[.int .i64 n1, .int .i64 d1]] W fun e w' => PairR W (Wd.qR n1 d1).num ((Wd.qR n1 d1).den : Int) e w' := fun W => by
    have h := rof_any n1 d1 W (okR_int o1).1 (okR_int o1).2.1 (okR_int o1).2.2.1 (okR_int o1).2.2.2.1
    have e := Wd.qR_ok o1
    rw [e.1, e.2]
    exact h
  have HOF1 := hide hof1
  have hof2 : ∀ W, Calls Tryz.prog 50 #[.agg #[.int .i64 n2, .int .i64 d2]] W fun e w' => PairR W (Wd.qR n2 d2).num ((Wd.qR n2 d2).den : Int) e w' := fun W => by
    have h := rof_any n2 d2 W (okR_int o2).1 (okR_int o2).2.1 (okR_int o2).2.2.1 (okR_int o2).2.2.2.1
    have e := Wd.qR_ok o2
    rw [e.1, e.2]
    exact h
  have HOF2 := hide hof2
  obtain ⟨x, hx⟩ : ∃ z, z = Wd.qR n1 d1 := ⟨_, rfl⟩
  obtain ⟨y, hy⟩ : ∃ z, z = Wd.qR n2 d2 := ⟨_, rfl⟩
  have HMU := hide (fun W (hW : Below w.heap.size w W) => (opq_mul (hT.below hW) _ _ (okR_sz o1) (okR_sz o2) (by unfold lim; omega)).1)
  rw [← hx] at HOF1 HMU ⊢
  rw [← hy] at HOF2 HMU ⊢
  clear hof1 hof2 hx hy hT o1 o2
  go_enter Tryz.func74, Tryz.ntmps74
  go_upto_region 1 with fail
  obtain ⟨n0, nr, hsz, hw0⟩ := two_new w (.cells #[.int .i64 n1, .int .i64 d1, .int .i64 n2, .int .i64 d2] 88) (.cells #[.int .i64 0, .bool false, .slice none 0 0, .int .i64 0, .bool false, .slice none 0 0] 63)
  generalize ((w.alloc (.cells #[.int .i64 n1, .int .i64 d1, .int .i64 n2, .int .i64 d2] 88)).alloc (.cells #[.int .i64 0, .bool false, .slice none 0 0, .int .i64 0, .bool false, .slice none 0 0] 63)) = V at *
  have k0 : V.cell? ⟨w.heap.size, 0, none⟩ = some (.int .i64 n1) := cells_of n0 0
  have k1 : V.cell? ⟨w.heap.size, 1, none⟩ = some (.int .i64 d1) := cells_of n0 1
  have k2 : V.cell? ⟨w.heap.size, 2, none⟩ = some (.int .i64 n2) := cells_of n0 2
  have k3 : V.cell? ⟨w.heap.size, 3, none⟩ = some (.int .i64 d2) := cells_of n0 3
  have r0 : V.cell? ⟨w.heap.size + 1, 0, none⟩ = some (.int .i64 0) := cells_of nr 0
  have fr0 := unfrozen_of nr 0
  have r1 : V.cell? ⟨w.heap.size + 1, 1, none⟩ = some (.bool false) := cells_of nr 1
  have fr1 := unfrozen_of nr 1
  have r2 : V.cell? ⟨w.heap.size + 1, 2, none⟩ = some (.slice none 0 0) := cells_of nr 2
  have fr2 := unfrozen_of nr 2
  have r3 : V.cell? ⟨w.heap.size + 1, 3, none⟩ = some (.int .i64 0) := cells_of nr 3
  have fr3 := unfrozen_of nr 3
  have r4 : V.cell? ⟨w.heap.size + 1, 4, none⟩ = some (.bool false) := cells_of nr 4
  have fr4 := unfrozen_of nr 4
  have r5 : V.cell? ⟨w.heap.size + 1, 5, none⟩ = some (.slice none 0 0) := cells_of nr 5
  have fr5 := unfrozen_of nr 5
  have q0 := lt_of_block n0
  have qr := lt_of_block nr
  have NR := hide nr; have HW0 := hide hw0
  have HMV := hide ((unhide HMU) V hw0)
  clear n0 nr hsz hw0 HMU
  go_region_with (first | (go_at_call_of 50 (Value.agg #[.int .i64 n1, .int .i64 d1]); refine ((unhide HOF1) _).mono ?_; rintro e w' ⟨s3a, neg3a, A3a, c3a, l3a, s3b, neg3b, A3b, c3b, l3b, rfl, g1, g2, hb3⟩; (try (first | replace iq5 := IQ.below iq5 hb3 | replace iq5 := (IQ.below iq5 (Below.drew (Below.refl _ _))).below hb3)); have iq3 := IQ.mk g1 g2; clear g1 g2; have hbw := below_step (w := V) (by (first | with_reducible assumption | (repeat (first | with_reducible exact Below.refl _ _ | with_reducible assumption | refine Below.drew ?_ | (refine Below.alloc ?_ (by simp <;> omega) _) | refine belowN ?_ _)))) hb3; obtain ⟨hc, hfz⟩ := bcell hbw) | (go_at_call_of 50 (Value.agg #[.int .i64 n2, .int .i64 d2]); refine ((unhide HOF2) _).mono ?_; rintro e w' ⟨s5a, neg5a, A5a, c5a, l5a, s5b, neg5b, A5b, c5b, l5b, rfl, g1, g2, hb5⟩; (try (first | replace iq3 := IQ.below iq3 hb5 | replace iq3 := (IQ.below iq3 (Below.drew (Below.refl _ _))).below hb5)); have iq5 := IQ.mk g1 g2; clear g1 g2; have hbw := below_step (w := V) (by (first | with_reducible assumption | (repeat (first | with_reducible exact Below.refl _ _ | with_reducible assumption | refine Below.drew ?_ | (refine Below.alloc ?_ (by simp <;> omega) _) | refine belowN ?_ _)))) hb5; obtain ⟨hc, hfz⟩ := bcell hbw) | (go_at_call 71; refine ((unhide HMV) s3a neg3a A3a c3a l3a s3b neg3b A3b c3b l3b s5a neg5a A5a c5a l5a s5b neg5b A5b c5b l5b _ (by (first | with_reducible assumption | (repeat (first | with_reducible exact Below.refl _ _ | with_reducible assumption | refine Below.drew ?_ | (refine Below.alloc ?_ (by simp <;> omega) _) | refine belowN ?_ _)))) (IQ.n (q := x) (by first | exact iq3 | exact IQ.below iq3 (Below.drew (Below.refl _ _)))) (IQ.d (q := x) (by first | exact iq3 | exact IQ.below iq3 (Below.drew (Below.refl _ _)))) (IQ.n (q := y) (by first | exact iq5 | exact IQ.below iq5 (Below.drew (Below.refl _ _)))) (IQ.d (q := y) (by first | exact iq5 | exact IQ.below iq5 (Below.drew (Below.refl _ _))))).mono ?_; rintro e w' ⟨s7a, neg7a, A7a, c7a, l7a, s7b, neg7b, A7b, c7b, l7b, rfl, g1, g2, hb7⟩; have iq7 := IQ.mk g1 g2; clear g1 g2; have hbw := below_step (w := V) (by (first | with_reducible assumption | (repeat (first | with_reducible exact Below.refl _ _ | with_reducible assumption | refine Below.drew ?_ | (refine Below.alloc ?_ (by simp <;> omega) _) | refine belowN ?_ _)))) hb7; obtain ⟨hc, hfz⟩ := bcell hbw))
  all_goals
    have jr := (hbw.block _ qr).trans (unhide NR)
    have HBLK := Lib.hid jr
    have hw9 := (unhide HW0).trans (hbw.mono (by have := (unhide HW0).size; omega))
    have HW9 := hide hw9
    have IQ7 := hide iq7
    clear jr hw9 iq7
    go_wp2_with fail
    exact bodyPost_ret (v := (Value.agg #[.int .i64 s7a, .bool neg7a, .slice A7a l7a.length c7a, .int .i64 s7b, .bool neg7b, .slice A7b l7b.length c7b])) (by simp [results, Tryz.results74, go_sem, hc, r0, r1, r2, r3, r4, r5, qr]) rfl
      ⟨s7a, neg7a, A7a, c7a, l7a, s7b, neg7b, A7b, c7b, l7b, rfl, (unhide IQ7).n.upto HBLK.out (noWord6 _ _ _ _ _ _ _ _ _ _) (set6_grown _ _ _ _ _ _ _ _), (unhide IQ7).d.upto HBLK.out (noWord6 _ _ _ _ _ _ _ _ _ _) (set6_grown _ _ _ _ _ _ _ _), (unhide HW9).grown (set6_grown _ _ _ _ _ _ _ _) (unhide HW9).size (fun k hk => by injection hk with hk; omega)⟩
set_option maxRecDepth 100000 in
set_option maxHeartbeats 16000000 in
theorem totalp_any (pb : Nat) (l l' : List (Int × Int)) (w : World) (hp : PP w pb l.length l.length l l') (hl : ¬ 64 < l.length) (hj : Oks l) (hj' : Oks l') (hf : l.length = l'.length) (hT : Tab w) :
    Calls Tryz.prog 73 #[.slice (some ⟨pb, 0, none⟩) l.length l.length, Value.func (Fn.func 74) #[] #[]] w fun e w' => PairR w (Wd.sumTo (qMul l l') l.length).num ((Wd.sumTo (qMul l l') l.length).den : Int) e w' := by
  have HJ := hide hj; have HJ' := hide hj'; have HPP := hide hp; have HPB := hide hp.lt; have HT := hide hT
  obtain ⟨m, hmm⟩ : ∃ m, m = l.length := ⟨_, rfl⟩
  have HM := Lib.hid hmm
  have HM' := Lib.hid (hmm.trans hf)
  rw [← hmm] at hl ⊢
  have HSZ : Hid (∀ i, i ≤ m → SzQ 400 (Wd.sumTo (qMul l l') i)) := fun i hi => Wd.SzQ.mono'' B64_pos (Wd.szq_sum B64_pos i (fun k hk => Wd.szq_mul' (okR_sz (hj k (by omega))) (okR_sz (hj' k (by omega))))) (by omega)
  have HO := hide (fun W => rwhole_any 0 W (by omega) (by omega))
  clear hj hj' hp hmm hf hT
  go_enter Tryz.func73, Tryz.ntmps73
  go_upto_region 1 with fail
  obtain ⟨n0, hsz, hw0⟩ := one_new w (.cells #[.int .i64 0, .bool false, .slice none 0 0, .int .i64 0, .bool false, .slice none 0 0] 63)
  generalize w.alloc (.cells #[.int .i64 0, .bool false, .slice none 0 0, .int .i64 0, .bool false, .slice none 0 0] 63) = W0 at *
  have q0 := lt_of_block n0
  clear hsz
  go_wp2_with fail
  refine ((unhide HO) W0).mono ?_
  rintro e W1 ⟨s1a, neg1a, A1a, c1a, l1a, s1b, neg1b, A1b, c1b, l1b, rfl, g1, g2, hb⟩
  have hbx := boxt_new ⟨g1, g2⟩
  replace n0 := (hb.block _ q0).trans n0
  replace q0 := Nat.lt_of_lt_of_le q0 hb.size
  replace hw0 := below_step' hw0 hb
  clear hb g1 g2
  have hb := below_alloc (Below.refl W1.heap.size W1) (.cells #[.int .i64 s1a, .bool neg1a, .slice A1a l1a.length c1a, .int .i64 s1b, .bool neg1b, .slice A1b l1b.length c1b] 63)
  go_upto_region 2 with fail
  obtain ⟨bx, hbxe⟩ : ∃ b, b = W1.heap.size := ⟨_, rfl⟩
  rw [← hbxe] at hbx ⊢
  have hbB : w.heap.size < bx := by rw [hbxe]; exact q0
  generalize W1.alloc (.cells #[.int .i64 s1a, .bool neg1a, .slice A1a l1a.length c1a, .int .i64 s1b, .bool neg1b, .slice A1b l1b.length c1b] 63) = W3 at *
  replace n0 := (hb.block _ q0).trans n0
  replace q0 := Nat.lt_of_lt_of_le q0 hb.size
  replace hw0 := below_step' hw0 hb
  clear hb hbxe
  have HW0 := hide hw0; have N0 := hide n0; have HQ0 := hide q0
  have hbs := hw0.size
  clear n0 hw0
  go_wp2_with fail
  go_loopw [11] (fun iv wr => ∃ i : Nat, i ≤ m ∧ iv = .int .i64 ((i : Nat) : Int) ∧ BoxT wr bx (Wd.sumTo (qMul l l') i) ∧ Hid (Below (w.heap.size + 1) W3 wr)) (fun iv _ => m - (intOf iv).toNat)
  case atStart => exact ⟨0, Nat.zero_le _, by first | rfl | go_num, hbx, hide (Below.refl _ _)⟩
  case round =>
    obtain ⟨i, hi, rfl, hbq, hgr⟩ := hrel
    have hwr : Below w.heap.size w wr := (unhide HW0).trans ((unhide hgr).mono (by omega))
    have hq0 := unhide HQ0
    have hgs := (unhide hgr).size
    by_cases hlt : i < m
    · have hil : i < l.length := by rw [← HM.out]; exact hlt
      have hil' : i < l'.length := by rw [← HM'.out]; exact hlt
      have hpw := (unhide HPP).keep (hwr.block _ (unhide HPB))
      obtain ⟨k0, k1, k2, k3⟩ := hpw.at i hil
      have qpb := hpw.lt
      have oki := (unhide HJ) i hil
      have oki' := (unhide HJ') i hil'
      have zs1 := (unhide HSZ) i (by omega)
      have zs2 : SzQ 400 (qAt l i * qAt l' i) := Wd.SzQ.mono'' B64_pos (Wd.szq_mul' (okR_sz oki) (okR_sz oki')) (by omega)
      have hnext : Wd.sumTo (qMul l l') (i + 1) = Wd.sumTo (qMul l l') i + qAt l i * qAt l' i := rfl
      have HNX := Lib.hid hnext
      have hofi := fun W (hW : Tab W) => prodp_any (rn l i) (rd l i) (rn l' i) (rd l' i) W hW oki oki'
      have hqe : qAt l i * qAt l' i = Wd.qR (rn l i) (rd l i) * Wd.qR (rn l' i) (rd l' i) := rfl
      rw [← hqe] at hofi
      have HOFi := hide hofi
      have dl1 : decide ((i : Int) < (m : Int)) = true := decide_eq_true (by omega)
      have dl2 : decide (i < m) = true := decide_eq_true hlt
      obtain ⟨nn, hnn⟩ : ∃ z, z = rn l i := ⟨_, rfl⟩
      obtain ⟨dd, hdd⟩ : ∃ z, z = rd l i := ⟨_, rfl⟩
      rw [← hnn] at k0 HOFi
      rw [← hdd] at k1 HOFi
      obtain ⟨nn', hnn'⟩ : ∃ z, z = rn l' i := ⟨_, rfl⟩
      obtain ⟨dd', hdd'⟩ : ∃ z, z = rd l' i := ⟨_, rfl⟩
      rw [← hnn'] at k2 HOFi
      rw [← hdd'] at k3 HOFi
      obtain ⟨x, hx⟩ : ∃ x, x = Wd.sumTo (qMul l l') i := ⟨_, rfl⟩
      obtain ⟨y, hy⟩ : ∃ y, y = qAt l i * qAt l' i := ⟨_, rfl⟩
      rw [← hx] at hbq zs1 HNX
      rw [← hy] at zs2 HNX HOFi
      clear oki oki' hnext hofi hqe hnn hdd hnn' hdd' hx hy hil hil' hpw
      go_upto_region 5 with fail
      obtain ⟨n7, hsz7, hw7⟩ := one_new wr (.cells #[.int .i64 nn, .int .i64 dd, .int .i64 nn', .int .i64 dd'] 88)
      have hbv := boxt_below hbq hw7
      have hgv := (unhide hgr).trans (hw7.mono (by omega))
      have HWV := hwr.trans (hw7.mono (by have := hwr.size; omega))
      generalize wr.alloc (.cells #[.int .i64 nn, .int .i64 dd, .int .i64 nn', .int .i64 dd'] 88) = V at *
      have k7_0 : V.cell? ⟨wr.heap.size, 0, none⟩ = some (.int .i64 nn) := cells_of n7 0
      have k7_1 : V.cell? ⟨wr.heap.size, 1, none⟩ = some (.int .i64 dd) := cells_of n7 1
      have k7_2 : V.cell? ⟨wr.heap.size, 2, none⟩ = some (.int .i64 nn') := cells_of n7 2
      have k7_3 : V.cell? ⟨wr.heap.size, 3, none⟩ = some (.int .i64 dd') := cells_of n7 3
      have q7 := lt_of_block n7
      have hT' : Tab V := (unhide HT).below HWV
      have HTV := hide hT'
      have HAD := hide (opq_add hT' x y zs1 zs2 (by unfold lim; omega)).1
      have hgs7 := hgv.size
      have HGV := hide hgv
      obtain ⟨s1a, neg1a, A1a, c1a, l1a, s1b, neg1b, A1b, c1b, l1b, j1, f1'⟩ := hbv
      have kx_0 : V.cell? ⟨bx, 0, none⟩ = some (.int .i64 s1a) := cells_of j1 0
      have ux_0 := unfrozen_of j1 0
      have kx_1 : V.cell? ⟨bx, 1, none⟩ = some (.bool neg1a) := cells_of j1 1
      have ux_1 := unfrozen_of j1 1
      have kx_2 : V.cell? ⟨bx, 2, none⟩ = some (.slice A1a l1a.length c1a) := cells_of j1 2
      have ux_2 := unfrozen_of j1 2
      have kx_3 : V.cell? ⟨bx, 3, none⟩ = some (.int .i64 s1b) := cells_of j1 3
      have ux_3 := unfrozen_of j1 3
      have kx_4 : V.cell? ⟨bx, 4, none⟩ = some (.bool neg1b) := cells_of j1 4
      have ux_4 := unfrozen_of j1 4
      have kx_5 : V.cell? ⟨bx, 5, none⟩ = some (.slice A1b l1b.length c1b) := cells_of j1 5
      have ux_5 := unfrozen_of j1 5
      have qx := lt_of_block j1
      have F1 := hide f1'; have J1 := hide j1
      clear f1' j1 zs1 zs2 hT' hgv hgr hbq n7 hsz7 hw7 k0 k1 k2 k3 HWV hwr
      go_region_with (first | (go_at_call 74; refine ((unhide HOFi) _ ((unhide HTV).below (by (first | with_reducible assumption | (repeat (first | with_reducible exact Below.refl _ _ | with_reducible assumption | refine Below.drew ?_ | (refine Below.alloc ?_ (by simp <;> omega) _) | refine belowN ?_ _)))))).mono ?_; rintro e w' ⟨s3a, neg3a, A3a, c3a, l3a, s3b, neg3b, A3b, c3b, l3b, rfl, g1, g2, hb3⟩; have iq3 := IQ.mk g1 g2; clear g1 g2; have hbw := below_step (w := V) (by (first | with_reducible assumption | (repeat (first | with_reducible exact Below.refl _ _ | with_reducible assumption | refine Below.drew ?_ | (refine Below.alloc ?_ (by simp <;> omega) _) | refine belowN ?_ _)))) hb3; obtain ⟨hc, hfz⟩ := bcell hbw) | (go_at_call 82; refine ((unhide HAD) s1a neg1a A1a c1a l1a s1b neg1b A1b c1b l1b s3a neg3a A3a c3a l3a s3b neg3b A3b c3b l3b _ (by (first | with_reducible assumption | (repeat (first | with_reducible exact Below.refl _ _ | with_reducible assumption | refine Below.drew ?_ | (refine Below.alloc ?_ (by simp <;> omega) _) | refine belowN ?_ _)))) ((unhide F1).below (by (first | with_reducible assumption | (repeat (first | with_reducible exact Below.refl _ _ | with_reducible assumption | refine Below.drew ?_ | (refine Below.alloc ?_ (by simp <;> omega) _) | refine belowN ?_ _))))).n ((unhide F1).below (by (first | with_reducible assumption | (repeat (first | with_reducible exact Below.refl _ _ | with_reducible assumption | refine Below.drew ?_ | (refine Below.alloc ?_ (by simp <;> omega) _) | refine belowN ?_ _))))).d (IQ.n (q := y) (by first | exact iq3 | exact IQ.below iq3 (Below.drew (Below.refl _ _)))) (IQ.d (q := y) (by first | exact iq3 | exact IQ.below iq3 (Below.drew (Below.refl _ _))))).mono ?_; rintro e w' ⟨s5a, neg5a, A5a, c5a, l5a, s5b, neg5b, A5b, c5b, l5b, rfl, g1, g2, hb5⟩; have iq5 := IQ.mk g1 g2; clear g1 g2; have hbw := below_step (w := V) (by (first | with_reducible assumption | (repeat (first | with_reducible exact Below.refl _ _ | with_reducible assumption | refine Below.drew ?_ | (refine Below.alloc ?_ (by simp <;> omega) _) | refine belowN ?_ _)))) hb5; obtain ⟨hc, hfz⟩ := bcell hbw))
      all_goals
        have hst := boxt_store (boxt_below ⟨_, _, _, _, _, _, _, _, _, _, unhide J1, unhide F1⟩ hbw) iq5 ((unhide HGV).trans (hbw.mono (by omega))) (by omega) (by have := hbw.size; omega)
        clear iq5
        go_wp2_with fail
        go_roundw
        case rel => exact ⟨i + 1, by omega, by first | rfl | go_num, HNX.out ▸ hst.1, hide hst.2⟩
        case measure => simp [intOf] <;> omega
    · obtain rfl : i = m := by omega
      have dl1 : decide ((i : Int) < (i : Int)) = false := decide_eq_false (by omega)
      have dl2 : decide (i < i) = false := decide_eq_false (by omega)
      have jr := ((unhide hgr).block w.heap.size (by omega)).trans (unhide N0)
      have r0 : wr.cell? ⟨w.heap.size, 0, none⟩ = some (.int .i64 0) := cells_of jr 0
      have fr0 := unfrozen_of jr 0
      have r1 : wr.cell? ⟨w.heap.size, 1, none⟩ = some (.bool false) := cells_of jr 1
      have fr1 := unfrozen_of jr 1
      have r2 : wr.cell? ⟨w.heap.size, 2, none⟩ = some (.slice none 0 0) := cells_of jr 2
      have fr2 := unfrozen_of jr 2
      have r3 : wr.cell? ⟨w.heap.size, 3, none⟩ = some (.int .i64 0) := cells_of jr 3
      have fr3 := unfrozen_of jr 3
      have r4 : wr.cell? ⟨w.heap.size, 4, none⟩ = some (.bool false) := cells_of jr 4
      have fr4 := unfrozen_of jr 4
      have r5 : wr.cell? ⟨w.heap.size, 5, none⟩ = some (.slice none 0 0) := cells_of jr 5
      have fr5 := unfrozen_of jr 5
      have qr := lt_of_block jr
      have HBLK := Lib.hid jr
      obtain ⟨s1a, neg1a, A1a, c1a, l1a, s1b, neg1b, A1b, c1b, l1b, j1, f1'⟩ := hbq
      have kx_0 : wr.cell? ⟨bx, 0, none⟩ = some (.int .i64 s1a) := cells_of j1 0
      have ux_0 := unfrozen_of j1 0
      have kx_1 : wr.cell? ⟨bx, 1, none⟩ = some (.bool neg1a) := cells_of j1 1
      have ux_1 := unfrozen_of j1 1
      have kx_2 : wr.cell? ⟨bx, 2, none⟩ = some (.slice A1a l1a.length c1a) := cells_of j1 2
      have ux_2 := unfrozen_of j1 2
      have kx_3 : wr.cell? ⟨bx, 3, none⟩ = some (.int .i64 s1b) := cells_of j1 3
      have ux_3 := unfrozen_of j1 3
      have kx_4 : wr.cell? ⟨bx, 4, none⟩ = some (.bool neg1b) := cells_of j1 4
      have ux_4 := unfrozen_of j1 4
      have kx_5 : wr.cell? ⟨bx, 5, none⟩ = some (.slice A1b l1b.length c1b) := cells_of j1 5
      have ux_5 := unfrozen_of j1 5
      have qx := lt_of_block j1
      have F1 := hide f1'
      have HWR := hide hwr
      clear f1' j1 jr hgr HSZ HJ HJ' hwr
      go_wp2_with fail
      exact bodyPost_ret (v := (Value.agg #[.int .i64 s1a, .bool neg1a, .slice A1a l1a.length c1a, .int .i64 s1b, .bool neg1b, .slice A1b l1b.length c1b])) (by simp [results, Tryz.results73, go_sem, r0, r1, r2, r3, r4, r5, qr]) rfl
        ⟨s1a, neg1a, A1a, c1a, l1a, s1b, neg1b, A1b, c1b, l1b, rfl, (unhide F1).n.upto HBLK.out (noWord6 _ _ _ _ _ _ _ _ _ _) (set6_grown _ _ _ _ _ _ _ _), (unhide F1).d.upto HBLK.out (noWord6 _ _ _ _ _ _ _ _ _ _) (set6_grown _ _ _ _ _ _ _ _), (unhide HWR).grown (set6_grown _ _ _ _ _ _ _ _) (unhide HWR).size (fun k hk => by injection hk with hk; omega)⟩

end Go.Proofs.YtpjgoogeokbaaaaGreatDoor
/- The reference: the sum of the products of two lists. -/
namespace Go.Proofs.YtpjgoogeokbaaaaGreatDoor
open Go.RowKit

/-- What is told of two lists. -/
noncomputable def tdotT (l l' : List (Int × Int)) : Wd.Told := if 64 < l.length ∨ 64 < l'.length then ⟨0, 0, 3⟩ else if Oks l ∧ Oks l' then (if l.length = l'.length then Wd.told (Wd.sumTo (qMul l l') l.length) else ⟨0, 0, 8⟩) else ⟨0, 0, 1⟩
set_option maxRecDepth 100000 in
set_option maxHeartbeats 16000000 in
theorem tdot_long1 (A : Option Addr) (cap : Nat) (l : List (Int × Int)) (A' : Option Addr) (cap' : Nat) (l' : List (Int × Int)) (w : World) (h : Rs w w.heap.size A l) (hcp : l.length ≤ cap) (hm : cap ≤ 9223372036854775807) (h' : Rs w w.heap.size A' l') (hcp' : l'.length ≤ cap') (hm' : cap' ≤ 9223372036854775807) (hl : 64 < l.length) :
    Calls Tryz.prog 27 #[.slice A l.length cap, .slice A' l'.length cap'] w fun e w' => TolR w ⟨0, 0, 3⟩ e w' := by
  have d1 : decide ((64 : Int) < (l.length : Int)) = true := decide_eq_true (by omega)
  have d2 : decide (64 < l.length) = true := decide_eq_true (by omega)
  clear h h'
  go_enter Tryz.func27, Tryz.ntmps27
  go_upto_region 1 with fail
  obtain ⟨n0, hsz, hw0⟩ := one_new w (.cells #[.int .i64 0, .int .i64 0] 23)
  generalize w.alloc (.cells #[.int .i64 0, .int .i64 0] 23) = W0 at *
  have r0 : W0.cell? ⟨w.heap.size, 0, none⟩ = some (.int .i64 0) := cells_of n0 0
  have r1 : W0.cell? ⟨w.heap.size, 1, none⟩ = some (.int .i64 0) := cells_of n0 1
  have f0 := unfrozen_of n0 0; have f1 := unfrozen_of n0 1
  have q0 := lt_of_block n0
  clear n0 hsz
  go_wp2_with fail
  exact bodyPost_ret (v := .tuple #[.agg #[.int .i64 0, .int .i64 0], .int .i64 3]) (by simp [results, Tryz.results27, go_sem, r0, r1, q0]) rfl
    ⟨rfl, hw0.grown (set2_grown _ _ _ _) hw0.size (fun k hk => by injection hk with hk; omega)⟩
set_option maxRecDepth 100000 in
set_option maxHeartbeats 16000000 in
theorem tdot_long2 (A : Option Addr) (cap : Nat) (l : List (Int × Int)) (A' : Option Addr) (cap' : Nat) (l' : List (Int × Int)) (w : World) (h : Rs w w.heap.size A l) (hcp : l.length ≤ cap) (hm : cap ≤ 9223372036854775807) (h' : Rs w w.heap.size A' l') (hcp' : l'.length ≤ cap') (hm' : cap' ≤ 9223372036854775807) (hl : ¬ 64 < l.length) (hl' : 64 < l'.length) :
    Calls Tryz.prog 27 #[.slice A l.length cap, .slice A' l'.length cap'] w fun e w' => TolR w ⟨0, 0, 3⟩ e w' := by
  have d1 : decide ((64 : Int) < (l.length : Int)) = false := decide_eq_false (by omega)
  have d2 : decide (64 < l.length) = false := decide_eq_false (by omega)
  have e1 : decide ((64 : Int) < (l'.length : Int)) = true := decide_eq_true (by omega)
  have e2 : decide (64 < l'.length) = true := decide_eq_true (by omega)
  clear h h'
  go_enter Tryz.func27, Tryz.ntmps27
  go_upto_region 1 with fail
  obtain ⟨n0, hsz, hw0⟩ := one_new w (.cells #[.int .i64 0, .int .i64 0] 23)
  generalize w.alloc (.cells #[.int .i64 0, .int .i64 0] 23) = W0 at *
  have r0 : W0.cell? ⟨w.heap.size, 0, none⟩ = some (.int .i64 0) := cells_of n0 0
  have r1 : W0.cell? ⟨w.heap.size, 1, none⟩ = some (.int .i64 0) := cells_of n0 1
  have f0 := unfrozen_of n0 0; have f1 := unfrozen_of n0 1
  have q0 := lt_of_block n0
  clear n0 hsz
  go_wp2_with fail
  exact bodyPost_ret (v := .tuple #[.agg #[.int .i64 0, .int .i64 0], .int .i64 3]) (by simp [results, Tryz.results27, go_sem, r0, r1, q0]) rfl
    ⟨rfl, hw0.grown (set2_grown _ _ _ _) hw0.size (fun k hk => by injection hk with hk; omega)⟩
set_option maxRecDepth 100000 in
set_option maxHeartbeats 16000000 in
theorem tdot_bad1 (A : Option Addr) (cap : Nat) (l : List (Int × Int)) (A' : Option Addr) (cap' : Nat) (l' : List (Int × Int)) (w : World) (h : Rs w w.heap.size A l) (hcp : l.length ≤ cap) (hm : cap ≤ 9223372036854775807) (h' : Rs w w.heap.size A' l') (hcp' : l'.length ≤ cap') (hm' : cap' ≤ 9223372036854775807) (hl : ¬ 64 < l.length) (hl' : ¬ 64 < l'.length) (hj : ¬ Oks l) :
    Calls Tryz.prog 27 #[.slice A l.length cap, .slice A' l'.length cap'] w fun e w' => TolR w ⟨0, 0, 1⟩ e w' := by
  have d1 : decide ((64 : Int) < (l.length : Int)) = false := decide_eq_false (by omega)
  have d2 : decide (64 < l.length) = false := decide_eq_false (by omega)
  have e1 : decide ((64 : Int) < (l'.length : Int)) = false := decide_eq_false (by omega)
  have e2 : decide (64 < l'.length) = false := decide_eq_false (by omega)
  have HA := hide (fun W (hW : Below w.heap.size w W) => tAres_any A cap l W ((h.below hW).up hW.size) hcp hm)
  have HB := hide (fun W (hW : Below w.heap.size w W) => tAres_any A' cap' l' W ((h'.below hW).up hW.size) hcp' hm')
  rw [decide_eq_false hj] at HA
  clear hj h h'
  go_enter Tryz.func27, Tryz.ntmps27
  go_upto_region 1 with fail
  obtain ⟨n0, hsz, hw0⟩ := one_new w (.cells #[.int .i64 0, .int .i64 0] 23)
  generalize w.alloc (.cells #[.int .i64 0, .int .i64 0] 23) = W0 at *
  have r0 : W0.cell? ⟨w.heap.size, 0, none⟩ = some (.int .i64 0) := cells_of n0 0
  have r1 : W0.cell? ⟨w.heap.size, 1, none⟩ = some (.int .i64 0) := cells_of n0 1
  have f0 := unfrozen_of n0 0; have f1 := unfrozen_of n0 1
  have q0 := lt_of_block n0
  clear n0 hsz
  go_wp2_with fail
  refine ((unhide HA) _ hw0).mono ?_
  rintro e W1 ⟨rfl, hb⟩
  obtain ⟨hc, hfz⟩ := bcell hb
  replace r0 := (hc _ _ q0).trans r0
  replace r1 := (hc _ _ q0).trans r1
  replace f0 := (hfz _ _ q0).trans f0
  replace f1 := (hfz _ _ q0).trans f1
  replace q0 := Nat.lt_of_lt_of_le q0 hb.size
  replace hw0 := below_step' hw0 hb
  clear hc hfz
  clear hb
  go_wp2_with fail
  exact bodyPost_ret (v := .tuple #[.agg #[.int .i64 0, .int .i64 0], .int .i64 1]) (by simp [results, Tryz.results27, go_sem, r0, r1, q0]) rfl
    ⟨rfl, hw0.grown (set2_grown _ _ _ _) hw0.size (fun k hk => by injection hk with hk; omega)⟩
set_option maxRecDepth 100000 in
set_option maxHeartbeats 16000000 in
theorem tdot_bad2 (A : Option Addr) (cap : Nat) (l : List (Int × Int)) (A' : Option Addr) (cap' : Nat) (l' : List (Int × Int)) (w : World) (h : Rs w w.heap.size A l) (hcp : l.length ≤ cap) (hm : cap ≤ 9223372036854775807) (h' : Rs w w.heap.size A' l') (hcp' : l'.length ≤ cap') (hm' : cap' ≤ 9223372036854775807) (hl : ¬ 64 < l.length) (hl' : ¬ 64 < l'.length) (hj : Oks l) (hj' : ¬ Oks l') :
    Calls Tryz.prog 27 #[.slice A l.length cap, .slice A' l'.length cap'] w fun e w' => TolR w ⟨0, 0, 1⟩ e w' := by
  have d1 : decide ((64 : Int) < (l.length : Int)) = false := decide_eq_false (by omega)
  have d2 : decide (64 < l.length) = false := decide_eq_false (by omega)
  have e1 : decide ((64 : Int) < (l'.length : Int)) = false := decide_eq_false (by omega)
  have e2 : decide (64 < l'.length) = false := decide_eq_false (by omega)
  have HA := hide (fun W (hW : Below w.heap.size w W) => tAres_any A cap l W ((h.below hW).up hW.size) hcp hm)
  have HB := hide (fun W (hW : Below w.heap.size w W) => tAres_any A' cap' l' W ((h'.below hW).up hW.size) hcp' hm')
  rw [decide_eq_true hj] at HA
  rw [decide_eq_false hj'] at HB
  clear hj hj' h h'
  go_enter Tryz.func27, Tryz.ntmps27
  go_upto_region 1 with fail
  obtain ⟨n0, hsz, hw0⟩ := one_new w (.cells #[.int .i64 0, .int .i64 0] 23)
  generalize w.alloc (.cells #[.int .i64 0, .int .i64 0] 23) = W0 at *
  have r0 : W0.cell? ⟨w.heap.size, 0, none⟩ = some (.int .i64 0) := cells_of n0 0
  have r1 : W0.cell? ⟨w.heap.size, 1, none⟩ = some (.int .i64 0) := cells_of n0 1
  have f0 := unfrozen_of n0 0; have f1 := unfrozen_of n0 1
  have q0 := lt_of_block n0
  clear n0 hsz
  go_wp2_with fail
  refine ((unhide HA) _ hw0).mono ?_
  rintro e W1 ⟨rfl, hb⟩
  obtain ⟨hc, hfz⟩ := bcell hb
  replace r0 := (hc _ _ q0).trans r0
  replace r1 := (hc _ _ q0).trans r1
  replace f0 := (hfz _ _ q0).trans f0
  replace f1 := (hfz _ _ q0).trans f1
  replace q0 := Nat.lt_of_lt_of_le q0 hb.size
  replace hw0 := below_step' hw0 hb
  clear hc hfz
  clear hb
  go_wp2_with fail
  refine ((unhide HB) _ hw0).mono ?_
  rintro e W2 ⟨rfl, hb⟩
  obtain ⟨hc, hfz⟩ := bcell hb
  replace r0 := (hc _ _ q0).trans r0
  replace r1 := (hc _ _ q0).trans r1
  replace f0 := (hfz _ _ q0).trans f0
  replace f1 := (hfz _ _ q0).trans f1
  replace q0 := Nat.lt_of_lt_of_le q0 hb.size
  replace hw0 := below_step' hw0 hb
  clear hc hfz
  clear hb
  go_wp2_with fail
  exact bodyPost_ret (v := .tuple #[.agg #[.int .i64 0, .int .i64 0], .int .i64 1]) (by simp [results, Tryz.results27, go_sem, r0, r1, q0]) rfl
    ⟨rfl, hw0.grown (set2_grown _ _ _ _) hw0.size (fun k hk => by injection hk with hk; omega)⟩
set_option maxRecDepth 100000 in
set_option maxHeartbeats 16000000 in
theorem tdot_fit (A : Option Addr) (cap : Nat) (l : List (Int × Int)) (A' : Option Addr) (cap' : Nat) (l' : List (Int × Int)) (w : World) (h : Rs w w.heap.size A l) (hcp : l.length ≤ cap) (hm : cap ≤ 9223372036854775807) (h' : Rs w w.heap.size A' l') (hcp' : l'.length ≤ cap') (hm' : cap' ≤ 9223372036854775807) (hl : ¬ 64 < l.length) (hl' : ¬ 64 < l'.length) (hj : Oks l) (hj' : Oks l') (hf : l.length ≠ l'.length) :
    Calls Tryz.prog 27 #[.slice A l.length cap, .slice A' l'.length cap'] w fun e w' => TolR w ⟨0, 0, 8⟩ e w' := by
  have d1 : decide ((64 : Int) < (l.length : Int)) = false := decide_eq_false (by omega)
  have d2 : decide (64 < l.length) = false := decide_eq_false (by omega)
  have e1 : decide ((64 : Int) < (l'.length : Int)) = false := decide_eq_false (by omega)
  have e2 : decide (64 < l'.length) = false := decide_eq_false (by omega)
  have HA := hide (fun W (hW : Below w.heap.size w W) => tAres_any A cap l W ((h.below hW).up hW.size) hcp hm)
  have HB := hide (fun W (hW : Below w.heap.size w W) => tAres_any A' cap' l' W ((h'.below hW).up hW.size) hcp' hm')
  rw [decide_eq_true hj] at HA
  rw [decide_eq_true hj'] at HB
  have b1 : ((l.length : Int) == (l'.length : Int)) = false := beq_eq_false_iff_ne.2 (by omega)
  have b2 : (l.length == l'.length) = false := beq_eq_false_iff_ne.2 hf
  clear hj hj' h h'
  go_enter Tryz.func27, Tryz.ntmps27
  go_upto_region 1 with fail
  obtain ⟨n0, hsz, hw0⟩ := one_new w (.cells #[.int .i64 0, .int .i64 0] 23)
  generalize w.alloc (.cells #[.int .i64 0, .int .i64 0] 23) = W0 at *
  have r0 : W0.cell? ⟨w.heap.size, 0, none⟩ = some (.int .i64 0) := cells_of n0 0
  have r1 : W0.cell? ⟨w.heap.size, 1, none⟩ = some (.int .i64 0) := cells_of n0 1
  have f0 := unfrozen_of n0 0; have f1 := unfrozen_of n0 1
  have q0 := lt_of_block n0
  clear n0 hsz
  go_wp2_with fail
  refine ((unhide HA) _ hw0).mono ?_
  rintro e W1 ⟨rfl, hb⟩
  obtain ⟨hc, hfz⟩ := bcell hb
  replace r0 := (hc _ _ q0).trans r0
  replace r1 := (hc _ _ q0).trans r1
  replace f0 := (hfz _ _ q0).trans f0
  replace f1 := (hfz _ _ q0).trans f1
  replace q0 := Nat.lt_of_lt_of_le q0 hb.size
  replace hw0 := below_step' hw0 hb
  clear hc hfz
  clear hb
  go_wp2_with fail
  refine ((unhide HB) _ hw0).mono ?_
  rintro e W2 ⟨rfl, hb⟩
  obtain ⟨hc, hfz⟩ := bcell hb
  replace r0 := (hc _ _ q0).trans r0
  replace r1 := (hc _ _ q0).trans r1
  replace f0 := (hfz _ _ q0).trans f0
  replace f1 := (hfz _ _ q0).trans f1
  replace q0 := Nat.lt_of_lt_of_le q0 hb.size
  replace hw0 := below_step' hw0 hb
  clear hc hfz
  clear hb
  go_wp2_with fail
  exact bodyPost_ret (v := .tuple #[.agg #[.int .i64 0, .int .i64 0], .int .i64 8]) (by simp [results, Tryz.results27, go_sem, r0, r1, q0]) rfl
    ⟨rfl, hw0.grown (set2_grown _ _ _ _) hw0.size (fun k hk => by injection hk with hk; omega)⟩
set_option maxRecDepth 100000 in
set_option maxHeartbeats 16000000 in
theorem tdot_ok (A : Option Addr) (cap : Nat) (l : List (Int × Int)) (A' : Option Addr) (cap' : Nat) (l' : List (Int × Int)) (w : World) (h : Rs w w.heap.size A l) (hcp : l.length ≤ cap) (hm : cap ≤ 9223372036854775807) (h' : Rs w w.heap.size A' l') (hcp' : l'.length ≤ cap') (hm' : cap' ≤ 9223372036854775807) (hl : ¬ 64 < l.length) (hl' : ¬ 64 < l'.length) (hj : Oks l) (hj' : Oks l') (hf : l.length = l'.length) :
    Calls Tryz.prog 27 #[.slice A l.length cap, .slice A' l'.length cap'] w fun e w' => TolR w (Wd.told (Wd.sumTo (qMul l l') l.length)) e w' := by
  have d1 : decide ((64 : Int) < (l.length : Int)) = false := decide_eq_false (by omega)
  have d2 : decide (64 < l.length) = false := decide_eq_false (by omega)
  have e1 : decide ((64 : Int) < (l'.length : Int)) = false := decide_eq_false (by omega)
  have e2 : decide (64 < l'.length) = false := decide_eq_false (by omega)
  have HA := hide (fun W (hW : Below w.heap.size w W) => tAres_any A cap l W ((h.below hW).up hW.size) hcp hm)
  have HB := hide (fun W (hW : Below w.heap.size w W) => tAres_any A' cap' l' W ((h'.below hW).up hW.size) hcp' hm')
  rw [decide_eq_true hj] at HA
  rw [decide_eq_true hj'] at HB
  have HJ := hide hj; have HRS := hide h; have HJ' := hide hj'; have HRS' := hide h'
  obtain ⟨m, hmm⟩ : ∃ m, m = l.length := ⟨_, rfl⟩
  have HM := Lib.hid hmm
  have HM' := Lib.hid (hmm.trans hf)
  rw [← hf] at hl' hcp' e1 e2 HB ⊢
  rw [← hmm] at hl hcp d1 d2 HA hl' hcp' e1 e2 HB ⊢
  have HSZ : Hid (∀ i, i ≤ m → Wd.SzQ B32 400 (Wd.sumTo (qMul l l') i)) := fun i hi => (Wd.szq_sum B32_pos i (fun k hk => Wd.szq_mul' (okR_szq (hj k (by omega))) (okR_szq (hj' k (by omega))))).mono'' B32_pos (by omega)
  clear hj hj' h h' hf hmm
  go_enter Tryz.func27, Tryz.ntmps27
  go_upto_region 1 with fail
  obtain ⟨n0, hsz, hw0⟩ := one_new w (.cells #[.int .i64 0, .int .i64 0] 23)
  generalize w.alloc (.cells #[.int .i64 0, .int .i64 0] 23) = W0 at *
  have r0 : W0.cell? ⟨w.heap.size, 0, none⟩ = some (.int .i64 0) := cells_of n0 0
  have r1 : W0.cell? ⟨w.heap.size, 1, none⟩ = some (.int .i64 0) := cells_of n0 1
  have f0 := unfrozen_of n0 0; have f1 := unfrozen_of n0 1
  have q0 := lt_of_block n0
  clear n0 hsz
  go_wp2_with fail
  refine ((unhide HA) _ hw0).mono ?_
  rintro e W1 ⟨rfl, hb⟩
  obtain ⟨hc, hfz⟩ := bcell hb
  replace r0 := (hc _ _ q0).trans r0
  replace r1 := (hc _ _ q0).trans r1
  replace f0 := (hfz _ _ q0).trans f0
  replace f1 := (hfz _ _ q0).trans f1
  replace q0 := Nat.lt_of_lt_of_le q0 hb.size
  replace hw0 := below_step' hw0 hb
  clear hc hfz
  clear hb
  go_wp2_with fail
  refine ((unhide HB) _ hw0).mono ?_
  rintro e W2 ⟨rfl, hb⟩
  obtain ⟨hc, hfz⟩ := bcell hb
  replace r0 := (hc _ _ q0).trans r0
  replace r1 := (hc _ _ q0).trans r1
  replace f0 := (hfz _ _ q0).trans f0
  replace f1 := (hfz _ _ q0).trans f1
  replace q0 := Nat.lt_of_lt_of_le q0 hb.size
  replace hw0 := below_step' hw0 hb
  clear hc hfz
  clear hb
  go_upto_region 8 with fail
  have hbx := BoxQ.new (qv_zero W2) rfl
  have hb := below_alloc (Below.refl W2.heap.size W2) (.cells #[.slice none 0 0, .bool false, .slice none 0 0, .bool false] 52)
  obtain ⟨bx, hbxe⟩ : ∃ b, b = W2.heap.size := ⟨_, rfl⟩
  rw [← hbxe] at hbx ⊢
  have hbB : w.heap.size < bx := by rw [hbxe]; exact q0
  generalize W2.alloc (.cells #[.slice none 0 0, .bool false, .slice none 0 0, .bool false] 52) = W3 at *
  obtain ⟨hc, hfz⟩ := bcell hb
  replace r0 := (hc _ _ q0).trans r0
  replace r1 := (hc _ _ q0).trans r1
  replace f0 := (hfz _ _ q0).trans f0
  replace f1 := (hfz _ _ q0).trans f1
  replace q0 := Nat.lt_of_lt_of_le q0 hb.size
  replace hw0 := below_step' hw0 hb
  clear hc hfz
  clear hb hbxe
  have HW0 := hide hw0; have HRES := hide (And.intro (And.intro r0 r1) (And.intro (And.intro f0 f1) q0))
  have hbs := (unhide HW0).size
  clear r0 r1 f0 f1 q0 hw0 HA HB
  go_wp2_with fail
  go_loopw [7] (fun iv wr => ∃ i : Nat, i ≤ m ∧ iv = .int .i64 ((i : Nat) : Int) ∧ BoxQ wr bx (Wd.sumTo (qMul l l') i) ∧ Hid (Below (w.heap.size + 1) W3 wr)) (fun iv _ => m - (intOf iv).toNat)
  case atStart => exact ⟨0, Nat.zero_le _, by first | rfl | go_num, hbx, hide (Below.refl _ _)⟩
  case round =>
    obtain ⟨i, hi, rfl, hbq, hgr⟩ := hrel
    have hwr : Below w.heap.size w wr := (unhide HW0).trans ((unhide hgr).mono (by omega))
    have hq0 := (unhide HRES).2.2
    have hgs := (unhide hgr).size
    by_cases hlt : i < m
    · have hil : i < l.length := by rw [← HM.out]; exact hlt
      have hil' : i < l'.length := by rw [← HM'.out]; exact hlt
      obtain ⟨b, off, rfl, hbb, hcell⟩ := (unhide HRS) (by omega)
      obtain ⟨b', off', rfl, hbb', hcell'⟩ := (unhide HRS') (by omega)
      have k0 := (hwr.cell (p := ⟨b, off + i * 2, none⟩) hbb).trans (hcell i hil).1
      have k1 := (hwr.cell (p := ⟨b, off + i * 2 + 1, none⟩) hbb).trans (hcell i hil).2
      have k2 := (hwr.cell (p := ⟨b', off' + i * 2, none⟩) hbb').trans (hcell' i hil').1
      have k3 := (hwr.cell (p := ⟨b', off' + i * 2 + 1, none⟩) hbb').trans (hcell' i hil').2
      have oki := (unhide HJ) i hil
      have oki' := (unhide HJ') i hil'
      have zs1 := (unhide HSZ) i (by omega)
      have zs2 : Wd.SzQ B32 200 (qAt l i) := (okR_szq oki).mono'' B32_pos (by omega)
      have zs3 : Wd.SzQ B32 200 (qAt l' i) := (okR_szq oki').mono'' B32_pos (by omega)
      have zs4 : Wd.SzQ B32 400 (qAt l i * qAt l' i) := (Wd.szq_mul' zs2 zs3)
      have hnext : Wd.sumTo (qMul l l') (i + 1) = Wd.sumTo (qMul l l') i + qAt l i * qAt l' i := rfl
      have HNX := Lib.hid hnext
      have HOFi := hide (fun W => of_ok oki W)
      have HOFj := hide (fun W => of_ok oki' W)
      have hqa : qAt l i = Wd.qR (rn l i) (rd l i) := rfl
      have hqb : qAt l' i = Wd.qR (rn l' i) (rd l' i) := rfl
      rw [← hqa] at HOFi
      rw [← hqb] at HOFj
      obtain ⟨nn, hnn⟩ : ∃ z, z = rn l i := ⟨_, rfl⟩
      obtain ⟨dd, hdd⟩ : ∃ z, z = rd l i := ⟨_, rfl⟩
      obtain ⟨nn', hnn'⟩ : ∃ z, z = rn l' i := ⟨_, rfl⟩
      obtain ⟨dd', hdd'⟩ : ∃ z, z = rd l' i := ⟨_, rfl⟩
      rw [← hnn] at k0 HOFi
      rw [← hdd] at k1 HOFi
      rw [← hnn'] at k2 HOFj
      rw [← hdd'] at k3 HOFj
      obtain ⟨x, hx⟩ : ∃ x, x = Wd.sumTo (qMul l l') i := ⟨_, rfl⟩
      obtain ⟨y, hy⟩ : ∃ y, y = qAt l i := ⟨_, rfl⟩
      obtain ⟨z, hz⟩ : ∃ z, z = qAt l' i := ⟨_, rfl⟩
      rw [← hx] at hbq zs1 HNX
      rw [← hy] at zs2 zs4 HNX HOFi
      rw [← hz] at zs3 zs4 HNX HOFj
      have HMU : Hid (∀ (A3 : Option Addr) (c3 : Nat) (l3 : List Nat) (m3 : Bool) (A4 : Option Addr) (c4 : Nat) (l4 : List Nat) (m4 : Bool) (A5 : Option Addr) (c5 : Nat) (l5 : List Nat) (m5 : Bool) (A6 : Option Addr) (c6 : Nat) (l6 : List Nat) (m6 : Bool) W, QV W A3 c3 l3 m3 A4 c4 l4 m4 (y) → QV W A5 c5 l5 m5 A6 c6 l6 m6 (z) → Calls Tryz.prog 45 #[(Value.agg #[.slice A3 l3.length c3, .bool m3, .slice A4 l4.length c4, .bool m4]), (Value.agg #[.slice A5 l5.length c5, .bool m5, .slice A6 l6.length c6, .bool m6])] W fun e w' => QR W (y * z) e w') := fun A3 c3 l3 m3 A4 c4 l4 m4 A5 c5 l5 m5 A6 c6 l6 m6 W g3 g5 => tqmul_any 200 A3 c3 l3 m3 A4 c4 l4 m4 A5 c5 l5 m5 A6 c6 l6 m6 y z W g3 g5 zs2 zs3 (by omega)
      have HAD : Hid (∀ (A1 : Option Addr) (c1 : Nat) (l1 : List Nat) (m1 : Bool) (A2 : Option Addr) (c2 : Nat) (l2 : List Nat) (m2 : Bool) (A7 : Option Addr) (c7 : Nat) (l7 : List Nat) (m7 : Bool) (A8 : Option Addr) (c8 : Nat) (l8 : List Nat) (m8 : Bool) W, QV W A1 c1 l1 m1 A2 c2 l2 m2 (x) → QV W A7 c7 l7 m7 A8 c8 l8 m8 (y * z) → Calls Tryz.prog 43 #[(Value.agg #[.slice A1 l1.length c1, .bool m1, .slice A2 l2.length c2, .bool m2]), (Value.agg #[.slice A7 l7.length c7, .bool m7, .slice A8 l8.length c8, .bool m8])] W fun e w' => QR W (x + y * z) e w') := fun A1 c1 l1 m1 A2 c2 l2 m2 A7 c7 l7 m7 A8 c8 l8 m8 W g1 g7 => tqadd_any 400 A1 c1 l1 m1 A2 c2 l2 m2 A7 c7 l7 m7 A8 c8 l8 m8 x (y * z) W g1 g7 zs1 zs4 (by omega)
      have dl1 : decide ((i : Int) < (m : Int)) = true := decide_eq_true (by omega)
      have dl2 : decide (i < m) = true := decide_eq_true hlt
      have qb := Nat.lt_of_lt_of_le hbb hwr.size
      have qb' := Nat.lt_of_lt_of_le hbb' hwr.size
      clear hcell hcell' oki oki' zs1 zs2 zs3 zs4 hnext hqa hqb hnn hdd hnn' hdd' hx hy hz hil hil'
      obtain ⟨A1, c1, l1, m1, A2, c2, l2, m2, j1, f1'⟩ := hbq
      have kx_0 : wr.cell? ⟨bx, 0, none⟩ = some (.slice A1 l1.length c1) := cells_of j1 0
      have ux_0 := unfrozen_of j1 0
      have kx_1 : wr.cell? ⟨bx, 1, none⟩ = some (.bool m1) := cells_of j1 1
      have ux_1 := unfrozen_of j1 1
      have kx_2 : wr.cell? ⟨bx, 2, none⟩ = some (.slice A2 l2.length c2) := cells_of j1 2
      have ux_2 := unfrozen_of j1 2
      have kx_3 : wr.cell? ⟨bx, 3, none⟩ = some (.bool m2) := cells_of j1 3
      have ux_3 := unfrozen_of j1 3
      have qx := lt_of_block j1
      have F1 := hide f1'; have J1 := hide j1
      clear f1' j1
      go_wp2_with fail
      go_region_with (first | (go_at_call_of 41 (Value.agg #[.int .i64 nn', .int .i64 dd']); refine ((unhide HOFj) _).mono ?_; rintro e w' ⟨A5, c5, l5, m5, A6, c6, l6, m6, rfl, g1, g2, hb5⟩; (try (first | replace iq3 := QV.below iq3 hb5 | replace iq3 := (QV.below iq3 (Below.drew (Below.refl _ _))).below hb5)); have iq5 := QV.of g1 g2; clear g1 g2; have hbw := below_step (w := wr) (by (first | with_reducible assumption | (repeat (first | with_reducible exact Below.refl _ _ | with_reducible assumption | refine Below.drew ?_ | (refine Below.alloc ?_ (by simp <;> omega) _) | refine belowN ?_ _)))) hb5; obtain ⟨hc, hfz⟩ := bcell hbw) | (go_at_call_of 41 (Value.agg #[.int .i64 nn, .int .i64 dd]); refine ((unhide HOFi) _).mono ?_; rintro e w' ⟨A3, c3, l3, m3, A4, c4, l4, m4, rfl, g1, g2, hb3⟩; (try (first | replace iq5 := QV.below iq5 hb3 | replace iq5 := (QV.below iq5 (Below.drew (Below.refl _ _))).below hb3)); have iq3 := QV.of g1 g2; clear g1 g2; have hbw := below_step (w := wr) (by (first | with_reducible assumption | (repeat (first | with_reducible exact Below.refl _ _ | with_reducible assumption | refine Below.drew ?_ | (refine Below.alloc ?_ (by simp <;> omega) _) | refine belowN ?_ _)))) hb3; obtain ⟨hc, hfz⟩ := bcell hbw) | (go_at_call 45; refine ((unhide HMU) A3 c3 l3 m3 A4 c4 l4 m4 A5 c5 l5 m5 A6 c6 l6 m6 _ (by first | exact iq3 | exact QV.below iq3 (by (first | with_reducible assumption | (repeat (first | with_reducible exact Below.refl _ _ | with_reducible assumption | refine Below.drew ?_ | (refine Below.alloc ?_ (by simp <;> omega) _) | refine belowN ?_ _))))) (by first | exact iq5 | exact QV.below iq5 (by (first | with_reducible assumption | (repeat (first | with_reducible exact Below.refl _ _ | with_reducible assumption | refine Below.drew ?_ | (refine Below.alloc ?_ (by simp <;> omega) _) | refine belowN ?_ _)))))).mono ?_; rintro e w' ⟨A7, c7, l7, m7, A8, c8, l8, m8, rfl, g1, g2, hb7⟩; have iq7 := QV.of g1 g2; clear g1 g2; have hbw := below_step (w := wr) (by (first | with_reducible assumption | (repeat (first | with_reducible exact Below.refl _ _ | with_reducible assumption | refine Below.drew ?_ | (refine Below.alloc ?_ (by simp <;> omega) _) | refine belowN ?_ _)))) hb7; obtain ⟨hc, hfz⟩ := bcell hbw) | (go_at_call 43; refine ((unhide HAD) A1 c1 l1 m1 A2 c2 l2 m2 A7 c7 l7 m7 A8 c8 l8 m8 _ (QV.below (unhide F1) (by (first | with_reducible assumption | (repeat (first | with_reducible exact Below.refl _ _ | with_reducible assumption | refine Below.drew ?_ | (refine Below.alloc ?_ (by simp <;> omega) _) | refine belowN ?_ _))))) (by first | exact iq7 | exact QV.below iq7 (by (first | with_reducible assumption | (repeat (first | with_reducible exact Below.refl _ _ | with_reducible assumption | refine Below.drew ?_ | (refine Below.alloc ?_ (by simp <;> omega) _) | refine belowN ?_ _)))))).mono ?_; rintro e w' ⟨A9, c9, l9, m9, A10, c10, l10, m10, rfl, g1, g2, hb9⟩; have iq9 := QV.of g1 g2; clear g1 g2; have hbw := below_step (w := wr) (by (first | with_reducible assumption | (repeat (first | with_reducible exact Below.refl _ _ | with_reducible assumption | refine Below.drew ?_ | (refine Below.alloc ?_ (by simp <;> omega) _) | refine belowN ?_ _)))) hb9; obtain ⟨hc, hfz⟩ := bcell hbw))
      all_goals
        have hst := boxq_st (boxq_below ⟨_, _, _, _, _, _, _, _, unhide J1, unhide F1⟩ hbw) iq9 ((unhide hgr).trans (hbw.mono (by omega))) (by omega) (by have := hbw.size; omega)
        clear iq9
        go_wp2_with fail
        go_roundw
        case rel => exact ⟨i + 1, by omega, by first | rfl | go_num, HNX.out ▸ hst.1, hide hst.2⟩
        case measure => simp [intOf] <;> omega
    · obtain rfl : i = m := by omega
      have dl1 : decide ((i : Int) < (i : Int)) = false := decide_eq_false (by omega)
      have dl2 : decide (i < i) = false := decide_eq_false (by omega)
      clear HSZ HJ HRS HJ' HRS'
      obtain ⟨⟨r0, r1⟩, ⟨f0, f1⟩, q0⟩ := unhide HRES
      have hblk := (unhide hgr).block w.heap.size (by omega)
      replace r0 := (World.cell?_of_block (a := ⟨w.heap.size, 0, none⟩) hblk).trans r0
      replace r1 := (World.cell?_of_block (a := ⟨w.heap.size, 1, none⟩) hblk).trans r1
      replace f0 := (World.frozen?_of_block (a := ⟨w.heap.size, 0, none⟩) hblk).trans f0
      replace f1 := (World.frozen?_of_block (a := ⟨w.heap.size, 1, none⟩) hblk).trans f1
      replace q0 := Nat.lt_of_lt_of_le q0 hgs
      obtain ⟨A1, c1, l1, m1, A2, c2, l2, m2, j1, f1'⟩ := hbq
      have kx_0 : wr.cell? ⟨bx, 0, none⟩ = some (.slice A1 l1.length c1) := cells_of j1 0
      have ux_0 := unfrozen_of j1 0
      have kx_1 : wr.cell? ⟨bx, 1, none⟩ = some (.bool m1) := cells_of j1 1
      have ux_1 := unfrozen_of j1 1
      have kx_2 : wr.cell? ⟨bx, 2, none⟩ = some (.slice A2 l2.length c2) := cells_of j1 2
      have ux_2 := unfrozen_of j1 2
      have kx_3 : wr.cell? ⟨bx, 3, none⟩ = some (.bool m2) := cells_of j1 3
      have ux_3 := unfrozen_of j1 3
      have qx := lt_of_block j1
      have HRAT := hide (ttoldv_any A1 c1 l1 m1 A2 c2 l2 m2 _ wr f1')
      have hw0 := hwr
      clear f1' j1 hblk hwr hgr HRES HW0
      go_wp2_with fail
      refine (unhide HRAT).mono ?_
      rintro e W5 ⟨rfl, hb⟩
      obtain ⟨hc, hfz⟩ := bcell hb
      replace r0 := (hc _ _ q0).trans r0
      replace r1 := (hc _ _ q0).trans r1
      replace f0 := (hfz _ _ q0).trans f0
      replace f1 := (hfz _ _ q0).trans f1
      replace q0 := Nat.lt_of_lt_of_le q0 hb.size
      replace hw0 := below_step' hw0 hb
      clear hc hfz
      clear hb
      go_wp2_with fail
      exact bodyPost_ret (v := .tuple #[.agg #[.int .i64 (Wd.told (Wd.sumTo (qMul l l') i)).n, .int .i64 (Wd.told (Wd.sumTo (qMul l l') i)).d], .int .i64 (Wd.told (Wd.sumTo (qMul l l') i)).e]) (by simp [results, Tryz.results27, go_sem, r0, r1, q0]) rfl
        ⟨rfl, hw0.grown (set2_grown _ _ _ _) hw0.size (fun k hk => by injection hk with hk; omega)⟩
theorem tdot_any (A : Option Addr) (cap : Nat) (l : List (Int × Int)) (A' : Option Addr) (cap' : Nat) (l' : List (Int × Int)) (w : World) (h : Rs w w.heap.size A l) (hcp : l.length ≤ cap) (hm : cap ≤ 9223372036854775807) (h' : Rs w w.heap.size A' l') (hcp' : l'.length ≤ cap') (hm' : cap' ≤ 9223372036854775807) :
    Calls Tryz.prog 27 #[.slice A l.length cap, .slice A' l'.length cap'] w fun e w' => TolR w (tdotT l l') e w' := by
  unfold tdotT
  by_cases hl : 64 < l.length
  · rw [if_pos (.inl hl)]; exact tdot_long1 A cap l A' cap' l' w h hcp hm h' hcp' hm' hl
  by_cases hl' : 64 < l'.length
  · rw [if_pos (.inr hl')]; exact tdot_long2 A cap l A' cap' l' w h hcp hm h' hcp' hm' hl hl'
  rw [if_neg (fun h => h.elim hl hl')]
  by_cases hj : Oks l
  · by_cases hj' : Oks l'
    · rw [if_pos ⟨hj, hj'⟩]
      by_cases hf : l.length = l'.length
      · rw [if_pos hf]; exact tdot_ok A cap l A' cap' l' w h hcp hm h' hcp' hm' hl hl' hj hj' hf
      · rw [if_neg hf]; exact tdot_fit A cap l A' cap' l' w h hcp hm h' hcp' hm' hl hl' hj hj' hf
    · rw [if_neg (fun h => hj' h.2)]; exact tdot_bad2 A cap l A' cap' l' w h hcp hm h' hcp' hm' hl hl' hj hj'
  · rw [if_neg (fun h => hj h.1)]; exact tdot_bad1 A cap l A' cap' l' w h hcp hm h' hcp' hm' hl hl' hj


end Go.Proofs.YtpjgoogeokbaaaaGreatDoor
