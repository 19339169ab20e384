/- Part 13 of the texts beneath a law of layer 1: JnP, RfRatv, RfToldv, JnR, FrL, Frame. -/
import Derived.Test.YtmahhmdodfimbaaGreatDoorCd12
import Derived.Deep.DeepCutAuto
import Derived.Test.YtmahhmdodfimbaaGreatDoorRows
import Derived.ProofKit
import Derived.OpenShut
import Derived.LaidMore
import Derived.Lay
import Derived.Lib.SmallJoins
import Derived.Stop.Joined
/- The program: the number of a continued fraction. -/
namespace Go.Proofs.YtmahhmdodfimbaaGreatDoor
open Go.RowKit

set_option maxRecDepth 100000 in
set_option maxHeartbeats 16000000 in
theorem pjoin_long (A : Option Addr) (cap : Nat) (l : List Int) (w : World) (hl : 64 < l.length) (hcp : l.length ≤ cap) (hm : cap ≤ 9223372036854775807) :
    Calls Tryz.prog 32 #[.slice A l.length cap] w fun e w' => TolR w ⟨0, 0, 3⟩ e w' := by
  have d1 : decide ((64 : Int) < (l.length : Int)) = true := decide_eq_true (by omega)
  have d2 : decide (64 < l.length) = true := decide_eq_true hl
  go_enter Tryz.func32, Tryz.ntmps32
  go_upto_region 1 with fail
  obtain ⟨n0, hsz, hw0⟩ := one_new w (.cells #[.int .i64 0, .int .i64 0] 23)
  generalize w.alloc (.cells #[.int .i64 0, .int .i64 0] 23) = W0 at *
  have r0 : W0.cell? ⟨w.heap.size, 0, none⟩ = some (.int .i64 0) := cells_of n0 0
  have r1 : W0.cell? ⟨w.heap.size, 1, none⟩ = some (.int .i64 0) := cells_of n0 1
  have f0 := unfrozen_of n0 0; have f1 := unfrozen_of n0 1
  have q0 := lt_of_block n0
  clear n0 hsz
  go_wp2_with fail
  exact bodyPost_ret (v := .tuple #[.agg #[.int .i64 0, .int .i64 0], .int .i64 3]) (by simp [results, Tryz.results32, go_sem, r0, r1, q0]) rfl
    ⟨rfl, hw0.grown (set2_grown _ _ _ _) hw0.size (fun k hk => by injection hk with hk; omega)⟩

set_option maxRecDepth 100000 in
set_option maxHeartbeats 16000000 in
theorem pjoin_bad (A : Option Addr) (cap : Nat) (l : List Int) (w : World) (h : Zs w w.heap.size A l) (hcp : l.length ≤ cap) (hm : cap ≤ 9223372036854775807) (hl : ¬ 64 < l.length) (hj : ¬ Wd.JoinOk l) :
    Calls Tryz.prog 32 #[.slice A l.length cap] w fun e w' => TolR w ⟨0, 0, 1⟩ e w' := by
  have d1 : decide ((64 : Int) < (l.length : Int)) = false := decide_eq_false (by omega)
  have d2 : decide (64 < l.length) = false := decide_eq_false hl
  have HF := hide (fun W (hW : Below w.heap.size w W) => isfrac_any A cap l W (h.below hW) hcp hm)
  rw [decide_eq_false hj] at HF
  clear hj
  go_enter Tryz.func32, Tryz.ntmps32
  go_upto_region 1 with fail
  obtain ⟨n0, hsz, hw0⟩ := one_new w (.cells #[.int .i64 0, .int .i64 0] 23)
  generalize w.alloc (.cells #[.int .i64 0, .int .i64 0] 23) = W0 at *
  have r0 : W0.cell? ⟨w.heap.size, 0, none⟩ = some (.int .i64 0) := cells_of n0 0
  have r1 : W0.cell? ⟨w.heap.size, 1, none⟩ = some (.int .i64 0) := cells_of n0 1
  have f0 := unfrozen_of n0 0; have f1 := unfrozen_of n0 1
  have q0 := lt_of_block n0
  clear n0 hsz
  go_wp2_with fail
  refine ((unhide HF) _ hw0).mono ?_
  rintro e W1 ⟨rfl, hb⟩
  obtain ⟨hc, hfz⟩ := bcell hb
  replace r0 := (hc _ _ q0).trans r0
  replace r1 := (hc _ _ q0).trans r1
  replace f0 := (hfz _ _ q0).trans f0
  replace f1 := (hfz _ _ q0).trans f1
  replace q0 := Nat.lt_of_lt_of_le q0 hb.size
  replace hw0 := below_step' hw0 hb
  clear hc hfz
  clear hb
  go_wp2_with fail
  exact bodyPost_ret (v := .tuple #[.agg #[.int .i64 0, .int .i64 0], .int .i64 1]) (by simp [results, Tryz.results32, go_sem, r0, r1, q0]) rfl
    ⟨rfl, hw0.grown (set2_grown _ _ _ _) hw0.size (fun k hk => by injection hk with hk; omega)⟩

set_option maxRecDepth 100000 in
set_option maxHeartbeats 16000000 in
theorem pjoin_ok (A : Option Addr) (cap : Nat) (l : List Int) (w : World) (h : Zs w w.heap.size A l) (hcp : l.length ≤ cap) (hm : cap ≤ 9223372036854775807) (hT : Tab w) (hl : ¬ 64 < l.length) (hj : Wd.JoinOk l) (hin : ∀ i, i < l.length → -9223372036854775808 ≤ l.getD i 0 ∧ l.getD i 0 ≤ 9223372036854775807) :
    Calls Tryz.prog 32 #[.slice A l.length cap] w fun e w' => TolR w (Wd.told (Wd.joinQ l)) e w' := by
  have d1 : decide ((64 : Int) < (l.length : Int)) = false := decide_eq_false (by omega)
  have d2 : decide (64 < l.length) = false := decide_eq_false hl
  have HF := hide (fun W (hW : Below w.heap.size w W) => isfrac_any A cap l W (h.below hW) hcp hm)
  rw [decide_eq_true hj] at HF
  obtain ⟨m, hm1⟩ : ∃ m, l.length = m + 1 := ⟨l.length - 1, by have := hj.1; omega⟩
  have HIN := hide hin; have HJ := hide hj; have HT := hide hT
  obtain ⟨b, off, rfl, hbb, hcell⟩ := h (by omega)
  have hsz64 : ∀ i, i ≤ m → SzQ (m + 1) (Wd.joinQ (l.drop i)) ∧ (1 ≤ i → 0 < (Wd.joinQ (l.drop i)).num) ∧ (i < m → Wd.joinQ (l.drop i) = Rat.divInt (gi l i) 1 + (Wd.joinQ (l.drop (i + 1)))⁻¹) := fun i hi => by
    have hB : 9223372036854775809 ≤ B64 ^ 1 := by rw [Nat.pow_one, B64_eq]; omega
    have e := Wd.drop_cons (l := l) (i := i) (by omega)
    have hbig := Wd.big_drop hj hin (i + 1) (by omega)
    have hz := Wd.join_any hB B64_pos (l.getD i 0) (l.drop (i + 1)) (hin i (by omega)) hbig
    rw [← e, Nat.one_mul, List.length_drop] at hz
    refine ⟨⟨hz.1.mono B64_pos (by omega), hz.2.mono B64_pos (by omega)⟩, fun h1 => ?_, fun h1 => ?_⟩
    · have hne : l.drop i ≠ [] := by rw [e]; simp
      exact (Wd.join_big hB B64_pos (l.drop i) hne (Wd.big_drop hj hin i h1)).1
    · rw [e]
      exact Wd.joinQ_cons _ (by rw [Wd.drop_cons (l := l) (i := i + 1) (by omega)]; simp)
  have hlast : Wd.joinQ (l.drop m) = Rat.divInt (gi l m) 1 := by
    rw [Wd.drop_cons (l := l) (i := m) (by omega), List.drop_of_length_le (by omega)]; rfl
  have HSZ := hide hsz64
  have HWH := hide (fun i (hi : i < m + 1) W => rwhole_any (gi l i) W (hin i (by omega)).1 (hin i (by omega)).2)
  have e1 : wrap64 (((m + 1 : Nat) : Int) - 1) = (m : Int) := by rw [show ((m + 1 : Nat) : Int) - 1 = (m : Int) by omega]; exact IntWalk.wrap64_in _ (by omega)
  have e1' : IntKind.i64.wrap (((m + 1 : Nat) : Int) - 1) = (m : Int) := by rw [show ((m + 1 : Nat) : Int) - 1 = (m : Int) by omega]; exact IntWalk.i64_in _ (by omega)
  have e0 : ((m + 1 : Nat) : Int) - 1 = (m : Int) := by omega
  rw [hm1] at hl hcp d1 d2 HF hcell ⊢
  have HCELL := hide hcell
  have hlst := hcell m (by omega)
  have HL := Lib.hid hlast
  clear hj hin hT hsz64 hlast hcell
  go_enter Tryz.func32, Tryz.ntmps32
  go_upto_region 1 with fail
  obtain ⟨n0, hsz, hw0⟩ := one_new w (.cells #[.int .i64 0, .int .i64 0] 23)
  generalize w.alloc (.cells #[.int .i64 0, .int .i64 0] 23) = W0 at *
  have r0 : W0.cell? ⟨w.heap.size, 0, none⟩ = some (.int .i64 0) := cells_of n0 0
  have r1 : W0.cell? ⟨w.heap.size, 1, none⟩ = some (.int .i64 0) := cells_of n0 1
  have f0 := unfrozen_of n0 0; have f1 := unfrozen_of n0 1
  have q0 := lt_of_block n0
  clear n0 hsz
  go_wp2_with fail
  refine ((unhide HF) _ hw0).mono ?_
  rintro e W1 ⟨rfl, hb⟩
  obtain ⟨hc, hfz⟩ := bcell hb
  replace r0 := (hc _ _ q0).trans r0
  replace r1 := (hc _ _ q0).trans r1
  replace f0 := (hfz _ _ q0).trans f0
  replace f1 := (hfz _ _ q0).trans f1
  replace q0 := Nat.lt_of_lt_of_le q0 hb.size
  replace hw0 := below_step' hw0 hb
  clear hc hfz
  clear hb
  have hl1 := (hw0.cell (p := ⟨b, off + m, none⟩) hbb).trans hlst
  go_wp2_with fail
  refine ((unhide HWH) m (by omega) W1).mono ?_
  rintro e W2 ⟨s1a, neg1a, A1a, c1a, l1a, s1b, neg1b, A1b, c1b, l1b, rfl, g1, g2, hb⟩
  obtain ⟨hc, hfz⟩ := bcell hb
  replace r0 := (hc _ _ q0).trans r0
  replace r1 := (hc _ _ q0).trans r1
  replace f0 := (hfz _ _ q0).trans f0
  replace f1 := (hfz _ _ q0).trans f1
  replace q0 := Nat.lt_of_lt_of_le q0 hb.size
  replace hw0 := below_step' hw0 hb
  clear hc hfz
  clear hb hl1
  rw [← HL.out] at g1 g2
  have hbx := boxt_new ⟨g1, g2⟩
  have hb := below_alloc (Below.refl W2.heap.size W2) (.cells #[.int .i64 s1a, .bool neg1a, .slice A1a l1a.length c1a, .int .i64 s1b, .bool neg1b, .slice A1b l1b.length c1b] 63)
  clear g1 g2
  go_upto_region 7 with fail
  obtain ⟨bx, hbxe⟩ : ∃ b, b = W2.heap.size := ⟨_, rfl⟩
  rw [← hbxe] at hbx ⊢
  have hbB : w.heap.size < bx := by rw [hbxe]; exact q0
  generalize W2.alloc (.cells #[.int .i64 s1a, .bool neg1a, .slice A1a l1a.length c1a, .int .i64 s1b, .bool neg1b, .slice A1b l1b.length c1b] 63) = W3 at *
  obtain ⟨hc, hfz⟩ := bcell hb
  replace r0 := (hc _ _ q0).trans r0
  replace r1 := (hc _ _ q0).trans r1
  replace f0 := (hfz _ _ q0).trans f0
  replace f1 := (hfz _ _ q0).trans f1
  replace q0 := Nat.lt_of_lt_of_le q0 hb.size
  replace hw0 := below_step' hw0 hb
  clear hc hfz
  clear hb hbxe
  have HW0 := hide hw0; have HRES := hide (And.intro (And.intro r0 r1) (And.intro (And.intro f0 f1) q0))
  have hbs := (unhide HW0).size
  go_wp2_with fail
  go_loopw [6] (fun iv wr => ∃ i : Nat, i ≤ m ∧ iv = .int .i64 (((i : Nat) : Int) - 1) ∧ BoxT wr bx (Wd.joinQ (l.drop i)) ∧ Hid (Below (w.heap.size + 1) W3 wr)) (fun iv _ => (intOf iv + 1).toNat)
  case atStart => exact ⟨m, Nat.le_refl _, by first | rfl | go_num, hbx, Below.refl _ _⟩
  case round =>
    obtain ⟨i, hi, rfl, hbq, hgr⟩ := hrel
    have hwr : Below w.heap.size w wr := (unhide HW0).trans (hgr.out.mono (by omega))
    have hq0 := (unhide HRES).2.2
    have hgs := hgr.out.size
    rcases Nat.eq_zero_or_pos i with rfl | hpos
    · obtain ⟨⟨r0, r1⟩, ⟨f0, f1⟩, q0⟩ := unhide HRES
      have hblk := hgr.out.block w.heap.size (by omega)
      replace r0 := (World.cell?_of_block (a := ⟨w.heap.size, 0, none⟩) hblk).trans r0
      replace r1 := (World.cell?_of_block (a := ⟨w.heap.size, 1, none⟩) hblk).trans r1
      replace f0 := (World.frozen?_of_block (a := ⟨w.heap.size, 0, none⟩) hblk).trans f0
      replace f1 := (World.frozen?_of_block (a := ⟨w.heap.size, 1, none⟩) hblk).trans f1
      replace q0 := Nat.lt_of_lt_of_le q0 hgs
      rw [List.drop_zero] at hbq
      obtain ⟨s1a, neg1a, A1a, c1a, l1a, s1b, neg1b, A1b, c1b, l1b, j1, f1'⟩ := hbq
      have kx_0 : wr.cell? ⟨bx, 0, none⟩ = some (.int .i64 s1a) := cells_of j1 0
      have kx_1 : wr.cell? ⟨bx, 1, none⟩ = some (.bool neg1a) := cells_of j1 1
      have kx_2 : wr.cell? ⟨bx, 2, none⟩ = some (.slice A1a l1a.length c1a) := cells_of j1 2
      have kx_3 : wr.cell? ⟨bx, 3, none⟩ = some (.int .i64 s1b) := cells_of j1 3
      have kx_4 : wr.cell? ⟨bx, 4, none⟩ = some (.bool neg1b) := cells_of j1 4
      have kx_5 : wr.cell? ⟨bx, 5, none⟩ = some (.slice A1b l1b.length c1b) := cells_of j1 5
      have hrat := rrat_any s1a neg1a A1a c1a l1a _ s1b neg1b A1b c1b l1b _ wr f1'.n f1'.d _ rfl rfl
      have HRAT := hide hrat
      have hw0 := hwr
      clear hrat f1' j1 hblk hwr hgr HRES HW0 HSZ HWH HIN HJ HCELL hlst hq0
      rw [show (((0 : Nat) : Int) - 1) = -1 by rfl]
      go_wp2_with fail
      refine (unhide HRAT).mono ?_
      rintro e W5 ⟨rfl, hb⟩
      obtain ⟨hc, hfz⟩ := bcell hb
      replace r0 := (hc _ _ q0).trans r0
      replace r1 := (hc _ _ q0).trans r1
      replace f0 := (hfz _ _ q0).trans f0
      replace f1 := (hfz _ _ q0).trans f1
      replace q0 := Nat.lt_of_lt_of_le q0 hb.size
      replace hw0 := below_step' hw0 hb
      clear hc hfz
      clear hb kx_0 kx_1 kx_2 kx_3 kx_4 kx_5
      go_wp2_with fail
      exact bodyPost_ret (v := .tuple #[.agg #[.int .i64 (Wd.told (Wd.joinQ l)).n, .int .i64 (Wd.told (Wd.joinQ l)).d], .int .i64 (Wd.told (Wd.joinQ l)).e]) (by simp [results, Tryz.results32, go_sem, r0, r1, q0]) rfl
        ⟨rfl, hw0.grown (set2_grown _ _ _ _) hw0.size (fun k hk => by injection hk with hk; omega)⟩
    · obtain ⟨t, rfl⟩ : ∃ t, i = t + 1 := ⟨i - 1, by omega⟩
      have eiv : (((t + 1 : Nat) : Int) - 1) = (t : Int) := by omega
      rw [eiv]
      obtain ⟨s1, s2, _⟩ := (unhide HSZ) (t + 1) hi
      obtain ⟨_, _, s3⟩ := (unhide HSZ) t (by omega)
      replace s3 := s3 (by omega)
      replace s2 := s2 (by omega)
      have hint := (unhide HIN) t (by omega)
      have hlim : (m + 1) + (m + 1) + 1 ≤ lim := by rw [lim_eq]; omega
      have sa : SzQ (m + 1) (Rat.divInt (gi l t) 1) := by
        obtain ⟨o1, o2⟩ := Wd.one_parts (gi l t)
        have hB : Wd.Sz B64 1 (Rat.divInt (gi l t) 1).num := by rw [o1]; unfold Wd.Sz; rw [Nat.pow_one, B64_eq, gi_def]; omega
        have hB2 : Wd.Sz B64 1 ((Rat.divInt (gi l t) 1).den : Int) := by rw [o2]; unfold Wd.Sz; rw [Nat.pow_one, B64_eq]; omega
        exact ⟨hB.mono B64_pos (by omega), hB2.mono B64_pos (by omega)⟩
      have hT' : Tab wr := (unhide HT).below hwr
      have HIV := hide (opq_inv wr (Wd.joinQ (l.drop (t + 1))) (by omega))
      have HAD := hide (opq_add hT' (Rat.divInt (gi l t) 1) ((Wd.joinQ (l.drop (t + 1)))⁻¹) sa (s1.inv (by omega)) hlim).1
      have HWt := hide ((unhide HWH) t (by omega))
      rw [← s3] at HAD
      have hct := (hwr.cell (p := ⟨b, off + t, none⟩) hbb).trans ((unhide HCELL) t (by omega))
      obtain ⟨s1a, neg1a, A1a, c1a, l1a, s1b, neg1b, A1b, c1b, l1b, j1, f1'⟩ := hbq
      have kx_0 : wr.cell? ⟨bx, 0, none⟩ = some (.int .i64 s1a) := cells_of j1 0
      have kx_1 : wr.cell? ⟨bx, 1, none⟩ = some (.bool neg1a) := cells_of j1 1
      have kx_2 : wr.cell? ⟨bx, 2, none⟩ = some (.slice A1a l1a.length c1a) := cells_of j1 2
      have kx_3 : wr.cell? ⟨bx, 3, none⟩ = some (.int .i64 s1b) := cells_of j1 3
      have kx_4 : wr.cell? ⟨bx, 4, none⟩ = some (.bool neg1b) := cells_of j1 4
      have kx_5 : wr.cell? ⟨bx, 5, none⟩ = some (.slice A1b l1b.length c1b) := cells_of j1 5
      have ux_0 := unfrozen_of j1 0
      have ux_1 := unfrozen_of j1 1
      have ux_2 := unfrozen_of j1 2
      have ux_3 := unfrozen_of j1 3
      have ux_4 := unfrozen_of j1 4
      have ux_5 := unfrozen_of j1 5
      have qx := lt_of_block j1
      have F1 := hide f1'; have J1 := hide j1
      obtain ⟨a, ha⟩ : ∃ a, a = gi l t := ⟨_, rfl⟩
      obtain ⟨x, hx⟩ : ∃ x, x = Wd.joinQ (l.drop (t + 1)) := ⟨_, rfl⟩
      rw [← ha] at hct HAD HWt
      rw [← hx] at F1 HIV HAD
      have d3 : decide ((0 : Int) ≤ (t : Int)) = true := decide_eq_true (by omega)
      clear f1' j1 s1 s2 s3 hint hlim sa hT' eiv ha hx hpos
      go_wp2_with fail
      go_region_with (first | (go_at_call 70; refine ((unhide HWt) _).mono ?_; rintro e w' ⟨s2a, neg2a, A2a, c2a, l2a, s2b, neg2b, A2b, c2b, l2b, rfl, g1, g2, hb2⟩; (try (first | replace iq3 := IQ.below iq3 hb2 | replace iq3 := (IQ.below iq3 (Below.drew (Below.refl _ _))).below hb2)); have iq2 := IQ.mk g1 g2; clear g1 g2; have hbw := below_step (w := wr) (by (first | with_reducible assumption | (repeat (first | with_reducible exact Below.refl _ _ | with_reducible assumption | refine Below.drew ?_ | (refine Below.alloc ?_ (by simp <;> omega) _) | refine belowN ?_ _)))) hb2; obtain ⟨hc, hfz⟩ := bcell hbw) | (go_at_call 83; refine ((unhide HIV) s1a neg1a A1a c1a l1a s1b neg1b A1b c1b l1b _ (by (first | with_reducible assumption | (repeat (first | with_reducible exact Below.refl _ _ | with_reducible assumption | refine Below.drew ?_ | (refine Below.alloc ?_ (by simp <;> omega) _) | refine belowN ?_ _)))) ((unhide F1).below (by (first | with_reducible assumption | (repeat (first | with_reducible exact Below.refl _ _ | with_reducible assumption | refine Below.drew ?_ | (refine Below.alloc ?_ (by simp <;> omega) _) | refine belowN ?_ _))))).n ((unhide F1).below (by (first | with_reducible assumption | (repeat (first | with_reducible exact Below.refl _ _ | with_reducible assumption | refine Below.drew ?_ | (refine Below.alloc ?_ (by simp <;> omega) _) | refine belowN ?_ _))))).d).mono ?_; rintro e w' ⟨s3a, neg3a, A3a, c3a, l3a, s3b, neg3b, A3b, c3b, l3b, rfl, g1, g2, hb3⟩; (try (first | replace iq2 := IQ.below iq2 hb3 | replace iq2 := (IQ.below iq2 (Below.drew (Below.refl _ _))).below hb3)); have iq3 := IQ.mk g1 g2; clear g1 g2; have hbw := below_step (w := wr) (by (first | with_reducible assumption | (repeat (first | with_reducible exact Below.refl _ _ | with_reducible assumption | refine Below.drew ?_ | (refine Below.alloc ?_ (by simp <;> omega) _) | refine belowN ?_ _)))) hb3; obtain ⟨hc, hfz⟩ := bcell hbw) | (go_at_call 82; refine ((unhide HAD) s2a neg2a A2a c2a l2a s2b neg2b A2b c2b l2b s3a neg3a A3a c3a l3a s3b neg3b A3b c3b l3b _ (by (first | with_reducible assumption | (repeat (first | with_reducible exact Below.refl _ _ | with_reducible assumption | refine Below.drew ?_ | (refine Below.alloc ?_ (by simp <;> omega) _) | refine belowN ?_ _)))) (IQ.n (q := Rat.divInt a 1) (by first | exact iq2 | exact IQ.below iq2 (Below.drew (Below.refl _ _)))) (IQ.d (q := Rat.divInt a 1) (by first | exact iq2 | exact IQ.below iq2 (Below.drew (Below.refl _ _)))) (IQ.n (q := x⁻¹) (by first | exact iq3 | exact IQ.below iq3 (Below.drew (Below.refl _ _)))) (IQ.d (q := x⁻¹) (by first | exact iq3 | exact IQ.below iq3 (Below.drew (Below.refl _ _))))).mono ?_; rintro e w' ⟨s4a, neg4a, A4a, c4a, l4a, s4b, neg4b, A4b, c4b, l4b, rfl, g1, g2, hb4⟩; have iq4 := IQ.mk g1 g2; clear g1 g2; have hbw := below_step (w := wr) (by (first | with_reducible assumption | (repeat (first | with_reducible exact Below.refl _ _ | with_reducible assumption | refine Below.drew ?_ | (refine Below.alloc ?_ (by simp <;> omega) _) | refine belowN ?_ _)))) hb4; obtain ⟨hc, hfz⟩ := bcell hbw))
      all_goals
        have hst := boxt_store (boxt_below ⟨_, _, _, _, _, _, _, _, _, _, unhide J1, unhide F1⟩ hbw) iq4 (hgr.out.trans (hbw.mono (by omega))) (by omega) (by have := hbw.size; omega)
        clear iq4
        go_wp2_with fail
        go_roundw
        case rel => exact ⟨t, by omega, by first | rfl | go_num, hst.1, hst.2⟩
        case measure => simp [intOf] <;> omega

end Go.Proofs.YtmahhmdodfimbaaGreatDoor
/- The reference: numbers as they are told, nought without a denominator among them. -/
namespace Go.Proofs.YtmahhmdodfimbaaGreatDoor
open Go.RowKit

set_option maxRecDepth 100000 in
set_option maxHeartbeats 2000000 in
theorem tRatv_any (A1 : Option Addr) (c1 : Nat) (l1 : List Nat) (m1 : Bool) (A2 : Option Addr) (c2 : Nat) (l2 : List Nat) (m2 : Bool) (q : Rat) (w : World) (h : QV w A1 c1 l1 m1 A2 c2 l2 m2 q) :
    Calls Tryz.prog 94 #[.agg #[.slice A1 l1.length c1, .bool m1, .slice A2 l2.length c2, .bool m2]] w fun e w' => RatP w q e w' := by
  have HS1 := hide (fun W (hW : Below w.heap.size w W) => tsmall_any A1 c1 l1 m1 q.num W (h.num.below hW))
  have HS2 := hide (fun A c l m W (f : WholeF W A c l m (q.den : Int)) => tsmall_any A c l m (q.den : Int) W f)
  have HD := hide (fun W (hW : Below w.heap.size w W) => tdenv_any A1 c1 l1 m1 A2 c2 l2 m2 q W (h.below hW))
  have ht : (Wd.fits q → Wd.told q = ⟨q.num, q.den, 0⟩) ∧ (¬ Wd.fits q → Wd.told q = ⟨0, 0, 3⟩) := ⟨fun h => if_pos h, fun h => if_neg h⟩
  have hfi : Wd.fits q ↔ q.num.natAbs ≤ 1000000000000 ∧ q.den ≤ 1000000000000 := Iff.rfl
  have HT := hide (And.intro ht hfi)
  clear h ht hfi
  go_enter Tryz.func94, Tryz.ntmps94
  go_wp2_with fail
  obtain ⟨n0, n1, hsz, hw0⟩ := two_new w (.cells #[.slice A1 l1.length c1, .bool m1, .slice A2 l2.length c2, .bool m2] 52) (.cells #[.int .i64 0, .int .i64 0] 23)
  generalize ((w.alloc (.cells #[.slice A1 l1.length c1, .bool m1, .slice A2 l2.length c2, .bool m2] 52)).alloc (.cells #[.int .i64 0, .int .i64 0] 23)) = W0 at *
  have k0 : W0.cell? ⟨w.heap.size, 0, none⟩ = some (.slice A1 l1.length c1) := cells_of n0 0
  have k1 : W0.cell? ⟨w.heap.size, 1, none⟩ = some (.bool m1) := cells_of n0 1
  have k2 : W0.cell? ⟨w.heap.size, 2, none⟩ = some (.slice A2 l2.length c2) := cells_of n0 2
  have k3 : W0.cell? ⟨w.heap.size, 3, none⟩ = some (.bool m2) := cells_of n0 3
  have p0 : W0.cell? ⟨w.heap.size + 1, 0, none⟩ = some (.int .i64 0) := cells_of n1 0
  have p1 : W0.cell? ⟨w.heap.size + 1, 1, none⟩ = some (.int .i64 0) := cells_of n1 1
  have v0 := unfrozen_of n1 0; have v1 := unfrozen_of n1 1
  have q0 := lt_of_block n0; have q1 := lt_of_block n1
  clear n0 n1 hsz
  refine ((unhide HS1) _ hw0).mono ?_
  rintro e W1 ⟨x1, ok1, rfl, hok1, hx1, hb1⟩
  obtain ⟨hc1, hf1⟩ := bcell hb1
  have hw1 := below_step' hw0 hb1
  have OK1 := Lib.hid hok1; have X1 := hide hx1; have HB1 := hide hb1; have HW1 := hide hw1
  clear hok1 hx1 hb1 hw1
  go_wp2_with fail
  refine ((unhide HD) _ (unhide HW1)).mono ?_
  rintro e W2 ⟨A9, c9, l9, m9, rfl, f9, hb2⟩
  have F9 := hide f9
  clear f9
  have hb2' := below_step' (unhide HB1) hb2
  obtain ⟨hc2, hf2⟩ := bcell hb2'
  have hw2 := below_step' hw0 hb2'
  have HB2 := hide hb2'; have HW2 := hide hw2
  clear hb2 hb2' hw2 hc1 hf1
  go_wp2_with fail
  refine ((unhide HS2) A9 c9 l9 m9 _ (unhide F9)).mono ?_
  rintro e W3 ⟨x2, ok2, rfl, hok2, hx2, hb3⟩
  have hb3' := below_step' (unhide HB2) hb3
  obtain ⟨hc3, hf3⟩ := bcell hb3'
  have hw3 := below_step' hw0 hb3'
  have OK2 := Lib.hid hok2; have X2 := hide hx2; have HW3 := hide hw3
  have hg9 : ∀ u0 u1 : Value, Below w.heap.size w ((W3.setCell ⟨w.heap.size + 1, 0, none⟩ u0).setCell ⟨w.heap.size + 1, 1, none⟩ u1) := fun u0 u1 => hw3.grown (set2_grown _ _ _ _) hw3.size (fun k hk => by injection hk with hk; omega)
  have HG9 := hide hg9
  clear hok2 hx2 hb3 hb3' hw3 hc2 hf2 hg9 HS1 HS2 HD HB1 HB2 HW1 HW2
  cases ok1 <;> cases ok2
  · have hn : ¬ Wd.fits q := fun h => by have := (unhide HT).2.1 h; have h2 := of_decide_eq_false OK1.out.symm; omega
    have HN := Lib.hid ((unhide HT).1.2 hn)
    clear hn
    go_wp2_with fail
    exact bodyPost_ret (v := .tuple #[.agg #[.int .i64 0, .int .i64 0], .bool false]) (by simp [results, Tryz.results94, go_sem, hc3, p0, p1, q1]) rfl ⟨0, 0, false, rfl, (unhide HG9) _ _, .inr ⟨rfl, HN.out⟩⟩
  · have hn : ¬ Wd.fits q := fun h => by have := (unhide HT).2.1 h; have h2 := of_decide_eq_false OK1.out.symm; omega
    have HN := Lib.hid ((unhide HT).1.2 hn)
    clear hn
    go_wp2_with fail
    exact bodyPost_ret (v := .tuple #[.agg #[.int .i64 0, .int .i64 0], .bool false]) (by simp [results, Tryz.results94, go_sem, hc3, p0, p1, q1]) rfl ⟨0, 0, false, rfl, (unhide HG9) _ _, .inr ⟨rfl, HN.out⟩⟩
  · have hn : ¬ Wd.fits q := fun h => by have := (unhide HT).2.1 h; have h2 := of_decide_eq_false OK2.out.symm; omega
    have HN := Lib.hid ((unhide HT).1.2 hn)
    clear hn
    go_wp2_with fail
    exact bodyPost_ret (v := .tuple #[.agg #[.int .i64 0, .int .i64 0], .bool false]) (by simp [results, Tryz.results94, go_sem, hc3, p0, p1, q1]) rfl ⟨0, 0, false, rfl, (unhide HG9) _ _, .inr ⟨rfl, HN.out⟩⟩
  · have e1 := (unhide X1) rfl
    have e2 := (unhide X2) rfl
    subst e1 e2
    by_cases hfit : Wd.fits q
    · have HN := Lib.hid ((unhide HT).1.1 hfit)
      obtain ⟨a1, a2⟩ := (unhide HT).2.1 hfit
      have d1 : decide (q.num < -1000000000000) = false := decide_eq_false (by omega)
      have d2 : decide (1000000000000 < q.num) = false := decide_eq_false (by omega)
      have d3 : decide ((1000000000000 : Int) < (q.den : Int)) = false := decide_eq_false (by omega)
      clear hfit
      go_wp2_with fail
      all_goals first | omega | skip
      exact bodyPost_ret (v := .tuple #[.agg #[.int .i64 q.num, .int .i64 q.den], .bool true]) (by simp [results, Tryz.results94, go_sem, hc3, p0, p1, q1]) rfl ⟨q.num, q.den, true, rfl, (unhide HG9) _ _, .inl ⟨rfl, HN.out⟩⟩
    · have HN := Lib.hid ((unhide HT).1.2 hfit)
      have hor : q.num < -1000000000000 ∨ 1000000000000 < q.num ∨ (1000000000000 : Int) < (q.den : Int) := by
        have h1 := (unhide HT).2.2
        by_cases a : q.num < -1000000000000
        · exact .inl a
        by_cases b : 1000000000000 < q.num
        · exact .inr (.inl b)
        by_cases c : (1000000000000 : Int) < (q.den : Int)
        · exact .inr (.inr c)
        exact absurd (h1 ⟨by omega, by omega⟩) hfit
      clear hfit
      go_wp2_with fail
      all_goals first | omega | skip
      all_goals exact bodyPost_ret (v := .tuple #[.agg #[.int .i64 0, .int .i64 0], .bool false]) (by simp [results, Tryz.results94, go_sem, hc3, p0, p1, q1]) rfl ⟨0, 0, false, rfl, (unhide HG9) _ _, .inr ⟨rfl, HN.out⟩⟩
end Go.Proofs.YtmahhmdodfimbaaGreatDoor
/- The reference: what is told, of nought without a denominator, too. -/
namespace Go.Proofs.YtmahhmdodfimbaaGreatDoor
open Go.RowKit

set_option maxRecDepth 100000 in
set_option maxHeartbeats 2000000 in
theorem ttoldv_any (A1 : Option Addr) (c1 : Nat) (l1 : List Nat) (m1 : Bool) (A2 : Option Addr) (c2 : Nat) (l2 : List Nat) (m2 : Bool) (q : Rat) (w : World) (h : QV w A1 c1 l1 m1 A2 c2 l2 m2 q) :
    Calls Tryz.prog 42 #[.agg #[.slice A1 l1.length c1, .bool m1, .slice A2 l2.length c2, .bool m2]] w fun e w' => TolR w (Wd.told q) e w' := by
  have HR := hide (fun W (hW : Below w.heap.size w W) => tRatv_any A1 c1 l1 m1 A2 c2 l2 m2 q W (h.below hW))
  clear h
  go_enter Tryz.func42, Tryz.ntmps42
  go_wp2_with fail
  obtain ⟨n0, n1, hsz, hw0⟩ := two_new w (.cells #[.slice A1 l1.length c1, .bool m1, .slice A2 l2.length c2, .bool m2] 52) (.cells #[.int .i64 0, .int .i64 0] 23)
  generalize ((w.alloc (.cells #[.slice A1 l1.length c1, .bool m1, .slice A2 l2.length c2, .bool m2] 52)).alloc (.cells #[.int .i64 0, .int .i64 0] 23)) = W0 at *
  have p0 : W0.cell? ⟨w.heap.size + 1, 0, none⟩ = some (.int .i64 0) := cells_of n1 0
  have p1 : W0.cell? ⟨w.heap.size + 1, 1, none⟩ = some (.int .i64 0) := cells_of n1 1
  have v0 := unfrozen_of n1 0; have v1 := unfrozen_of n1 1
  have q1 := lt_of_block n1
  clear n0 n1 hsz
  refine ((unhide HR) _ hw0).mono ?_
  rintro e W1 ⟨n, d, ok, rfl, hb, hor⟩
  rcases hor with ⟨rfl, ht⟩ | ⟨rfl, ht⟩
  · have HT9 := Lib.hid ht
    clear ht
    have hbA := hb.alloc hb.size (.cells #[.int .i64 n, .int .i64 d] 23)
    obtain ⟨hc, hf⟩ := bcell hbA
    obtain ⟨hc', hf'⟩ := bcell hb
    have hwA := below_step' hw0 hbA
    have HWA := hide hwA
    clear hbA hb hwA
    go_wp2_with fail
    exact bodyPost_ret (v := .tuple #[.agg #[.int .i64 n, .int .i64 d], .int .i64 0]) (by simp [results, Tryz.results42, go_sem, hc, hc', p0, p1, q1]) rfl
      ⟨by rw [HT9.out], (unhide HWA).grown (set2_grown _ _ _ _) (unhide HWA).size (fun k hk => by injection hk with hk; omega)⟩
  · have HT9 := Lib.hid ht
    clear ht
    have hbA := hb.alloc hb.size (.cells #[.int .i64 n, .int .i64 d] 23)
    obtain ⟨hc, hf⟩ := bcell hbA
    obtain ⟨hc', hf'⟩ := bcell hb
    have hwA := below_step' hw0 hbA
    have HWA := hide hwA
    clear hbA hb hwA
    go_wp2_with fail
    exact bodyPost_ret (v := .tuple #[.agg #[.int .i64 0, .int .i64 0], .int .i64 3]) (by simp [results, Tryz.results42, go_sem, hc, hc', p0, p1, q1]) rfl
      ⟨by rw [HT9.out], (unhide HWA).grown (set2_grown _ _ _ _) (unhide HWA).size (fun k hk => by injection hk with hk; omega)⟩
end Go.Proofs.YtmahhmdodfimbaaGreatDoor
/- The reference: the number of a continued fraction. -/
namespace Go.Proofs.YtmahhmdodfimbaaGreatDoor
open Go.RowKit

theorem boxq_below {w w' : World} {b : Nat} {q : Rat} (h : BoxQ w b q) (hb : Below w.heap.size w w') : BoxQ w' b q := BoxQ.below h hb
theorem boxq_st {w W : World} {B b : Nat} {q : Rat} {A2a : Option Addr} {c2a : Nat} {l2a : List Nat} {m2a : Bool} {A2b : Option Addr} {c2b : Nat} {l2b : List Nat} {m2b : Bool} {x2 : Rat} (hq : BoxQ W b q) (hv : QV W A2a c2a l2a m2a A2b c2b l2b m2b x2) (hb : Below B w W) (hB : B ≤ b) (hBW : B ≤ W.heap.size) : BoxQ ((((W.setCell ⟨b, 0, none⟩ (.slice A2a l2a.length c2a)).setCell ⟨b, 1, none⟩ (.bool m2a)).setCell ⟨b, 2, none⟩ (.slice A2b l2b.length c2b)).setCell ⟨b, 3, none⟩ (.bool m2b)) b x2 ∧ Below B w ((((W.setCell ⟨b, 0, none⟩ (.slice A2a l2a.length c2a)).setCell ⟨b, 1, none⟩ (.bool m2a)).setCell ⟨b, 2, none⟩ (.slice A2b l2b.length c2b)).setCell ⟨b, 3, none⟩ (.bool m2b)) := by
  obtain ⟨A, c, l, m, A', c', l', m', h1, h2⟩ := hq
  have hg := set4_grown W b (.slice A2a l2a.length c2a) (.bool m2a) (.slice A2b l2b.length c2b) (.bool m2b)
  exact ⟨⟨_, _, _, _, _, _, _, _, set4_block h1, hv.upto h1 (noW2_4 _ _ _ _ _ _ _ _) hg⟩, hb.grown hg hBW (fun k hk => by injection hk with hk; omega)⟩
theorem inv_eq (x : Rat) : Rat.divInt 1 1 / x = x⁻¹ := by
  rw [Rat.div_def, show Rat.divInt 1 1 = (1 : Rat) from rfl, Rat.one_mul]
set_option maxRecDepth 100000 in
set_option maxHeartbeats 16000000 in
theorem rjoin_long (A : Option Addr) (cap : Nat) (l : List Int) (w : World) (hl : 64 < l.length) (hcp : l.length ≤ cap) (hm : cap ≤ 9223372036854775807) :
    Calls Tryz.prog 33 #[.slice A l.length cap] w fun e w' => TolR w ⟨0, 0, 3⟩ e w' := by
  have d1 : decide ((64 : Int) < (l.length : Int)) = true := decide_eq_true (by omega)
  have d2 : decide (64 < l.length) = true := decide_eq_true hl
  go_enter Tryz.func33, Tryz.ntmps33
  go_upto_region 1 with fail
  obtain ⟨n0, hsz, hw0⟩ := one_new w (.cells #[.int .i64 0, .int .i64 0] 23)
  generalize w.alloc (.cells #[.int .i64 0, .int .i64 0] 23) = W0 at *
  have r0 : W0.cell? ⟨w.heap.size, 0, none⟩ = some (.int .i64 0) := cells_of n0 0
  have r1 : W0.cell? ⟨w.heap.size, 1, none⟩ = some (.int .i64 0) := cells_of n0 1
  have f0 := unfrozen_of n0 0; have f1 := unfrozen_of n0 1
  have q0 := lt_of_block n0
  clear n0 hsz
  go_wp2_with fail
  exact bodyPost_ret (v := .tuple #[.agg #[.int .i64 0, .int .i64 0], .int .i64 3]) (by simp [results, Tryz.results33, go_sem, r0, r1, q0]) rfl
    ⟨rfl, hw0.grown (set2_grown _ _ _ _) hw0.size (fun k hk => by injection hk with hk; omega)⟩

set_option maxRecDepth 100000 in
set_option maxHeartbeats 16000000 in
theorem rjoin_none (A : Option Addr) (cap : Nat) (l : List Int) (w : World) (hl : l.length = 0) :
    Calls Tryz.prog 33 #[.slice A l.length cap] w fun e w' => TolR w ⟨0, 0, 1⟩ e w' := by
  rw [hl]
  go_enter Tryz.func33, Tryz.ntmps33
  go_upto_region 1 with fail
  obtain ⟨n0, hsz, hw0⟩ := one_new w (.cells #[.int .i64 0, .int .i64 0] 23)
  generalize w.alloc (.cells #[.int .i64 0, .int .i64 0] 23) = W0 at *
  have r0 : W0.cell? ⟨w.heap.size, 0, none⟩ = some (.int .i64 0) := cells_of n0 0
  have r1 : W0.cell? ⟨w.heap.size, 1, none⟩ = some (.int .i64 0) := cells_of n0 1
  have f0 := unfrozen_of n0 0; have f1 := unfrozen_of n0 1
  have q0 := lt_of_block n0
  clear n0 hsz
  go_wp2_with fail
  exact bodyPost_ret (v := .tuple #[.agg #[.int .i64 0, .int .i64 0], .int .i64 1]) (by simp [results, Tryz.results33, go_sem, r0, r1, q0]) rfl
    ⟨rfl, hw0.grown (set2_grown _ _ _ _) hw0.size (fun k hk => by injection hk with hk; omega)⟩

set_option maxRecDepth 100000 in
set_option maxHeartbeats 16000000 in
theorem rjoin_last (A : Option Addr) (cap : Nat) (l : List Int) (w : World) (h : Zs w w.heap.size A l) (hcp : l.length ≤ cap) (hm : cap ≤ 9223372036854775807) (hl : ¬ 64 < l.length) (h1 : 1 < l.length) (hv : gi l (l.length - 1) = 1) :
    Calls Tryz.prog 33 #[.slice A l.length cap] w fun e w' => TolR w ⟨0, 0, 1⟩ e w' := by
  obtain ⟨m, hm1⟩ : ∃ m, l.length = m + 1 := ⟨l.length - 1, by omega⟩
  obtain ⟨b, off, rfl, hbb, hcell⟩ := h (by omega)
  rw [hm1] at hl h1 hcp hcell hv ⊢
  have hlst := hcell m (by omega)
  rw [show m = m + 1 - 1 by omega, hv, show m + 1 - 1 = m by omega] at hlst
  have d1 : decide ((64 : Int) < ((m + 1 : Nat) : Int)) = false := decide_eq_false (by omega)
  have d2 : decide (64 < m + 1) = false := decide_eq_false (by omega)
  have d1' : decide ((64 : Int) < (m : Int) + 1) = false := decide_eq_false (by omega)
  have b0 : ((((m + 1 : Nat) : Int)) == 0) = false := beq_eq_false_iff_ne.2 (by omega)
  have b0' : (((m : Int) + 1) == 0) = false := beq_eq_false_iff_ne.2 (by omega)
  have e1 : wrap64 (((m + 1 : Nat) : Int) - 1) = (m : Int) := by rw [show ((m + 1 : Nat) : Int) - 1 = (m : Int) by omega]; exact IntWalk.wrap64_in _ (by omega)
  have e1' : IntKind.i64.wrap (((m + 1 : Nat) : Int) - 1) = (m : Int) := by rw [show ((m + 1 : Nat) : Int) - 1 = (m : Int) by omega]; exact IntWalk.i64_in _ (by omega)
  have e0 : ((m + 1 : Nat) : Int) - 1 = (m : Int) := by omega
  have e2 : wrap64 (((m + 1 : Nat) : Int) - 2) = (m : Int) - 1 := by rw [show ((m + 1 : Nat) : Int) - 2 = (m : Int) - 1 by omega]; exact IntWalk.wrap64_in _ (by omega)
  have e2' : IntKind.i64.wrap (((m + 1 : Nat) : Int) - 2) = (m : Int) - 1 := by rw [show ((m + 1 : Nat) : Int) - 2 = (m : Int) - 1 by omega]; exact IntWalk.i64_in _ (by omega)
  have e3 : ((m + 1 : Nat) : Int) - 2 = (m : Int) - 1 := by omega
  have e4 : (m : Int) + 1 - 2 = (m : Int) - 1 := by omega
  have e5 : wrap64 ((m : Int) + 1 - 2) = (m : Int) - 1 := by rw [e4]; exact IntWalk.wrap64_in _ (by omega)
  have e5' : IntKind.i64.wrap ((m : Int) + 1 - 2) = (m : Int) - 1 := by rw [e4]; exact IntWalk.i64_in _ (by omega)
  have e6 : wrap64 ((m : Int) - 1) = (m : Int) - 1 := IntWalk.wrap64_in _ (by omega)
  have e6' : IntKind.i64.wrap ((m : Int) - 1) = (m : Int) - 1 := IntWalk.i64_in _ (by omega)
  have d4 : decide ((1 : Int) < ((m + 1 : Nat) : Int)) = true := decide_eq_true (by omega)
  have d4' : decide ((1 : Int) < (m : Int) + 1) = true := decide_eq_true (by omega)
  have d4'' : decide (1 < m + 1) = true := decide_eq_true (by omega)
  have d5 : decide (0 < m) = true := decide_eq_true (by omega)
  have d5' : decide ((0 : Int) < (m : Int)) = true := decide_eq_true (by omega)
  clear hcell hv
  go_enter Tryz.func33, Tryz.ntmps33
  go_upto_region 1 with fail
  obtain ⟨n0, hsz, hw0⟩ := one_new w (.cells #[.int .i64 0, .int .i64 0] 23)
  generalize w.alloc (.cells #[.int .i64 0, .int .i64 0] 23) = W0 at *
  have r0 : W0.cell? ⟨w.heap.size, 0, none⟩ = some (.int .i64 0) := cells_of n0 0
  have r1 : W0.cell? ⟨w.heap.size, 1, none⟩ = some (.int .i64 0) := cells_of n0 1
  have f0 := unfrozen_of n0 0; have f1 := unfrozen_of n0 1
  have q0 := lt_of_block n0
  clear n0 hsz
  have hl1 := (hw0.cell (p := ⟨b, off + m, none⟩) hbb).trans hlst
  clear hlst
  go_wp2_with fail
  exact bodyPost_ret (v := .tuple #[.agg #[.int .i64 0, .int .i64 0], .int .i64 1]) (by simp [results, Tryz.results33, go_sem, r0, r1, q0]) rfl
    ⟨rfl, hw0.grown (set2_grown _ _ _ _) hw0.size (fun k hk => by injection hk with hk; omega)⟩

set_option maxRecDepth 100000 in
set_option maxHeartbeats 16000000 in
theorem rjoin_main (A : Option Addr) (cap : Nat) (l : List Int) (w : World) (h : Zs w w.heap.size A l) (hcp : l.length ≤ cap) (hm : cap ≤ 9223372036854775807) (hl : ¬ 64 < l.length) (h0 : 0 < l.length) (hla : ¬ (1 < l.length ∧ gi l (l.length - 1) = 1)) (hin : ∀ i, i < l.length → -9223372036854775808 ≤ l.getD i 0 ∧ l.getD i 0 ≤ 9223372036854775807) (T : Wd.Told)
    (hno : (∃ i, i < l.length ∧ 1 ≤ i ∧ gi l i < 1) → T = ⟨0, 0, 1⟩) (hok : (∀ i, i < l.length → 1 ≤ i → 1 ≤ gi l i) → Wd.JoinOk l ∧ T = Wd.told (Wd.joinQ l)) :
    Calls Tryz.prog 33 #[.slice A l.length cap] w fun e w' => TolR w T e w' := by
  obtain ⟨m, hm1⟩ : ∃ m, l.length = m + 1 := ⟨l.length - 1, by omega⟩
  obtain ⟨b, off, rfl, hbb, hcell⟩ := h (by omega)
  have HIN := hide hin; have HNO := hide hno; have HOK := hide hok
  have hsz0 : Wd.JoinOk l → (∀ i, i ≤ m → Wd.SzQ B32 (2 * (m + 1)) (Wd.joinQ (l.drop i)) ∧ (1 ≤ i → 0 < (Wd.joinQ (l.drop i)).num) ∧ (i < m → Wd.joinQ (l.drop i) = Rat.divInt (gi l i) 1 + (Wd.joinQ (l.drop (i + 1)))⁻¹)) ∧ Wd.joinQ (l.drop m) = Rat.divInt (gi l m) 1 := fun hj => by
    refine ⟨fun i hi => ?_, ?_⟩
    · have hB : 9223372036854775809 ≤ B32 ^ 2 := by rw [B32_eq]; omega
      have e := Wd.drop_cons (l := l) (i := i) (by omega)
      have hbig := Wd.big_drop hj hin (i + 1) (by omega)
      have hz := Wd.join_any hB B32_pos (l.getD i 0) (l.drop (i + 1)) (hin i (by omega)) hbig
      rw [← e, List.length_drop] at hz
      refine ⟨⟨hz.1.mono B32_pos (by omega), hz.2.mono B32_pos (by omega)⟩, fun h1 => ?_, fun h1 => ?_⟩
      · have hne : l.drop i ≠ [] := by rw [e]; simp
        exact (Wd.join_big hB B32_pos (l.drop i) hne (Wd.big_drop hj hin i h1)).1
      · rw [e]
        exact Wd.joinQ_cons _ (by rw [Wd.drop_cons (l := l) (i := i + 1) (by omega)]; simp)
    · rw [Wd.drop_cons (l := l) (i := m) (by omega), List.drop_of_length_le (by omega)]; rfl
  have HSZ0 := hide hsz0
  have HWH := hide (fun i (hi : i < m + 1) W => tInt_any (gi l i) (Rat.divInt (gi l i) 1) W (hin i (by omega)).1 (hin i (by omega)).2 (Wd.one_parts _).1.symm (Wd.one_parts _).2.symm)
  rw [hm1] at hl hcp hcell hla h0 HNO HOK ⊢
  have HCELL := hide hcell
  have hlst := hcell m (by omega)
  have d1 : decide ((64 : Int) < ((m + 1 : Nat) : Int)) = false := decide_eq_false (by omega)
  have d2 : decide (64 < m + 1) = false := decide_eq_false (by omega)
  have d1' : decide ((64 : Int) < (m : Int) + 1) = false := decide_eq_false (by omega)
  have b0 : ((((m + 1 : Nat) : Int)) == 0) = false := beq_eq_false_iff_ne.2 (by omega)
  have b0' : (((m : Int) + 1) == 0) = false := beq_eq_false_iff_ne.2 (by omega)
  have e1 : wrap64 (((m + 1 : Nat) : Int) - 1) = (m : Int) := by rw [show ((m + 1 : Nat) : Int) - 1 = (m : Int) by omega]; exact IntWalk.wrap64_in _ (by omega)
  have e1' : IntKind.i64.wrap (((m + 1 : Nat) : Int) - 1) = (m : Int) := by rw [show ((m + 1 : Nat) : Int) - 1 = (m : Int) by omega]; exact IntWalk.i64_in _ (by omega)
  have e0 : ((m + 1 : Nat) : Int) - 1 = (m : Int) := by omega
  have e2 : wrap64 (((m + 1 : Nat) : Int) - 2) = (m : Int) - 1 := by rw [show ((m + 1 : Nat) : Int) - 2 = (m : Int) - 1 by omega]; exact IntWalk.wrap64_in _ (by omega)
  have e2' : IntKind.i64.wrap (((m + 1 : Nat) : Int) - 2) = (m : Int) - 1 := by rw [show ((m + 1 : Nat) : Int) - 2 = (m : Int) - 1 by omega]; exact IntWalk.i64_in _ (by omega)
  have e3 : ((m + 1 : Nat) : Int) - 2 = (m : Int) - 1 := by omega
  have e4 : (m : Int) + 1 - 2 = (m : Int) - 1 := by omega
  have e5 : wrap64 ((m : Int) + 1 - 2) = (m : Int) - 1 := by rw [e4]; exact IntWalk.wrap64_in _ (by omega)
  have e5' : IntKind.i64.wrap ((m : Int) + 1 - 2) = (m : Int) - 1 := by rw [e4]; exact IntWalk.i64_in _ (by omega)
  have e6 : wrap64 ((m : Int) - 1) = (m : Int) - 1 := IntWalk.wrap64_in _ (by omega)
  have e6' : IntKind.i64.wrap ((m : Int) - 1) = (m : Int) - 1 := IntWalk.i64_in _ (by omega)
  rw [show m + 1 - 1 = m by omega] at hla
  clear hin hno hok hsz0 hcell
  have hor : (m = 0 ∧ decide ((1 : Int) < ((m + 1 : Nat) : Int)) = false ∧ decide ((1 : Int) < (m : Int) + 1) = false ∧ decide (1 < m + 1) = false ∧ decide (0 < m) = false ∧ decide ((0 : Int) < (m : Int)) = false) ∨ ((gi l m == 1) = false ∧ decide ((1 : Int) < ((m + 1 : Nat) : Int)) = true ∧ decide ((1 : Int) < (m : Int) + 1) = true ∧ decide (1 < m + 1) = true ∧ decide (0 < m) = true ∧ decide ((0 : Int) < (m : Int)) = true) := by
    by_cases hm0 : m = 0
    · exact .inl ⟨hm0, decide_eq_false (by omega), decide_eq_false (by omega), decide_eq_false (by omega), decide_eq_false (by omega), decide_eq_false (by omega)⟩
    · exact .inr ⟨beq_eq_false_iff_ne.2 (fun e => hla ⟨by omega, e⟩), decide_eq_true (by omega), decide_eq_true (by omega), decide_eq_true (by omega), decide_eq_true (by omega), decide_eq_true (by omega)⟩
  clear hla h0
  rcases hor with ⟨-, g1, g2, g3, g4, g5⟩ | ⟨g0, g1, g2, g3, g4, g5⟩
  all_goals
    go_enter Tryz.func33, Tryz.ntmps33
    go_upto_region 1 with fail
    obtain ⟨n0, hsz, hw0⟩ := one_new w (.cells #[.int .i64 0, .int .i64 0] 23)
    generalize w.alloc (.cells #[.int .i64 0, .int .i64 0] 23) = W0 at *
    have r0 : W0.cell? ⟨w.heap.size, 0, none⟩ = some (.int .i64 0) := cells_of n0 0
    have r1 : W0.cell? ⟨w.heap.size, 1, none⟩ = some (.int .i64 0) := cells_of n0 1
    have f0 := unfrozen_of n0 0; have f1 := unfrozen_of n0 1
    have q0 := lt_of_block n0
    clear n0 hsz
    have hl0 := (hw0.cell (p := ⟨b, off + m, none⟩) hbb).trans hlst
    go_upto_region 5 with fail
    clear hl0 g1 g2 g3 g4 g5
    have HRES0 := hide (And.intro (And.intro r0 r1) (And.intro (And.intro f0 f1) q0))
    have HW00 := hide hw0
    go_wp2_with fail
    go_loopw [4] (fun iv wr => ∃ i : Nat, i ≤ m ∧ iv = .int .i64 (((i : Nat) : Int) + 1) ∧ Hid (∀ j, j < i + 1 → 1 ≤ j → 1 ≤ gi l j) ∧ Hid (Below W0.heap.size W0 wr)) (fun iv _ => m + 1 - (intOf iv).toNat)
    case atStart => exact ⟨0, Nat.zero_le _, by first | rfl | go_num, fun j h2 h3 => by omega, by first | exact Below.refl _ _ | exact (Below.refl _ _).drew⟩
    case round =>
      obtain ⟨i, hi, rfl, hall, hbl⟩ := hrel
      have hb := hbl.out
      obtain ⟨hc, hfz⟩ := bcell hb
      replace r0 := (hc _ _ q0).trans r0
      replace r1 := (hc _ _ q0).trans r1
      replace f0 := (hfz _ _ q0).trans f0
      replace f1 := (hfz _ _ q0).trans f1
      replace q0 := Nat.lt_of_lt_of_le q0 hb.size
      replace hw0 := below_step' hw0 hb
      clear hc hfz
      clear hb
      by_cases hlt : i < m
      · have hci := (hw0.cell (p := ⟨b, off + (i + 1), none⟩) hbb).trans ((unhide HCELL) (i + 1) (by omega))
        obtain ⟨v, hv⟩ : ∃ v, v = gi l (i + 1) := ⟨_, rfl⟩
        rw [← hv] at hci
        have d6 : decide ((i : Int) + 1 < ((m + 1 : Nat) : Int)) = true := decide_eq_true (by omega)
        have d6' : decide ((i : Int) + 1 < (m : Int) + 1) = true := decide_eq_true (by omega)
        have d6'' : decide ((i : Int) < (m : Int)) = true := decide_eq_true (by omega)
        have d6n : decide (i < m) = true := decide_eq_true (by omega)
        by_cases hv1 : v < 1
        · have d7 : decide (v < 1) = true := decide_eq_true hv1
          have hTT := (unhide HNO) ⟨i + 1, by omega, by omega, by omega⟩
          subst hTT
          clear hv hv1 HNO HOK hall HSZ0 HIN HCELL HW00 HRES0
          go_wp2_with fail
          exact bodyPost_ret (v := .tuple #[.agg #[.int .i64 0, .int .i64 0], .int .i64 1]) (by simp [results, Tryz.results33, go_sem, r0, r1, q0]) rfl
            ⟨rfl, hw0.grown (set2_grown _ _ _ _) hw0.size (fun k hk => by injection hk with hk; omega)⟩
        · have d7 : decide (v < 1) = false := decide_eq_false hv1
          have hn : Hid (∀ j, j < i + 1 + 1 → 1 ≤ j → 1 ≤ gi l j) := fun j h2 h3 => by
            by_cases h4 : j = i + 1
            · subst h4; omega
            · exact hall.out j (by omega) h3
          clear hv hv1 hall
          go_wp2_with fail
          go_roundw
          case rel => exact ⟨i + 1, by omega, by first | rfl | go_num, hn, by first | exact hbl.out | exact hbl.out.drew⟩
          case measure => simp [intOf] <;> omega
      · obtain rfl : i = m := by omega
        have d6 : decide ((i : Int) + 1 < ((i + 1 : Nat) : Int)) = false := decide_eq_false (by omega)
        have d6' : decide ((i : Int) + 1 < (i : Int) + 1) = false := decide_eq_false (by omega)
        obtain ⟨hj, hTT⟩ := (unhide HOK) (fun j h2 h3 => hall.out j (by omega) h3)
        subst hTT
        obtain ⟨hsz64, hlast⟩ := (unhide HSZ0) hj
        have HSZ := hide hsz64; have HL := Lib.hid hlast
        clear hj hsz64 hlast HNO HOK HSZ0 hall HW00 HRES0
        have hl1 := (hw0.cell (p := ⟨b, off + i, none⟩) hbb).trans hlst
        go_wp2_with fail
        refine ((unhide HWH) i (by omega) wr).mono ?_
        rintro e W2 ⟨A1a, c1a, l1a, m1a, A1b, c1b, l1b, m1b, rfl, g1, g2, hb⟩
        obtain ⟨hc, hfz⟩ := bcell hb
        replace r0 := (hc _ _ q0).trans r0
        replace r1 := (hc _ _ q0).trans r1
        replace f0 := (hfz _ _ q0).trans f0
        replace f1 := (hfz _ _ q0).trans f1
        replace q0 := Nat.lt_of_lt_of_le q0 hb.size
        replace hw0 := below_step' hw0 hb
        clear hc hfz
        clear hb hl1
        rw [← HL.out] at g1 g2
        have hbx := BoxQ.new (QV.of g1 g2) rfl
        have hb := below_alloc (Below.refl W2.heap.size W2) (.cells #[.slice A1a l1a.length c1a, .bool m1a, .slice A1b l1b.length c1b, .bool m1b] 52)
        clear g1 g2
        go_upto_region 11 with fail
        obtain ⟨bx, hbxe⟩ : ∃ b, b = W2.heap.size := ⟨_, rfl⟩
        rw [← hbxe] at hbx ⊢
        have hbB : w.heap.size < bx := by rw [hbxe]; exact q0
        generalize W2.alloc (.cells #[.slice A1a l1a.length c1a, .bool m1a, .slice A1b l1b.length c1b, .bool m1b] 52) = W3 at *
        obtain ⟨hc, hfz⟩ := bcell hb
        replace r0 := (hc _ _ q0).trans r0
        replace r1 := (hc _ _ q0).trans r1
        replace f0 := (hfz _ _ q0).trans f0
        replace f1 := (hfz _ _ q0).trans f1
        replace q0 := Nat.lt_of_lt_of_le q0 hb.size
        replace hw0 := below_step' hw0 hb
        clear hc hfz
        clear hb hbxe
        have HW0 := hide hw0; have HRES := hide (And.intro (And.intro r0 r1) (And.intro (And.intro f0 f1) q0))
        have hbs := (unhide HW0).size
        obtain ⟨m, hmm⟩ : ∃ m, m = i := ⟨_, rfl⟩
        subst hmm
        go_wp2_with fail
        go_loopw [6] (fun iv wr => ∃ i : Nat, i ≤ m ∧ iv = .int .i64 (((i : Nat) : Int) - 1) ∧ BoxQ wr bx (Wd.joinQ (l.drop i)) ∧ Hid (Below (w.heap.size + 1) W3 wr)) (fun iv _ => (intOf iv + 1).toNat)
        case atStart => exact ⟨m, Nat.le_refl _, by first | rfl | go_num, hbx, Below.refl _ _⟩
        case round =>
          obtain ⟨i, hi, rfl, hbq, hgr⟩ := hrel
          have hwr : Below w.heap.size w wr := (unhide HW0).trans (hgr.out.mono (by omega))
          have hq0 := (unhide HRES).2.2
          have hgs := hgr.out.size
          rcases Nat.eq_zero_or_pos i with rfl | hpos
          · obtain ⟨⟨r0, r1⟩, ⟨f0, f1⟩, q0⟩ := unhide HRES
            have hblk := hgr.out.block w.heap.size (by omega)
            replace r0 := (World.cell?_of_block (a := ⟨w.heap.size, 0, none⟩) hblk).trans r0
            replace r1 := (World.cell?_of_block (a := ⟨w.heap.size, 1, none⟩) hblk).trans r1
            replace f0 := (World.frozen?_of_block (a := ⟨w.heap.size, 0, none⟩) hblk).trans f0
            replace f1 := (World.frozen?_of_block (a := ⟨w.heap.size, 1, none⟩) hblk).trans f1
            replace q0 := Nat.lt_of_lt_of_le q0 hgs
            rw [List.drop_zero] at hbq
            obtain ⟨A1a, c1a, l1a, m1a, A1b, c1b, l1b, m1b, j1, f1'⟩ := hbq
            have kx_0 : wr.cell? ⟨bx, 0, none⟩ = some (.slice A1a l1a.length c1a) := cells_of j1 0
            have kx_1 : wr.cell? ⟨bx, 1, none⟩ = some (.bool m1a) := cells_of j1 1
            have kx_2 : wr.cell? ⟨bx, 2, none⟩ = some (.slice A1b l1b.length c1b) := cells_of j1 2
            have kx_3 : wr.cell? ⟨bx, 3, none⟩ = some (.bool m1b) := cells_of j1 3
            have hrat := ttoldv_any A1a c1a l1a m1a A1b c1b l1b m1b _ wr f1'
            have HRAT := hide hrat
            have hw0 := hwr
            clear hrat f1' j1 hblk hwr hgr HRES HW0 HSZ HWH HIN HCELL hlst hq0
            rw [show (((0 : Nat) : Int) - 1) = -1 by rfl]
            go_wp2_with fail
            refine (unhide HRAT).mono ?_
            rintro e W5 ⟨rfl, hb⟩
            obtain ⟨hc, hfz⟩ := bcell hb
            replace r0 := (hc _ _ q0).trans r0
            replace r1 := (hc _ _ q0).trans r1
            replace f0 := (hfz _ _ q0).trans f0
            replace f1 := (hfz _ _ q0).trans f1
            replace q0 := Nat.lt_of_lt_of_le q0 hb.size
            replace hw0 := below_step' hw0 hb
            clear hc hfz
            clear hb kx_0 kx_1 kx_2 kx_3
            go_wp2_with fail
            exact bodyPost_ret (v := .tuple #[.agg #[.int .i64 (Wd.told (Wd.joinQ l)).n, .int .i64 (Wd.told (Wd.joinQ l)).d], .int .i64 (Wd.told (Wd.joinQ l)).e]) (by simp [results, Tryz.results33, go_sem, r0, r1, q0]) rfl
              ⟨rfl, hw0.grown (set2_grown _ _ _ _) hw0.size (fun k hk => by injection hk with hk; omega)⟩
          · obtain ⟨t, rfl⟩ : ∃ t, i = t + 1 := ⟨i - 1, by omega⟩
            have eiv : (((t + 1 : Nat) : Int) - 1) = (t : Int) := by omega
            rw [eiv]
            obtain ⟨s1, s2, _⟩ := (unhide HSZ) (t + 1) hi
            obtain ⟨_, _, s3⟩ := (unhide HSZ) t (by omega)
            replace s3 := s3 (by omega)
            replace s2 := s2 (by omega)
            have hint := (unhide HIN) t (by omega)
            have hB : 9223372036854775809 ≤ B32 ^ 2 := by rw [B32_eq]; omega
            have sa : Wd.SzQ B32 (2 * (m + 1)) (Rat.divInt (gi l t) 1) := by
              obtain ⟨o1, o2⟩ := Wd.one_parts (gi l t)
              have hB1 : Wd.Sz B32 2 (Rat.divInt (gi l t) 1).num := by rw [o1]; unfold Wd.Sz; rw [gi_def]; omega
              have hB2 : Wd.Sz B32 2 ((Rat.divInt (gi l t) 1).den : Int) := by rw [o2]; unfold Wd.Sz; omega
              exact ⟨hB1.mono B32_pos (by omega), hB2.mono B32_pos (by omega)⟩
            have si : Wd.SzQ B32 (2 * (m + 1)) ((Wd.joinQ (l.drop (t + 1)))⁻¹) := by
              have hp := (Wd.inv_parts (Wd.joinQ (l.drop (t + 1))) (by omega)).2 (by omega)
              exact ⟨by rw [hp.1]; exact s1.2, by rw [hp.2]; exact s1.1⟩
            have HIV : Hid (∀ (A1a : Option Addr) (c1a : Nat) (l1a : List Nat) (m1a : Bool) (A1b : Option Addr) (c1b : Nat) (l1b : List Nat) (m1b : Bool) W, QV W A1a c1a l1a m1a A1b c1b l1b m1b (Wd.joinQ (l.drop (t + 1))) → Calls Tryz.prog 80 #[(Value.agg #[.slice A1a l1a.length c1a, .bool m1a, .slice A1b l1b.length c1b, .bool m1b])] W fun e w' => QR W ((Wd.joinQ (l.drop (t + 1)))⁻¹) e w') := fun A1a c1a l1a m1a A1b c1b l1b m1b W f => by
              have := tqinv_any (2 * (m + 1)) A1a c1a l1a m1a A1b c1b l1b m1b _ W f s1 (by omega) (by omega) (by omega)
              rwa [inv_eq] at this
            have HAD : Hid (∀ (A1a : Option Addr) (c1a : Nat) (l1a : List Nat) (m1a : Bool) (A1b : Option Addr) (c1b : Nat) (l1b : List Nat) (m1b : Bool) (A2a : Option Addr) (c2a : Nat) (l2a : List Nat) (m2a : Bool) (A2b : Option Addr) (c2b : Nat) (l2b : List Nat) (m2b : Bool) W, QV W A1a c1a l1a m1a A1b c1b l1b m1b (Rat.divInt (gi l t) 1) → QV W A2a c2a l2a m2a A2b c2b l2b m2b ((Wd.joinQ (l.drop (t + 1)))⁻¹) → Calls Tryz.prog 43 #[(Value.agg #[.slice A1a l1a.length c1a, .bool m1a, .slice A1b l1b.length c1b, .bool m1b]), (Value.agg #[.slice A2a l2a.length c2a, .bool m2a, .slice A2b l2b.length c2b, .bool m2b])] W fun e w' => QR W (Wd.joinQ (l.drop t)) e w') := fun A1a c1a l1a m1a A1b c1b l1b m1b A2a c2a l2a m2a A2b c2b l2b m2b W f g => by
              have := tqadd_any (2 * (m + 1)) A1a c1a l1a m1a A1b c1b l1b m1b A2a c2a l2a m2a A2b c2b l2b m2b _ _ W f g sa si (by omega)
              rwa [← s3] at this
            have HWt := hide ((unhide HWH) t (by omega))
            have hct := (hwr.cell (p := ⟨b, off + t, none⟩) hbb).trans ((unhide HCELL) t (by omega))
            obtain ⟨A1a, c1a, l1a, m1a, A1b, c1b, l1b, m1b, j1, f1'⟩ := hbq
            have kx_0 : wr.cell? ⟨bx, 0, none⟩ = some (.slice A1a l1a.length c1a) := cells_of j1 0
            have kx_1 : wr.cell? ⟨bx, 1, none⟩ = some (.bool m1a) := cells_of j1 1
            have kx_2 : wr.cell? ⟨bx, 2, none⟩ = some (.slice A1b l1b.length c1b) := cells_of j1 2
            have kx_3 : wr.cell? ⟨bx, 3, none⟩ = some (.bool m1b) := cells_of j1 3
            have ux_0 := unfrozen_of j1 0
            have ux_1 := unfrozen_of j1 1
            have ux_2 := unfrozen_of j1 2
            have ux_3 := unfrozen_of j1 3
            have qx := lt_of_block j1
            have F1 := hide f1'; have J1 := hide j1
            obtain ⟨a, ha⟩ : ∃ a, a = gi l t := ⟨_, rfl⟩
            obtain ⟨x, hx⟩ : ∃ x, x = Wd.joinQ (l.drop (t + 1)) := ⟨_, rfl⟩
            rw [← ha] at hct HAD HWt
            rw [← hx] at F1 HIV HAD
            have d3 : decide ((0 : Int) ≤ (t : Int)) = true := decide_eq_true (by omega)
            clear f1' j1 s1 s2 s3 hint hB sa si eiv ha hx hpos
            go_wp2_with fail
            go_region_with (first | (go_at_call 72; refine ((unhide HWt) _).mono ?_; rintro e w' ⟨A2a, c2a, l2a, m2a, A2b, c2b, l2b, m2b, rfl, g1, g2, hb2⟩; (try (first | replace iq3 := QV.below iq3 hb2 | replace iq3 := (QV.below iq3 (Below.drew (Below.refl _ _))).below hb2)); have iq2 := QV.of g1 g2; clear g1 g2; have hbw := below_step (w := wr) (by (first | with_reducible assumption | (repeat (first | with_reducible exact Below.refl _ _ | with_reducible assumption | refine Below.drew ?_ | (refine Below.alloc ?_ (by simp <;> omega) _) | refine belowN ?_ _)))) hb2; obtain ⟨hc, hfz⟩ := bcell hbw) | (go_at_call 80; refine ((unhide HIV) A1a c1a l1a m1a A1b c1b l1b m1b _ (QV.below (unhide F1) (by (first | with_reducible assumption | (repeat (first | with_reducible exact Below.refl _ _ | with_reducible assumption | refine Below.drew ?_ | (refine Below.alloc ?_ (by simp <;> omega) _) | refine belowN ?_ _)))))).mono ?_; rintro e w' ⟨A3a, c3a, l3a, m3a, A3b, c3b, l3b, m3b, rfl, g1, g2, hb3⟩; (try (first | replace iq2 := QV.below iq2 hb3 | replace iq2 := (QV.below iq2 (Below.drew (Below.refl _ _))).below hb3)); have iq3 := QV.of g1 g2; clear g1 g2; have hbw := below_step (w := wr) (by (first | with_reducible assumption | (repeat (first | with_reducible exact Below.refl _ _ | with_reducible assumption | refine Below.drew ?_ | (refine Below.alloc ?_ (by simp <;> omega) _) | refine belowN ?_ _)))) hb3; obtain ⟨hc, hfz⟩ := bcell hbw) | (go_at_call 43; refine ((unhide HAD) A2a c2a l2a m2a A2b c2b l2b m2b A3a c3a l3a m3a A3b c3b l3b m3b _ (by first | exact iq2 | exact QV.below iq2 (Below.drew (Below.refl _ _))) (by first | exact iq3 | exact QV.below iq3 (Below.drew (Below.refl _ _)))).mono ?_; rintro e w' ⟨A4a, c4a, l4a, m4a, A4b, c4b, l4b, m4b, rfl, g1, g2, hb4⟩; have iq4 := QV.of g1 g2; clear g1 g2; have hbw := below_step (w := wr) (by (first | with_reducible assumption | (repeat (first | with_reducible exact Below.refl _ _ | with_reducible assumption | refine Below.drew ?_ | (refine Below.alloc ?_ (by simp <;> omega) _) | refine belowN ?_ _)))) hb4; obtain ⟨hc, hfz⟩ := bcell hbw))
            all_goals
              have hst := boxq_st (boxq_below ⟨_, _, _, _, _, _, _, _, unhide J1, unhide F1⟩ hbw) iq4 (hgr.out.trans (hbw.mono (by omega))) (by omega) (by have := hbw.size; omega)
              clear iq4
              go_wp2_with fail
              go_roundw
              case rel => exact ⟨t, by omega, by first | rfl | go_num, hst.1, hst.2⟩
              case measure => simp [intOf] <;> omega

end Go.Proofs.YtmahhmdodfimbaaGreatDoor
/- Continued fractions: the law's walk. -/
namespace Go.Proofs.YtmahhmdodfimbaaGreatDoor
open Go.RowKit

theorem own_zs {w : World} {base : Nat} {v : Value} {L : List Int} (h : w.ownsRow base 3 1 v L.length (ivals L)) : ∃ A cap, v = .slice A L.length cap ∧ Zs w w.heap.size A L ∧ L.length ≤ cap ∧ cap ≤ maxLen := by
  rcases own_cell h with ⟨rfl, rfl⟩ | ⟨g, cap, rfl, _, h1, h2, h3, h4⟩
  · exact ⟨none, 0, rfl, fun hl => by simp at hl, by simp, by simp [maxLen]⟩
  · exact ⟨some ⟨g, 0, none⟩, cap, rfl, fun _ => ⟨g, 0, rfl, h3, fun j hj => by rw [Nat.zero_add]; exact h4 j hj⟩, h1, h2⟩
set_option maxRecDepth 100000 in
set_option maxHeartbeats 16000000 in
theorem frac_walk (n1 d1 : Int) (A : Option Addr) (cap : Nat) (l L : List Int) (r0 rn rd re : Int) (w : World) (hT : Tab w)
    (c1 : ∀ W, Tab W → Calls Tryz.prog 30 #[(Value.agg #[.int .i64 n1, .int .i64 d1])] W fun e w' => IntsR W L r0 e w')
    (c2 : ∀ W, Calls Tryz.prog 31 #[(Value.agg #[.int .i64 n1, .int .i64 d1])] W fun e w' => IntsR W L r0 e w')
    (c3 : ∀ W, Tab W → Below w.heap.size w W → Calls Tryz.prog 32 #[.slice A l.length cap] W fun e w' => e = .returned (.tuple #[.agg #[.int .i64 rn, .int .i64 rd], .int .i64 re]) ∧ Below W.heap.size W w')
    (c4 : ∀ W, Below w.heap.size w W → Calls Tryz.prog 33 #[.slice A l.length cap] W fun e w' => e = .returned (.tuple #[.agg #[.int .i64 rn, .int .i64 rd], .int .i64 re]) ∧ Below W.heap.size W w') :
    Calls Tryz.prog 7 #[(Value.agg #[.int .i64 n1, .int .i64 d1]), .slice A l.length cap] w fun e w' => e = .returned (.bool true) ∧ Below w.heap.size w w' := by
  have C1 := hide c1; have C2 := hide c2; have C3 := hide c3; have C4 := hide c4
  have HT := hide hT; have HKN := hide known_any
  clear c1 c2 c3 c4 hT
  go_enter Tryz.func7, Tryz.ntmps7
  go_upto_region 1 with fail
  obtain ⟨n0_, hsz, hw0⟩ := one_new w (.cells #[.int .i64 n1, .int .i64 d1] 23)
  generalize (w.alloc (.cells #[.int .i64 n1, .int .i64 d1] 23)) = W0 at *
  have kx0 : W0.cell? ⟨w.heap.size, 0, none⟩ = some (.int .i64 n1) := cells_of n0_ 0
  have kx1 : W0.cell? ⟨w.heap.size, 1, none⟩ = some (.int .i64 d1) := cells_of n0_ 1
  have qx := lt_of_block n0_
  have HB := Lib.hid hw0
  clear hsz n0_ hw0
  go_wp2_with fail
  refine ((unhide C1) _ ((unhide HT).below HB.out)).mono ?_
  rintro e V1 ⟨v, rfl, hown, hb⟩
  obtain ⟨Aa, ca, rfl, za, h1a, h2a⟩ := own_zs hown
  obtain ⟨hc, hfz⟩ := bcell hb
  replace kx0 := (hc _ _ qx).trans kx0
  replace kx1 := (hc _ _ qx).trans kx1
  replace HB := Lib.hid (below_step' HB.out hb)
  clear hown hb hc hfz qx
  have ZA := hide za
  clear za
  go_wp2_with fail
  refine ((unhide C2) _).mono ?_
  rintro e V2 ⟨v, rfl, hown, hb⟩
  obtain ⟨Ab, cb, rfl, zb, h1b, h2b⟩ := own_zs hown
  replace ZA := hide ((unhide ZA).below hb)
  replace HB := Lib.hid (below_step' HB.out hb)
  have ZB_ := hide zb
  clear hown hb zb kx0 kx1
  unfold maxLen at h2a h2b
  go_wp2_with fail
  go_loopw [34] (fun iv wr => ∃ i : Nat, i ≤ L.length ∧ iv = .int .i64 ((i : Nat) : Int) ∧ Hid (Below V2.heap.size V2 wr)) (fun iv _ => L.length - (intOf iv).toNat)
  case atStart => exact ⟨0, Nat.zero_le _, by first | rfl | go_num, by first | exact Below.refl _ _ | exact (Below.refl _ _).drew⟩
  case round =>
    obtain ⟨i, hi, rfl, hb⟩ := hrel
    by_cases hlt : i < L.length
    · obtain ⟨ba, oa, rfl, hba, hca⟩ := ((unhide ZA).below hb.out) (by omega)
      obtain ⟨bb, ob, rfl, hbb, hcb⟩ := ((unhide ZB_).below hb.out) (by omega)
      have ka := hca i hlt
      have kb := hcb i hlt
      obtain ⟨v, hv⟩ : ∃ v, v = gi L i := ⟨_, rfl⟩
      rw [← hv] at ka kb
      clear hca hcb hv
      go_wp2_with fail
      go_quiet (fail)
      go_wp2_with fail
      go_roundw
      case rel => exact ⟨i + 1, by omega, by first | rfl | go_num, by first | exact hb.out | exact hb.out.drew | exact belowN hb.out _⟩
      case measure => simp [intOf] <;> omega
    · obtain rfl : i = L.length := by omega
      replace HB := Lib.hid (below_step' HB.out hb.out)
      clear hb ZA ZB_
      go_wp2_with fail
      refine ((unhide C3) _ ((unhide HT).below HB.out) HB.out).mono ?_
      rintro e V3 ⟨rfl, hb⟩
      go_upto_region 12 with fail
      have hn := heap_alloc_new V3 (.cells #[.int .i64 rn, .int .i64 rd] 23)
      replace hb := below_step' hb (below_alloc (Below.refl V3.heap.size V3) (.cells #[.int .i64 rn, .int .i64 rd] 23))
      generalize V3.alloc (.cells #[.int .i64 rn, .int .i64 rd] 23) = W3 at *
      obtain ⟨ba, hbn⟩ : ∃ b, b = V3.heap.size := ⟨_, rfl⟩
      rw [← hbn] at hn ⊢
      clear hbn
      replace HB := Lib.hid (below_step' HB.out hb)
      have ja := hide hn
      clear hn hb
      go_wp2_with fail
      refine ((unhide C4) _ HB.out).mono ?_
      rintro e V4 ⟨rfl, hb⟩
      go_upto_region 13 with fail
      have hn := heap_alloc_new V4 (.cells #[.int .i64 rn, .int .i64 rd] 23)
      replace hb := below_step' hb (below_alloc (Below.refl V4.heap.size V4) (.cells #[.int .i64 rn, .int .i64 rd] 23))
      generalize V4.alloc (.cells #[.int .i64 rn, .int .i64 rd] 23) = W4 at *
      obtain ⟨bb, hbn⟩ : ∃ b, b = V4.heap.size := ⟨_, rfl⟩
      rw [← hbn] at hn ⊢
      clear hbn
      replace ja := hide ((hb.block _ (lt_of_block (unhide ja))).trans (unhide ja))
      replace HB := Lib.hid (below_step' HB.out hb)
      have jb := hide hn
      clear hn hb
      have ka0 : W4.cell? ⟨ba, 0, none⟩ = some (.int .i64 rn) := cells_of (unhide ja) 0
      have ka1 : W4.cell? ⟨ba, 1, none⟩ = some (.int .i64 rd) := cells_of (unhide ja) 1
      have kb0 : W4.cell? ⟨bb, 0, none⟩ = some (.int .i64 rn) := cells_of (unhide jb) 0
      have kb1 : W4.cell? ⟨bb, 1, none⟩ = some (.int .i64 rd) := cells_of (unhide jb) 1
      clear ja jb
      go_wp2_with fail
      refine ((unhide HKN) _ ((unhide HT).below HB.out)).mono ?_
      rintro e V5 ⟨rfl, hb⟩
      have hb9 := below_step' HB.out hb
      clear hb
      go_wp2_with fail
      all_goals first | go_ret | skip
      exact ⟨rfl, hb9⟩

theorem cf_prog (n d : Int) (w : World) (hT : Tab w) : Calls Tryz.prog 30 #[(Value.agg #[.int .i64 n, .int .i64 d])] w fun e w' => IntsR w (cfL n d) (valE n d) e w' := by
  by_cases ok : Wd.okR n d
  · rw [show cfL n d = Wd.cf (d.toNat + 1) n d from if_pos ok, show valE n d = 0 from if_pos ok]
    exact pfrac_ok n d w hT ok
  · rw [show cfL n d = [] from if_neg ok, show valE n d = 1 from if_neg ok]
    exact pfrac_bad n d w hT ok
theorem cf_ref (n d : Int) (w : World) : Calls Tryz.prog 31 #[(Value.agg #[.int .i64 n, .int .i64 d])] w fun e w' => IntsR w (cfL n d) (valE n d) e w' := by
  by_cases ok : Wd.okR n d
  · rw [show cfL n d = Wd.cf (d.toNat + 1) n d from if_pos ok, show valE n d = 0 from if_pos ok]
    exact tfrac_ok n d w ok
  · rw [show cfL n d = [] from if_neg ok, show valE n d = 1 from if_neg ok]
    exact tfrac_bad n d w ok
theorem pJoin_any (A : Option Addr) (cap : Nat) (l : List Int) (w : World) (h : Zs w w.heap.size A l) (hcp : l.length ≤ cap) (hm : cap ≤ 9223372036854775807) (hT : Tab w) (hin : ∀ i, i < l.length → -9223372036854775808 ≤ l.getD i 0 ∧ l.getD i 0 ≤ 9223372036854775807) : Calls Tryz.prog 32 #[.slice A l.length cap] w fun e w' => TolR w (Wd.joinT l) e w' := by
  by_cases hl : 64 < l.length
  · rw [show Wd.joinT l = ⟨0, 0, 3⟩ from if_pos hl]
    exact pjoin_long A cap l w hl hcp hm
  · by_cases hj : Wd.JoinOk l
    · rw [show Wd.joinT l = Wd.told (Wd.joinQ l) from (if_neg hl).trans (if_pos hj)]
      exact pjoin_ok A cap l w h hcp hm hT hl hj hin
    · rw [show Wd.joinT l = ⟨0, 0, 1⟩ from (if_neg hl).trans (if_neg hj)]
      exact pjoin_bad A cap l w h hcp hm hl hj
theorem rJoin_any (A : Option Addr) (cap : Nat) (l : List Int) (w : World) (h : Zs w w.heap.size A l) (hcp : l.length ≤ cap) (hm : cap ≤ 9223372036854775807) (hin : ∀ i, i < l.length → -9223372036854775808 ≤ l.getD i 0 ∧ l.getD i 0 ≤ 9223372036854775807) : Calls Tryz.prog 33 #[.slice A l.length cap] w fun e w' => TolR w (Wd.joinT l) e w' := by
  by_cases hl : 64 < l.length
  · rw [show Wd.joinT l = ⟨0, 0, 3⟩ from if_pos hl]
    exact rjoin_long A cap l w hl hcp hm
  · by_cases h0 : l.length = 0
    · rw [show Wd.joinT l = ⟨0, 0, 1⟩ from (if_neg hl).trans (if_neg (fun hj => by have := hj.1; omega))]
      exact rjoin_none A cap l w h0
    · by_cases hla : 1 < l.length ∧ gi l (l.length - 1) = 1
      · rw [show Wd.joinT l = ⟨0, 0, 1⟩ from (if_neg hl).trans (if_neg (fun hj => by rcases hj.2.2 with h1 | h1; omega; exact h1 hla.2))]
        exact rjoin_last A cap l w h hcp hm hl hla.1 hla.2
      · refine rjoin_main A cap l w h hcp hm hl (by omega) hla hin _ ?_ ?_
        · rintro ⟨i, h1, h2, h3⟩
          exact (if_neg hl).trans (if_neg (fun hj => by have := hj.2.1 i h1 h2; rw [← gi_def] at this; omega))
        · intro hall
          have hj : Wd.JoinOk l := ⟨by omega, hall, by
            by_cases h1 : l.length = 1
            · exact .inl h1
            · exact .inr (fun e => hla ⟨by omega, e⟩)⟩
          exact ⟨hj, (if_neg hl).trans (if_pos hj)⟩
/-- The law, for every two ints and every list of ints. -/
theorem fractions_any (n1 d1 : Int) (A : Option Addr) (cap : Nat) (l : List Int) (w : World) (h : Zs w w.heap.size A l) (hcp : l.length ≤ cap) (hm : cap ≤ 9223372036854775807) (hT : Tab w) (hin : ∀ i, i < l.length → -9223372036854775808 ≤ l.getD i 0 ∧ l.getD i 0 ≤ 9223372036854775807) :
    Calls Tryz.prog 7 #[(Value.agg #[.int .i64 n1, .int .i64 d1]), .slice A l.length cap] w fun e w' => e = .returned (.bool true) ∧ Below w.heap.size w w' :=
  frac_walk n1 d1 A cap l (cfL n1 d1) _ _ _ _ w hT (fun W hW => cf_prog n1 d1 W hW) (fun W => cf_ref n1 d1 W) (fun W hW hB => pJoin_any A cap l W (h.below hB) hcp hm hW hin) (fun W hB => rJoin_any A cap l W (h.below hB) hcp hm hin)

end Go.Proofs.YtmahhmdodfimbaaGreatDoor
/- The frame of the laws' rows: numbers as arguments; the listed table; a call that only makes new memory. -/
namespace Go.Proofs.YtmahhmdodfimbaaGreatDoor
open Go.Joins Go.ChangeShapes Go.WideShapes Go.ChangeAt Go.RowKit

theorem own : ownKnob Tryz.prog.godebug = none := by kernel_rfl
/-- What the rows list: one table. -/
def laidL {H : Type} : List (String × DataW H) := [("math/bits.deBruijn64tab", Rows.laid_math_bits_deBruijn64tab)]
theorem tab_list : (Rows.laid_math_bits_deBruijn64tab : DataW Unit) = .agg (Lib.deBruijn64tab.map fun (n : Nat) => .lit (.int .u8 (n : Int))) := by kernel_rfl
theorem tab_of {W : World} (h : laidMetH Tryz.prog laidL W) : Tab W := by
  rw [MakeChecks.laidMetH_plain _ _ _ (by kernel_rfl)] at h
  obtain ⟨ps, ⟨g, t, cs, fuel, p, q, hg, ht, hv, hd, _, _⟩, _, _⟩ := h
  obtain rfl := Option.some.inj ((show Tryz.prog.globalNamed "math/bits.deBruijn64tab" = some 0 by kernel_rfl).symm.trans hg)
  obtain rfl := Option.some.inj ((show (Tryz.prog.globals[0]?).map (·.type) = some 163 by kernel_rfl).symm.trans ht)
  obtain ⟨xs, m, _, ex, hcl, hl, hel⟩ := DataW.trod_array Tryz.underlying163 hd
  have c5 : Tryz.prog.cellsOf 5 = 1 := by kernel_rfl
  have hlen : Lib.deBruijn64tab.length = 64 := by kernel_rfl
  rw [tab_list] at ex
  have e3 : (xs.map (·.1)) = Lib.deBruijn64tab.map fun (n : Nat) => .lit (.int .u8 (n : Int)) := (DataW.agg.inj (Prod.mk.inj ex).1).symm
  have cell : ∀ r : Nat, r < 64 → W.cell? ⟨0, r, none⟩ = some (.int .u8 (Lib.deBruijn64tab.getD r 0)) := fun r hr => by
    have hE := hel r hr
    rw [c5, Nat.mul_one, List.getElem?_eq_getElem (by omega)] at hE
    obtain ⟨z, e1, e2, _⟩ := DataW.trod_int Tryz.underlying5 hE
    have e4 : (xs.map (·.1))[r]? = (Lib.deBruijn64tab.map fun (n : Nat) => (DataW.lit (.int .u8 (n : Int)) : DataW Unit))[r]? := by rw [e3]
    rw [List.getElem?_map, List.getElem?_map, List.getElem?_eq_getElem (by omega : r < xs.length), List.getElem?_eq_getElem (by omega : r < Lib.deBruijn64tab.length), e2] at e4
    have hz : z = (Lib.deBruijn64tab.getD r 0 : Nat) := by
      simp only [Option.map_some, Option.some.injEq, DataW.lit.injEq, Lit.int.injEq, true_and] at e4
      rw [e4, List.getD, List.getElem?_eq_getElem (by omega : r < Lib.deBruijn64tab.length)]; rfl
    rw [World.var?_cell hg hv r, ← hz]
    have : cs.toList[r]? = some (.int .u8 z) := by
      have h0 : ((cs.toList.drop r).take 1)[0]? = some (.int .u8 z) := by rw [e1]; rfl
      simpa using h0
    simpa using this
  refine ⟨fun j hj => cell j (by omega), ?_⟩
  have h0 := cell 0 (by omega)
  rcases Nat.lt_or_ge 0 W.heap.size with hlt | hge
  · exact hlt
  · simp [World.cell?, Array.getElem?_eq_none hge] at h0

set_option maxRecDepth 100000 in
/-- A number as an argument: two ints. -/
theorem open_rat {H : Type} {enc : TypeId × Value → H} {w : World} {base : Nat} {spare : Nat → Bool} {held : Bool} {r : Reach} {b0 : Nat} {v : Value} {d : DataW H} {p : List MemPlace}
    (hv : Value.okWide Tryz.prog w r b0 23 v) (h : DataW.Trod enc Tryz.prog w base spare held 23 v d p) :
    ∃ n m : Int, v = .agg #[.int .i64 n, .int .i64 m] ∧ d = .agg [.lit (.int .i64 n), .lit (.int .i64 m)] ∧ p = [] ∧ (Lit.int .i64 n).wf = true ∧ (Lit.int .i64 m).wf = true := by
  obtain ⟨v0, v1, y0, y1, k, rfl, rfl, rfl, h0, h1⟩ := open_agg2 Tryz.underlying23 (by kernel_rfl) (by kernel_rfl) hv h
  obtain ⟨n, e0, rfl, w0⟩ := DataW.trod_int Tryz.underlying3 h0
  obtain ⟨m, e1, rfl, w1⟩ := DataW.trod_int Tryz.underlying3 h1
  simp only [List.cons.injEq, and_true] at e0 e1
  subst e0 e1
  exact ⟨n, m, rfl, rfl, rfl, w0, w1⟩
set_option maxRecDepth 100000 in
theorem shut_rat {H : Type} {enc : TypeId × Value → H} {w : World} {base : Nat} {spare : Nat → Bool} {held : Bool} {n m : Int} (w0 : (Lit.int .i64 n).wf = true) (w1 : (Lit.int .i64 m).wf = true) :
    DataW.Trod enc Tryz.prog w base spare held 23 (.agg #[.int .i64 n, .int .i64 m]) (.agg [.lit (.int .i64 n), .lit (.int .i64 m)]) [] := by
  have i0 : ∀ k : Int, (Lit.int .i64 k).wf = true → ∃ f, DataW.trod enc Tryz.prog w base spare held f 3 [.int .i64 k] = some (.lit (.int .i64 k), []) := fun k hk => shut_int Tryz.underlying3 hk
  exact shut_agg2 (y0 := (.lit (.int .i64 n), [])) (y1 := (.lit (.int .i64 m), [])) Tryz.underlying23 (by kernel_rfl) (by kernel_rfl) (i0 n w0) (i0 m w1)
theorem wf_bounds {n : Int} (h : (Lit.int .i64 n).wf = true) : -9223372036854775808 ≤ n ∧ n ≤ 9223372036854775807 := bounds_i64 h

end Go.Proofs.YtmahhmdodfimbaaGreatDoor
