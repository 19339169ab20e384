/- Part 10 of the texts beneath a law of layer 1: RfQ, RfIs, RfAll, RfRaA, RfRaB, RfHalf, RfRat, RfTold, RfOf, RfQCmp, RfCmpD, RatCmp, PsT, RfQv. -/
import Derived.Test.YtmahhmdodfimbaaGreatDoorCb9
import Derived.Deep.DeepCutAuto
/- The reference's quotients: their denominators. -/
namespace Go.Proofs.YtmahhmdodfimbaaGreatDoor
open Go.RowKit

set_option maxRecDepth 100000 in
set_option maxHeartbeats 1000000 in
theorem tden_any (A1 : Option Addr) (c1 : Nat) (l1 : List Nat) (m1 : Bool) (A2 : Option Addr) (c2 : Nat) (l2 : List Nat) (m2 : Bool) (d : Int) (w : World) (h2 : WholeF w A2 c2 l2 m2 d) (hd : d ≠ 0) :
    Calls Tryz.prog 95 #[.agg #[.slice A1 l1.length c1, .bool m1, .slice A2 l2.length c2, .bool m2]] w fun e w' => e = .returned (.agg #[.slice A2 l2.length c2, .bool m2]) ∧ Below w.heap.size w w' := by
  have hl : ¬ l2.length = 0 := fun e => by have := h2.nat.zero_iff.2 e; omega
  have HI := hide (fun W => tisn_any A2 c2 l2.length m2 W)
  rw [decide_eq_false hl] at HI
  clear h2 hd
  go_enter Tryz.func95, Tryz.ntmps95
  go_wp2_with fail
  obtain ⟨n0, n1, hsz, hw0⟩ := two_new w (.cells #[.slice A1 l1.length c1, .bool m1, .slice A2 l2.length c2, .bool m2] 52) (.cells #[.slice none 0 0, .bool false] 50)
  generalize ((w.alloc (.cells #[.slice A1 l1.length c1, .bool m1, .slice A2 l2.length c2, .bool m2] 52)).alloc (.cells #[.slice none 0 0, .bool false] 50)) = W0 at *
  have k2 : W0.cell? ⟨w.heap.size, 2, none⟩ = some (.slice A2 l2.length c2) := cells_of n0 2
  have k3 : W0.cell? ⟨w.heap.size, 3, none⟩ = some (.bool m2) := cells_of n0 3
  have q0 : w.heap.size < W0.heap.size := by omega
  have q1 : w.heap.size + 1 < W0.heap.size := by omega
  have r0 : W0.cell? ⟨w.heap.size + 1, 0, none⟩ = some (.slice none 0 0) := cells_of n1 0
  have r1 : W0.cell? ⟨w.heap.size + 1, 1, none⟩ = some (.bool false) := cells_of n1 1
  have f0 := unfrozen_of n1 0
  have f1 := unfrozen_of n1 1
  clear n0 n1 hsz
  refine ((unhide HI) _).mono ?_
  rintro e w' ⟨rfl, hb⟩
  obtain ⟨hc, hfz⟩ := bcell hb
  have hb9 : Below w.heap.size w w' := below_step' hw0 hb
  go_wp2_with fail
  exact bodyPost_ret (v := .agg #[.slice A2 l2.length c2, .bool m2]) (by simp [results, Tryz.results95, go_sem, hc, k2, k3, r0, r1, q1]) rfl
    ⟨rfl, hb9.grown (set2_grown _ _ _ _) hb9.size (fun k hk => by injection hk with hk; omega)⟩

/-- What a whole number is as an int. -/
def SmallR (w : World) (z : Int) (e : Ending) (w' : World) : Prop := ∃ (v : Int) (ok : Bool), e = .returned (.tuple #[.int .i64 v, .bool ok]) ∧ ok = decide (-9223372036854775808 ≤ z ∧ z ≤ 9223372036854775807) ∧ (ok = true → v = z) ∧ Below w.heap.size w w'

theorem val_take_one (l : List Nat) (h : 0 < l.length) : Wd.val B32 (l.take 1) = Wd.g l 0 := by
  cases l with
  | nil => simp at h
  | cons a l => simp [Wd.val, Wd.g_def, List.getD]
theorem val_take_two (l : List Nat) (h : 1 < l.length) : Wd.val B32 (l.take 2) = Wd.g l 0 + Wd.g l 1 * 2 ^ 32 := by
  cases l with
  | nil => simp at h
  | cons a l => cases l with
    | nil => simp at h
    | cons b l => simp [Wd.val, Wd.g_def, List.getD, B32_eq]; omega

set_option maxRecDepth 100000 in
set_option maxHeartbeats 1000000 in
theorem tsmall_any (A : Option Addr) (cap : Nat) (l : List Nat) (m : Bool) (z : Int) (w : World) (h : WholeF w A cap l m z) :
    Calls Tryz.prog 108 #[.agg #[.slice A l.length cap, .bool m]] w fun e w' => SmallR w z e w' := by
  have hc1 := h.nat.cap1; have hc2 := h.nat.cap2
  have hba : Below w.heap.size w (w.alloc (.cells #[.slice A l.length cap, .bool m] 50)) := (Below.refl _ _).alloc (Nat.le_refl _) _
  by_cases hl : l.length ≤ 2
  · have d1 : decide ((2 : Int) < (l.length : Int)) = false := decide_eq_false (by omega)
    have hsg := h.sign
    have hn := (h.nat.below hba)
    have hbl := h.nat.lt_pow
    obtain ⟨n0, hsz, hw0⟩ := one_new w (.cells #[.slice A l.length cap, .bool m] 50)
    have HN := hide hn; have HBL := hide hbl; have HSG := Lib.hid hsg; have HW0 := hide hw0
    clear hba hn hbl hsg h hw0
    go_enter Tryz.func108, Tryz.ntmps108
    go_wp2_with fail
    all_goals first | omega | skip
    generalize (w.alloc (.cells #[.slice A l.length cap, .bool m] 50)) = W0 at *
    have k0 : W0.cell? ⟨w.heap.size, 0, none⟩ = some (.slice A l.length cap) := cells_of n0 0
    have k1 : W0.cell? ⟨w.heap.size, 1, none⟩ = some (.bool m) := cells_of n0 1
    clear n0 hsz
    go_loop [4, 5] (fun uv iv => ∃ i : Nat, i ≤ l.length ∧ iv = .int .i64 ((i : Nat) : Int) ∧ uv = .int .u64 ((Wd.val B32 (l.take i) : Nat) : Int)) (fun _ iv => l.length - (intOf iv).toNat)
    case atStart => exact ⟨0, Nat.zero_le _, rfl, rfl⟩
    case round =>
      obtain ⟨i, hi, rfl, rfl⟩ := hrel
      by_cases hlt : i < l.length
      · obtain ⟨b, o, rfl, hbb, hcell⟩ := (unhide HN).ws (by omega)
        have hx := hcell i hlt
        clear hcell
        obtain ⟨x, hxx⟩ : ∃ x, x = Wd.g l i := ⟨_, rfl⟩
        rw [← hxx] at hx
        have hxB : x < B32 := by rw [hxx]; exact Wd.getD_lt (by rw [B32_eq]; omega) _ (unhide HN).lt i
        have e0 : IntKind.u64.wrap (x : Int) = (x : Int) := wrap64_nat rfl (by rw [B32_eq] at hxB; rw [B64_eq]; omega)
        have hi2 : i = 0 ∨ i = 1 := by omega
        rcases hi2 with rfl | rfl
        · have hv : Wd.val B32 (l.take 1) = x := by rw [val_take_one l hlt, hxx]
          have hv0 : Wd.val B32 (l.take 0) = 0 := rfl
          rw [Nat.add_zero] at hx
          rw [hv0]
          have g1 : Go.bits .or .u64 0 (x : Int) = (x : Int) := by
            have := bits_or_u64_nat 0 x (by omega) (by rw [B32_eq] at hxB; omega)
            simpa using this
          have HV := Lib.hid hv
          clear hv hxx hv0
          go_wp2_with fail
          go_round
          case rel => exact ⟨1, by omega, rfl, by rw [HV.out]⟩
          case measure => simp [intOf] <;> omega
        · have hv : Wd.val B32 (l.take 2) = Wd.g l 0 + x * 2 ^ 32 := by rw [val_take_two l hlt, hxx]
          have hv0 : Wd.val B32 (l.take 1) = Wd.g l 0 := val_take_one l (by omega)
          have hyB : Wd.g l 0 < B32 := Wd.getD_lt (by rw [B32_eq]; omega) _ (unhide HN).lt 0
          obtain ⟨y, hyy⟩ : ∃ x, x = Wd.g l 0 := ⟨_, rfl⟩
          rw [← hyy] at hv hv0 hyB
          rw [hv0]
          obtain ⟨p, hp⟩ : ∃ p, p = x * 2 ^ 32 := ⟨_, rfl⟩
          obtain ⟨s, hs⟩ : ∃ s, s = y + p := ⟨_, rfl⟩
          have g0 : IntKind.u64.wrap ((x : Int) * 2 ^ 32) = (p : Int) := wrap64_nat (by rw [hp]; simp) (by rw [hp]; rw [B32_eq] at hxB; rw [B64_eq]; omega)
          have g0' : IntKind.u64.wrap ((x : Int) * 4294967296) = (p : Int) := wrap64_nat (by rw [hp]; simp) (by rw [hp]; rw [B32_eq] at hxB; rw [B64_eq]; omega)
          have g1 : Go.bits .or .u64 (y : Int) (p : Int) = (s : Int) := by
            rw [bits_or_u64_nat y p (by rw [B32_eq] at hyB; omega) (by rw [hp]; rw [B32_eq] at hxB; omega), hs, hp, or_word (by rw [B32_eq] at hyB; omega)]
          rw [← hp, ← hs] at hv
          have HV := Lib.hid hv
          clear hv hxx hv0 hyy hp hs
          go_wp2_with fail
          go_round
          case rel => exact ⟨2, by omega, rfl, by rw [HV.out]⟩
          case measure => simp [intOf] <;> omega
      · have e : i = l.length := by omega
        subst e
        have hv : Wd.val B32 (l.take l.length) = z.natAbs := by rw [List.take_length]; exact (unhide HN).val
        rw [hv]
        obtain ⟨a, ha⟩ : ∃ a, a = z.natAbs := ⟨_, rfl⟩
        have haB : a < B64 := by
          have := unhide HBL
          have h2 : B32 ^ l.length ≤ B32 ^ 2 := Nat.pow_le_pow_right (by rw [B32_eq]; omega) hl
          rw [← ha] at this; rw [B64_eq]; rw [B32_eq] at *; omega
        rw [← ha]
        clear hv hlt
        go_wp2_with fail
        · have hm : m = true := by assumption
          have hz : z < 0 := of_decide_eq_true (HSG.out.symm.trans hm)
          go_ret2
          refine ⟨_, _, rfl, decide_eq_decide.2 (by omega), fun h => ?_, unhide HW0⟩
          have h2 := of_decide_eq_true h
          simp only [wrap64, IntKind.wrap_u64]
          omega
        · have hm : ¬ m = true := by rw [show m = false by assumption]; exact Bool.false_ne_true
          have hz : ¬ z < 0 := fun h => hm (HSG.out.trans (decide_eq_true h))
          go_ret2
          refine ⟨_, _, rfl, decide_eq_decide.2 (by omega), fun h => ?_, unhide HW0⟩
          have h2 := of_decide_eq_true h
          rw [IntWalk.wrap64_in _ (by omega)]
          omega
  · have d1 : decide ((2 : Int) < (l.length : Int)) = true := decide_eq_true (by omega)
    have hnot : ¬ (-9223372036854775808 ≤ z ∧ z ≤ 9223372036854775807) := by
      intro hz
      have := h.nat.len (k := 2) (by rw [B32_eq]; omega)
      omega
    have HNO := hide hnot
    clear h hnot
    go_enter Tryz.func108, Tryz.ntmps108
    go_wp2_with fail
    all_goals first | omega | skip
    go_ret2
    exact ⟨0, false, rfl, (decide_eq_false (unhide HNO)).symm, (fun h => Bool.noConfusion h), hba⟩
end Go.Proofs.YtmahhmdodfimbaaGreatDoor
/- The reference: which numbers there are. -/
namespace Go.Proofs.YtmahhmdodfimbaaGreatDoor
open Go.RowKit

set_option maxRecDepth 100000 in
set_option maxHeartbeats 1000000 in
theorem tIs_any (n d : Int) (w : World) :
    Calls Tryz.prog 53 #[.agg #[.int .i64 n, .int .i64 d]] w fun e w' => e = .returned (.bool (decide (Wd.okR n d))) ∧ Below w.heap.size w w' := by
  have hba : Below w.heap.size w (w.alloc (.cells #[.int .i64 n, .int .i64 d] 23)) := (Below.refl _ _).alloc (Nat.le_refl _) _
  have HB := hide hba
  by_cases hr : 1 ≤ d ∧ d ≤ 1000000000000 ∧ -1000000000000 ≤ n ∧ n ≤ 1000000000000
  · obtain ⟨r1, r2, r3, r4⟩ := hr
    have hok : decide (n.natAbs.gcd d.natAbs = 1) = decide (Wd.okR n d) := decide_eq_decide.2 (by
      unfold Wd.okR
      constructor
      · intro h; refine ⟨?_, ?_, ?_, ?_, ?_⟩ <;> first | omega | exact h
      · rintro ⟨_, _, _, _, h⟩; exact h)
    rw [← hok]
    obtain ⟨rb, hrb⟩ : ∃ b, b = decide (n.natAbs.gcd d.natAbs = 1) := ⟨_, rfl⟩
    rw [← hrb]
    have HRB := Lib.hid hrb
    clear hok hba hrb
    have d1 : decide (d < 1) = false := decide_eq_false (by omega)
    have d2 : decide (1000000000000 < d) = false := decide_eq_false (by omega)
    have d3 : decide (n < -1000000000000) = false := decide_eq_false (by omega)
    have d4 : decide (1000000000000 < n) = false := decide_eq_false (by omega)
    have en : IntKind.i64.wrap (-n) = -n := IntWalk.i64_in _ (by omega)
    obtain ⟨a, ha⟩ : ∃ a, a = n.natAbs := ⟨_, rfl⟩
    obtain ⟨b, hb⟩ : ∃ b, b = d.natAbs := ⟨_, rfl⟩
    go_enter Tryz.func53, Tryz.ntmps53
    go_wp2_with fail
    all_goals first | omega | skip
    all_goals go_quiet (fail)
    all_goals go_wp2_with fail
    all_goals
      have HRR := hide (And.intro r1 (And.intro r2 (And.intro r3 r4)))
      go_loopw [3, 4] (fun av bv wr => ∃ (a b : Nat), av = .int .i64 ((a : Nat) : Int) ∧ bv = .int .i64 ((b : Nat) : Int) ∧ a ≤ 1000000000000 ∧ b ≤ 1000000000000 ∧ Hid (a.gcd b = n.natAbs.gcd d.natAbs) ∧ Below w.heap.size w wr) (fun _ bv _ => (intOf bv).toNat)
      case atStart =>
        refine ⟨n.natAbs, d.natAbs, ?_, ?_, by omega, by omega, rfl, by first | exact unhide HB | exact (unhide HB).drew | exact belowN (unhide HB) _⟩
        · show Value.int .i64 _ = Value.int .i64 _
          congr 1; omega
        · show Value.int .i64 _ = Value.int .i64 _
          congr 1; omega
      case round =>
        obtain ⟨a, b, rfl, rfl, ha, hb, HG, hbl⟩ := hrel
        by_cases h0 : b = 0
        · subst h0
          have hg := HG.out
          rw [Nat.gcd_zero_right] at hg
          have hres : ((a : Int) == 1) = rb := by
            rw [HRB.out]
            by_cases h : a = 1
            · exact (show ((a : Int) == 1) = true by rw [h]; rfl).trans (decide_eq_true (hg.symm.trans h)).symm
            · exact (show ((a : Int) == 1) = false from beq_eq_false_iff_ne.2 (by omega)).trans (decide_eq_false (fun e => h (hg.trans e))).symm
          have HRES := Lib.hid hres
          clear hg hres
          go_wp2_with fail
          all_goals first | omega | skip
          go_ret
          exact ⟨by rw [← HRES.out]; rfl, hbl⟩
        · have dp : decide ((0 : Int) < (b : Int)) = true := decide_eq_true (by omega)
          have dp' : decide (0 < b) = true := decide_eq_true (by omega)
          have e1 : ((a : Int)).tmod (b : Int) = ((a % b : Nat) : Int) := (Int.ofNat_tmod _ _).symm
          have e2 : ((b : Int) == 0) = false := beq_eq_false_iff_ne.2 (by omega)
          have e3 : ¬ ((b : Int) = 0) := by omega
          have hm := Nat.mod_lt a (Nat.pos_of_ne_zero h0)
          obtain ⟨r, hr⟩ : ∃ r, r = a % b := ⟨_, rfl⟩
          rw [← hr] at e1 hm
          have e4 : IntKind.i64.wrap (r : Int) = (r : Int) := IntWalk.i64_in _ (by omega)
          have hgg : b.gcd r = n.natAbs.gcd d.natAbs := by
            rw [← HG.out, hr, Nat.gcd_comm b (a % b), ← Nat.gcd_rec b a, Nat.gcd_comm]
          have HGG := Lib.hid hgg
          clear hgg hr HG
          go_wp2_with fail
          all_goals first | omega | skip
          go_quiet (fail)
          go_wp2_with fail
          go_roundw
          case rel => exact ⟨b, r, by go_num, by go_num, by omega, by omega, HGG, by first | exact hbl | exact hbl.drew | exact belowN hbl _⟩
          case measure => simp [intOf] <;> omega
  · have hok : decide (Wd.okR n d) = false := decide_eq_false (by
      unfold Wd.okR
      rintro ⟨a1, a2, a3, a4, _⟩
      exact hr ⟨by omega, by omega, by omega, by omega⟩)
    rw [hok]
    clear hok hba
    go_enter Tryz.func53, Tryz.ntmps53
    go_wp2_with fail
    all_goals first | omega | skip
    all_goals
      go_ret
      exact ⟨rfl, unhide HB⟩
end Go.Proofs.YtmahhmdodfimbaaGreatDoor
/- The reference: the error of two numbers. -/
namespace Go.Proofs.YtmahhmdodfimbaaGreatDoor
open Go.RowKit

end Go.Proofs.YtmahhmdodfimbaaGreatDoor
/- The reference: quotients in lowest terms: the memory, and the mathematics. -/
namespace Go.Proofs.YtmahhmdodfimbaaGreatDoor
open Go.RowKit

/-- A box that holds a whole number of the reference. -/
def BoxW (w : World) (b : Nat) (z : Int) : Prop := ∃ A cap l m, w.heap[b]? = some (.cells #[.slice A (List.length l) cap, .bool m] 50 (0, 0)) ∧ WholeF w A cap l m z
theorem BoxW.below {w w' : World} {b : Nat} {z : Int} (h : BoxW w b z) (hb : Below w.heap.size w w') : BoxW w' b z := by
  obtain ⟨A, cap, l, m, h1, h2⟩ := h
  exact ⟨A, cap, l, m, (hb.block _ (lt_of_block h1)).trans h1, h2.below hb⟩
theorem BoxW.lt {w : World} {b : Nat} {z : Int} (h : BoxW w b z) : b < w.heap.size := by
  obtain ⟨A, cap, l, m, h1, _⟩ := h; exact lt_of_block h1
/-- A number put into a box. -/
theorem BoxW.put {w : World} {b : Nat} {z0 z : Int} {A : Option Addr} {cap : Nat} {l : List Nat} {m : Bool} (h : BoxW w b z0) (hf : WholeF w A cap l m z) :
    BoxW ((w.setCell ⟨b, 0, none⟩ (.slice A l.length cap)).setCell ⟨b, 1, none⟩ (.bool m)) b z := by
  obtain ⟨A0, c0, l0, m0, h1, _⟩ := h
  exact ⟨A, cap, l, m, set2_block h1, hf.upto h1 (noW2_2 _ _ _ _) (set2_grown _ _ _ _)⟩
theorem BoxW.other {w : World} {b b' : Nat} {z z' : Int} (u0 u1 : Value) (h : BoxW w b z) (hb : BoxW w b' z') (hne : b ≠ b') : BoxW ((w.setCell ⟨b', 0, none⟩ u0).setCell ⟨b', 1, none⟩ u1) b z := by
  obtain ⟨A, cap, l, m, h1, h2⟩ := h
  obtain ⟨A0, c0, l0, m0, h3, _⟩ := hb
  have hg := set2_grown w b' u0 u1
  exact ⟨A, cap, l, m, (hg.block b (lt_of_block h1) (fun e => hne (by injection e))).trans h1, h2.upto h3 (noW2_2 _ _ _ _) hg⟩
theorem WholeF.put {w : World} {b : Nat} {z z' : Int} {A : Option Addr} {cap : Nat} {l : List Nat} {m : Bool} (u0 u1 : Value) (hf : WholeF w A cap l m z) (hb : BoxW w b z') : WholeF ((w.setCell ⟨b, 0, none⟩ u0).setCell ⟨b, 1, none⟩ u1) A cap l m z := by
  obtain ⟨A0, c0, l0, m0, h1, _⟩ := hb
  exact hf.upto h1 (noW2_2 _ _ _ _) (set2_grown _ _ _ _)

/-- The two boxes and the result's cells of a quotient in the making. -/
structure RaS (w W : World) (n d : Int) : Prop where
  bn : BoxW W w.heap.size n
  bd : BoxW W (w.heap.size + 1) d
  bq : W.heap[w.heap.size + 1 + 1]? = some (.cells #[.slice none 0 0, .bool false, .slice none 0 0, .bool false] 52 (0, 0))
  hb : Below w.heap.size w W
theorem RaS.below {w W W' : World} {n d : Int} (h : RaS w W n d) (hb : Below W.heap.size W W') : RaS w W' n d :=
  ⟨h.bn.below hb, h.bd.below hb, (hb.block _ (lt_of_block h.bq)).trans h.bq, below_step' h.hb hb⟩
/-- Both boxes filled anew, in the order of the statement. -/
theorem RaS.put {w W : World} {n d n' d' : Int} {A1 : Option Addr} {c1 : Nat} {l1 : List Nat} {m1 : Bool} {A2 : Option Addr} {c2 : Nat} {l2 : List Nat} {m2 : Bool} (h : RaS w W n d) (h1 : WholeF W A1 c1 l1 m1 n') (h2 : WholeF W A2 c2 l2 m2 d') :
    RaS w ((((W.setCell ⟨w.heap.size, 0, none⟩ (.slice A1 l1.length c1)).setCell ⟨w.heap.size, 1, none⟩ (.bool m1)).setCell ⟨w.heap.size + 1, 0, none⟩ (.slice A2 l2.length c2)).setCell ⟨w.heap.size + 1, 1, none⟩ (.bool m2)) n' d' := by
  have a1 := h.bn.put h1
  have a2 := h.bd.other (.slice A1 l1.length c1) (.bool m1) h.bn (by omega)
  have a3 := h2.put (.slice A1 l1.length c1) (.bool m1) h.bn
  have g1 := set2_grown W w.heap.size (.slice A1 l1.length c1) (.bool m1)
  generalize ((W.setCell ⟨w.heap.size, 0, none⟩ (.slice A1 l1.length c1)).setCell ⟨w.heap.size, 1, none⟩ (.bool m1)) = W1 at *
  have b1 := a2.put a3
  have b2 := a1.other (.slice A2 l2.length c2) (.bool m2) a2 (by omega)
  have g2 := set2_grown W1 (w.heap.size + 1) (.slice A2 l2.length c2) (.bool m2)
  have q1 := (g1.block _ (lt_of_block h.bq) (fun e => by injection e with e; omega)).trans h.bq
  exact ⟨b2, b1, (g2.block _ (lt_of_block q1) (fun e => by injection e with e; omega)).trans q1,
    (h.hb.grown g1 h.hb.size (fun k hk => by injection hk with hk; omega)).grown g2 (by have := g1.size; have := h.hb.size; omega) (fun k hk => by injection hk with hk; omega)⟩

theorem RaS.keep {w W : World} {n d : Int} (u0 u1 u2 u3 : Value) {A : Option Addr} {cap : Nat} {l : List Nat} {m : Bool} {z : Int} (h : RaS w W n d) (x : WholeF W A cap l m z) :
    WholeF ((((W.setCell ⟨w.heap.size, 0, none⟩ u0).setCell ⟨w.heap.size, 1, none⟩ u1).setCell ⟨w.heap.size + 1, 0, none⟩ u2).setCell ⟨w.heap.size + 1, 1, none⟩ u3) A cap l m z :=
  (x.put u0 u1 h.bn).put u2 u3 (h.bd.other u0 u1 h.bn (by omega))

/-- What a call hands back: a number of the reference. -/
def QR (w : World) (q : Rat) (e : Ending) (w' : World) : Prop := ∃ A1 c1 l1 m1 A2 c2 l2 m2, e = .returned (.agg #[.slice A1 (List.length l1) c1, .bool m1, .slice A2 (List.length l2) c2, .bool m2]) ∧ WholeF w' A1 c1 l1 m1 q.num ∧ WholeF w' A2 c2 l2 m2 (q.den : Int) ∧ Below w.heap.size w w'

theorem divInt_pos (n d : Int) (hd : 0 < d) : (Rat.divInt n d).num = (if decide (n < 0) = true then -((n.natAbs / (n.natAbs.gcd d.natAbs) : Nat) : Int) else ((n.natAbs / (n.natAbs.gcd d.natAbs) : Nat) : Int)) ∧ ((Rat.divInt n d).den : Int) = ((d.natAbs / (n.natAbs.gcd d.natAbs) : Nat) : Int) := by
  obtain ⟨h1, h2⟩ := Wd.divInt_parts n d (by omega)
  rw [Int.sign_eq_one_of_pos hd, Int.one_mul] at h1 h2
  rw [h1, h2]
  generalize n.natAbs.gcd d.natAbs = g
  constructor
  · by_cases hn : n < 0
    · rw [if_pos (decide_eq_true hn)]
      obtain ⟨k, hk⟩ : ∃ k : Nat, n = -(k : Int) := ⟨n.natAbs, by omega⟩
      subst hk
      rw [Int.neg_tdiv, Int.natAbs_neg, Int.natAbs_natCast, Int.ofNat_tdiv]
    · rw [if_neg (by simpa using hn)]
      obtain ⟨k, hk⟩ : ∃ k : Nat, n = (k : Int) := ⟨n.natAbs, by omega⟩
      subst hk
      rw [Int.natAbs_natCast, Int.ofNat_tdiv]
  · obtain ⟨k, hk⟩ : ∃ k : Nat, d = (k : Int) := ⟨d.natAbs, by omega⟩
    subst hk
    rw [Int.natAbs_natCast, Int.ofNat_tdiv]
theorem divInt_negneg (n d : Int) (hd : d ≠ 0) : Rat.divInt (-n) (-d) = Rat.divInt n d := by
  rw [Rat.divInt_eq_divInt_iff (by omega) hd, Int.neg_mul, Int.mul_neg]
end Go.Proofs.YtmahhmdodfimbaaGreatDoor
/- The reference: quotients in lowest terms: the walk. -/
namespace Go.Proofs.YtmahhmdodfimbaaGreatDoor
open Go.RowKit

set_option maxRecDepth 100000 in
set_option maxHeartbeats 8000000 in
theorem tratio_any (A1 : Option Addr) (c1 : Nat) (l1 : List Nat) (m1 : Bool) (n : Int) (A2 : Option Addr) (c2 : Nat) (l2 : List Nat) (m2 : Bool) (d : Int) (K : Nat) (w : World) (h1 : WholeF w A1 c1 l1 m1 n) (h2 : WholeF w A2 c2 l2 m2 d) (hd : d ≠ 0) (hn : n.natAbs < B32 ^ K) (hdK : d.natAbs < B32 ^ K) (hK : K + 1 ≤ 35184372088832) :
    Calls Tryz.prog 92 #[.agg #[.slice A1 l1.length c1, .bool m1], .agg #[.slice A2 l2.length c2, .bool m2]] w fun e w' => QR w (Rat.divInt n d) e w' := by
  have hl : ¬ l2.length = 0 := fun e => by have := h2.nat.zero_iff.2 e; omega
  have HI := hide (fun W => tisn_any A2 c2 l2.length m2 W)
  rw [decide_eq_false hl] at HI
  obtain ⟨n', d', q, hq, hq2, hd', hn', hdK', hneg⟩ : ∃ (n' d' : Int) (q : Rat), q = Rat.divInt n d ∧ q = Rat.divInt n' d' ∧ 0 < d' ∧ n'.natAbs < B32 ^ K ∧ d'.natAbs < B32 ^ K ∧ ((m2 = true ∧ n' = -n ∧ d' = -d) ∨ (m2 = false ∧ n' = n ∧ d' = d)) := by
    by_cases h : d < 0
    · exact ⟨-n, -d, _, rfl, (divInt_negneg n d hd).symm, by omega, by rw [Int.natAbs_neg]; exact hn, by rw [Int.natAbs_neg]; exact hdK, .inl ⟨by rw [h2.sign]; exact decide_eq_true h, rfl, rfl⟩⟩
    · exact ⟨n, d, _, rfl, rfl, by omega, hn, hdK, .inr ⟨by rw [h2.sign]; exact decide_eq_false h, rfl, rfl⟩⟩
  rw [← hq]
  have HQ2 := Lib.hid hq2
  have HDP := hide hd'; have HNK := hide hn'; have HDK := hide hdK'; have HNEG := hide hneg; have HK := hide hK
  have H1 := hide h1; have H2 := hide h2
  have HN1 := hide (fun W (hW : Below w.heap.size w W) => tneg_any A1 c1 l1 m1 n W (h1.below hW))
  have HN2 := hide (fun W (hW : Below w.heap.size w W) => tneg_any A2 c2 l2 m2 d W (h2.below hW))
  clear h1 h2 hd hn hdK hl hq hq2 hd' hn' hdK' hneg hK
  go_enter Tryz.func92, Tryz.ntmps92
  go_wp2_with fail
  obtain ⟨n0, n1, n2, hsz, hw0⟩ := three_new w (.cells #[.slice A1 l1.length c1, .bool m1] 50) (.cells #[.slice A2 l2.length c2, .bool m2] 50) (.cells #[.slice none 0 0, .bool false, .slice none 0 0, .bool false] 52)
  generalize (((w.alloc (.cells #[.slice A1 l1.length c1, .bool m1] 50)).alloc (.cells #[.slice A2 l2.length c2, .bool m2] 50)).alloc (.cells #[.slice none 0 0, .bool false, .slice none 0 0, .bool false] 52)) = W0 at *
  have hS0 : RaS w W0 n d := ⟨⟨_, _, _, _, n0, (unhide H1).below hw0⟩, ⟨_, _, _, _, n1, (unhide H2).below hw0⟩, n2, hw0⟩
  refine ((unhide HI) _).mono ?_
  rintro e W1 ⟨rfl, hb⟩
  have hS1 := hS0.below hb
  have j0 := (hb.block _ (lt_of_block n0)).trans n0
  have j1 := (hb.block _ (lt_of_block n1)).trans n1
  have hw1 := below_step' hw0 hb
  clear hS0 hb n0 n1 n2 hw0 hsz HI
  have k0 : W1.cell? ⟨w.heap.size, 0, none⟩ = some (.slice A1 l1.length c1) := cells_of j0 0
  have k1 : W1.cell? ⟨w.heap.size, 1, none⟩ = some (.bool m1) := cells_of j0 1
  have k2 : W1.cell? ⟨w.heap.size + 1, 0, none⟩ = some (.slice A2 l2.length c2) := cells_of j1 0
  have k3 : W1.cell? ⟨w.heap.size + 1, 1, none⟩ = some (.bool m2) := cells_of j1 1
  have HS := hide hS1; have J := hide (And.intro j0 j1); have HW1 := Lib.hid hw1
  clear hS1 hw1 j0 j1
  go_upto_if 14 with (fail)
  go_cut [] (fun wx => RaS w wx n' d')
  case first =>
    rcases unhide HNEG with ⟨e1, e2, e3⟩ | ⟨e1, e2, e3⟩
    · subst e1 e2 e3
      have q0 : w.heap.size < W1.heap.size := lt_of_block (unhide J).1
      have q1 : w.heap.size + 1 < W1.heap.size := lt_of_block (unhide J).2
      have KEEP : ∀ X, Below W1.heap.size W1 X → (fun w' => w'.cell? ⟨w.heap.size, 0, none⟩ = some (.slice A1 l1.length c1) ∧ w'.cell? ⟨w.heap.size, 1, none⟩ = some (.bool m1) ∧ w'.cell? ⟨w.heap.size + 1, 0, none⟩ = some (.slice A2 l2.length c2) ∧ w'.cell? ⟨w.heap.size + 1, 1, none⟩ = some (.bool true)) X := fun X hX => ⟨(hX.cell (p := ⟨w.heap.size, 0, none⟩) q0).trans k0, (hX.cell (p := ⟨w.heap.size, 1, none⟩) q0).trans k1, (hX.cell (p := ⟨w.heap.size + 1, 0, none⟩) q1).trans k2, (hX.cell (p := ⟨w.heap.size + 1, 1, none⟩) q1).trans k3⟩
      have HKE := hide KEEP
      have f0 := unfrozen_of (unhide J).1 0
      have f1 := unfrozen_of (unhide J).1 1
      have f2 := unfrozen_of (unhide J).2 0
      have f3 := unfrozen_of (unhide J).2 1
      clear HNEG KEEP
      go_wp2_with fail
      go_region_with (first | (go_at_call_of 138 (Value.agg #[.slice A1 l1.length c1, .bool m1]); refine ((unhide HN1) _ (below_step' HW1.out (by (first | with_reducible assumption | (repeat (first | with_reducible exact Below.refl _ _ | with_reducible assumption | refine Below.drew ?_ | (refine Below.alloc ?_ (by simp <;> omega) _))))))).mono ?_; rintro e w' ⟨A5, c5, l5, m5, rfl, hf5n, hb⟩; (try (first | replace hf5 := WholeF.below hf5 hb | replace hf5 := (WholeF.below hf5 (Below.drew (Below.refl _ _))).below hb)); (try (first | replace hf6 := WholeF.below hf6 hb | replace hf6 := (WholeF.below hf6 (Below.drew (Below.refl _ _))).below hb)); have hf5 := hf5n; clear hf5n; have hbw := below_step (w := W1) (by (first | with_reducible assumption | (repeat (first | with_reducible exact Below.refl _ _ | with_reducible assumption | refine Below.drew ?_ | (refine Below.alloc ?_ (by simp <;> omega) _))))) hb; obtain ⟨hc, hfz⟩ := bcell hbw) | (go_at_call_of 138 (Value.agg #[.slice A2 l2.length c2, .bool true]); refine ((unhide HN2) _ (below_step' HW1.out (by (first | with_reducible assumption | (repeat (first | with_reducible exact Below.refl _ _ | with_reducible assumption | refine Below.drew ?_ | (refine Below.alloc ?_ (by simp <;> omega) _))))))).mono ?_; rintro e w' ⟨A6, c6, l6, m6, rfl, hf6n, hb⟩; (try (first | replace hf5 := WholeF.below hf5 hb | replace hf5 := (WholeF.below hf5 (Below.drew (Below.refl _ _))).below hb)); (try (first | replace hf6 := WholeF.below hf6 hb | replace hf6 := (WholeF.below hf6 (Below.drew (Below.refl _ _))).below hb)); have hf6 := hf6n; clear hf6n; have hbw := below_step (w := W1) (by (first | with_reducible assumption | (repeat (first | with_reducible exact Below.refl _ _ | with_reducible assumption | refine Below.drew ?_ | (refine Below.alloc ?_ (by simp <;> omega) _))))) hb; obtain ⟨hc, hfz⟩ := bcell hbw))
      all_goals
        go_wp2_with fail
        go_meet
        case rel =>
          have HS9 := (unhide HS).below hbw
          exact HS9.put hf5 hf6
    · subst e1 e2 e3
      clear HNEG
      go_wp2_with fail
      go_meet
      case rel => exact unhide HS
  case rest =>
    clear HNEG k0 k1 k2 k3 HS J HW1 HN1 HN2 H1 H2
    obtain ⟨⟨A3, c3, l3, m3, kn, fn⟩, ⟨A4, c4, l4, m4, kd, fd⟩, kq, hb⟩ := hcut
    have w0 : wc.cell? ⟨w.heap.size, 0, none⟩ = some (.slice A3 l3.length c3) := cells_of kn 0
    have w1 : wc.cell? ⟨w.heap.size, 1, none⟩ = some (.bool m3) := cells_of kn 1
    have w2 : wc.cell? ⟨w.heap.size + 1, 0, none⟩ = some (.slice A4 l4.length c4) := cells_of kd 0
    have w3 : wc.cell? ⟨w.heap.size + 1, 1, none⟩ = some (.bool m4) := cells_of kd 1
    have p0 : wc.cell? ⟨w.heap.size + 1 + 1, 0, none⟩ = some (.slice none 0 0) := cells_of kq 0
    have p1 : wc.cell? ⟨w.heap.size + 1 + 1, 1, none⟩ = some (.bool false) := cells_of kq 1
    have p2 : wc.cell? ⟨w.heap.size + 1 + 1, 2, none⟩ = some (.slice none 0 0) := cells_of kq 2
    have p3 : wc.cell? ⟨w.heap.size + 1 + 1, 3, none⟩ = some (.bool false) := cells_of kq 3
    have u0 := unfrozen_of kn 0; have u1 := unfrozen_of kn 1; have u2 := unfrozen_of kd 0; have u3 := unfrozen_of kd 1
    have v0 := unfrozen_of kq 0; have v1 := unfrozen_of kq 1; have v2 := unfrozen_of kq 2; have v3 := unfrozen_of kq 3
    have q0 := lt_of_block kn; have q1 := lt_of_block kd; have q2 := lt_of_block kq
    have hSW : RaS w wc n' d' := ⟨⟨A3, c3, l3, m3, kn, fn⟩, ⟨A4, c4, l4, m4, kd, fd⟩, kq, hb⟩
    have ho := tisOne_any A4 c4 l4 m4 d' wc fd
    have FN := hide fn; have FD := hide fd; have KQ := Lib.hid kq; have HB := hide hb; have HSW := hide hSW
    obtain ⟨hnum, hden⟩ := divInt_pos n' d' (unhide HDP)
    rw [← HQ2.out] at hnum hden
    obtain ⟨g, hg⟩ : ∃ g, g = n'.natAbs.gcd d'.natAbs := ⟨_, rfl⟩
    rw [← hg] at hnum hden
    have HNUM := Lib.hid hnum.symm; have HDEN := Lib.hid hden.symm; have HGG := Lib.hid hg
    clear kn kd kq fn fd hb hSW hnum hden
    by_cases hd1 : d' = 1
    · rw [decide_eq_true hd1] at ho
      have HO := hide ho
      have hg1 : g = 1 := by rw [hg, hd1]; simp
      have e1 : q.num = n' := by
        rw [← HNUM.out, hg1, Nat.div_one]
        by_cases h : n' < 0
        · rw [if_pos (decide_eq_true h)]; omega
        · rw [if_neg (by simpa using h)]; omega
      have e2 : (q.den : Int) = d' := by
        rw [← HDEN.out, hg1, Nat.div_one]; have := unhide HDP; omega
      have E := hide (And.intro e1 e2)
      clear ho hg hg1 hd1 e1 e2
      go_wp2_with fail
      refine (unhide HO).mono ?_
      rintro e W2 ⟨rfl, hb2⟩
      obtain ⟨hc, hfz⟩ := bcell hb2
      have hblk := (hb2.block _ q2).trans KQ.out
      have HBLK := Lib.hid hblk; have HB2 := hide hb2
      clear hblk hb2
      go_wp2_with fail
      exact bodyPost_ret (v := .agg #[.slice A3 l3.length c3, .bool m3, .slice A4 l4.length c4, .bool m4]) (by simp [results, Tryz.results92, go_sem, hc, p0, p1, p2, p3, q2]) rfl
        ⟨A3, c3, l3, m3, A4, c4, l4, m4, rfl, by rw [(unhide E).1]; exact ((unhide FN).below (unhide HB2)).upto HBLK.out (noW2_4 _ _ _ _ _ _ _ _) (set4_grown _ _ _ _ _ _), by rw [(unhide E).2]; exact ((unhide FD).below (unhide HB2)).upto HBLK.out (noW2_4 _ _ _ _ _ _ _ _) (set4_grown _ _ _ _ _ _), (below_step' (unhide HB) (unhide HB2)).grown (set4_grown _ _ _ _ _ _) (below_step' (unhide HB) (unhide HB2)).size (fun k hk => by injection hk with hk; omega)⟩
    · rw [decide_eq_false hd1] at ho
      have hdv := fun W (hW : Below wc.heap.size wc W) => divisor_any A3 A4 c3 c4 l3 l4 n'.natAbs d'.natAbs K W ((unhide FN).nat.below hW) ((unhide FD).nat.below hW) (unhide HNK) (unhide HDK) (unhide HK)
      rw [← hg] at hdv
      have HO := hide ho; have HDV := hide hdv
      have hg0 : 0 < g := by rw [hg]; exact Nat.gcd_pos_of_pos_right _ (by have := unhide HDP; omega)
      have hgl : g ≤ d'.natAbs := by rw [hg]; exact Nat.gcd_le_right _ (by have := unhide HDP; omega)
      have HG0 := hide hg0; have HGL := hide hgl
      have hln := (unhide FN).nat.len (unhide HNK); have hld := (unhide FD).nat.len (unhide HDK)
      have HLN := hide hln; have HLD := hide hld
      clear ho hdv hg hg0 hgl hd1 hln hld
      go_wp2_with fail
      refine (unhide HO).mono ?_
      rintro e W2 ⟨rfl, hb2⟩
      obtain ⟨hc2, hf2⟩ := bcell hb2
      have HB2 := hide hb2
      clear hb2
      go_wp2_with fail
      refine ((unhide HDV) _ (unhide HB2)).mono ?_
      rintro e W3 ⟨A5, c5, l5, rfl, h5, hb3⟩
      have hb3' := below_step' (unhide HB2) hb3
      replace hb3 := hb3'
      obtain ⟨hc3, hf3⟩ := bcell hb3
      have hlg := h5.len (Nat.lt_of_le_of_lt (unhide HGL) (unhide HDK))
      have H5 := hide h5; have HLG := hide hlg; have HB3 := hide hb3
      clear hc2 hf2 hb3' hlg HDV HO HB2
      by_cases hl5 : l5.length = 1
      · obtain ⟨b5, o5, rfl, hb5, hc5⟩ := h5.ws (by omega)
        have hcell := hc5 0 (by omega)
        rw [Nat.add_zero, show Wd.g l5 0 = g by rw [one_word B32 l5 hl5]; exact h5.val] at hcell
        have hl5b : ((l5.length : Int) != 1) = false := by rw [hl5]; rfl
        have hl50 : 0 < l5.length := by omega
        have hcap := h5.cap1; have hcap2 := h5.cap2
        by_cases hg1 : g = 1
        · have e1 : q.num = n' := by
            rw [← HNUM.out, hg1, Nat.div_one]
            by_cases h : n' < 0
            · rw [if_pos (decide_eq_true h)]; omega
            · rw [if_neg (by simpa using h)]; omega
          have e2 : (q.den : Int) = d' := by
            rw [← HDEN.out, hg1, Nat.div_one]; have := unhide HDP; omega
          have E := hide (And.intro e1 e2)
          have hblk := (hb3.block _ q2).trans KQ.out
          have HBLK := Lib.hid hblk
          rw [hg1] at hcell
          clear hblk hg1 e1 e2 h5 hc5 hb3 hl5 hb5
          go_wp2_with fail
          exact bodyPost_ret (v := .agg #[.slice A3 l3.length c3, .bool m3, .slice A4 l4.length c4, .bool m4]) (by simp [results, Tryz.results92, go_sem, hc3, p0, p1, p2, p3, q2]) rfl
            ⟨A3, c3, l3, m3, A4, c4, l4, m4, rfl, by rw [(unhide E).1]; exact ((unhide FN).below (unhide HB3)).upto HBLK.out (noW2_4 _ _ _ _ _ _ _ _) (set4_grown _ _ _ _ _ _), by rw [(unhide E).2]; exact ((unhide FD).below (unhide HB3)).upto HBLK.out (noW2_4 _ _ _ _ _ _ _ _) (set4_grown _ _ _ _ _ _), (below_step' (unhide HB) (unhide HB3)).grown (set4_grown _ _ _ _ _ _) (below_step' (unhide HB) (unhide HB3)).size (fun k hk => by injection hk with hk; omega)⟩
        · have hgb : ((g : Int) == 1) = false := beq_eq_false_iff_ne.2 (by omega)
          have hgb2 : ((g : Int) != 1) = true := by simp; omega
          obtain ⟨AG, hAG⟩ : ∃ A : Option Addr, A = some ⟨b5, o5, none⟩ := ⟨_, rfl⟩
          have hp1 := parts_any A3 (some ⟨b5, o5, none⟩) c3 c5 l3 l5 n'.natAbs g W3 ((unhide FN).nat.below hb3) (unhide H5) (unhide HG0) (by have := unhide HLN; have := unhide HK; omega) (by have := unhide HLG; have := unhide HK; omega)
          have HP1 := hide hp1
          clear hg1 h5 hc5 hb3 hl5 hb5 hp1 hAG AG
          go_wp2_with fail
          refine (unhide HP1).mono ?_
          rintro e W4 ⟨A6, c6, l6, A7, c7, l7, rfl, h6, h7, hb4⟩
          have hb4' := below_step' (unhide HB3) hb4
          have h5' := (unhide H5).below hb4
          obtain ⟨hc4, hf4⟩ := bcell hb4'
          have hp2 := parts_any A4 (some ⟨b5, o5, none⟩) c4 c5 l4 l5 d'.natAbs g W4 ((unhide FD).nat.below hb4') h5' (unhide HG0) (by have := unhide HLD; have := unhide HK; omega) (by have := unhide HLG; have := unhide HK; omega)
          have HP2 := hide hp2; have H6 := hide h6; have HB4 := hide hb4'
          clear hp2 h6 h7 hb4 hb4' h5' hc3 hf3 HP1
          go_wp2_with fail
          refine (unhide HP2).mono ?_
          rintro e W5 ⟨A8, c8, l8, A9, c9, l9, rfl, h8, h9, hb5⟩
          have hb5' := below_step' (unhide HB4) hb5
          obtain ⟨hc5, hf5⟩ := bcell hb5'
          have hs1 := tsigned_any A6 c6 l6 (n'.natAbs / g) m3 W5 ((unhide H6).below hb5)
          have hm3 : (if m3 = true then -((n'.natAbs / g : Nat) : Int) else ((n'.natAbs / g : Nat) : Int)) = q.num := by rw [(unhide FN).sign]; exact HNUM.out
          rw [hm3] at hs1
          have HS1 := hide hs1; have H8 := hide h8; have HB5 := hide hb5'
          clear hs1 h8 h9 hb5 hb5' hc4 hf4 hm3 HP2
          go_wp2_with fail
          refine (unhide HS1).mono ?_
          rintro e W6 ⟨A10, c10, l10, m10, rfl, h10, hb6⟩
          have hb6' := below_step' (unhide HB5) hb6
          obtain ⟨hc6, hf6⟩ := bcell hb6'
          have hs2 := tsigned_any A8 c8 l8 (d'.natAbs / g) false W6 ((unhide H8).below hb6)
          rw [if_neg Bool.false_ne_true, HDEN.out] at hs2
          have HS2 := hide hs2; have H10 := hide h10; have HB6 := hide hb6'
          clear hs2 h10 hb6 hb6' hc5 hf5 HS1
          go_wp2_with fail
          refine (unhide HS2).mono ?_
          rintro e W7 ⟨A11, c11, l11, m11, rfl, h11, hb7⟩
          have hb7' := below_step' (unhide HB6) hb7
          obtain ⟨hc7, hf7⟩ := bcell hb7'
          have hsw7 := (unhide HSW).below hb7'
          have HSW7 := hide hsw7
          have H10' := hide ((unhide H10).below hb7); have H11 := hide h11
          clear h11 hb7 hb7' hc6 hf6 hsw7 HS2
          go_wp2_with fail
          have hS9 := (unhide HSW7).put (unhide H10') (unhide H11)
          have hk1 := (unhide HSW7).keep (.slice A10 l10.length c10) (.bool m10) (.slice A11 l11.length c11) (.bool m11) (unhide H10')
          have hk2 := (unhide HSW7).keep (.slice A10 l10.length c10) (.bool m10) (.slice A11 l11.length c11) (.bool m11) (unhide H11)
          exact bodyPost_ret (v := .agg #[.slice A10 l10.length c10, .bool m10, .slice A11 l11.length c11, .bool m11]) (by simp [results, Tryz.results92, go_sem, hc7, p0, p1, p2, p3, q2]) rfl
            ⟨A10, c10, l10, m10, A11, c11, l11, m11, rfl, hk1.upto hS9.bq (noW2_4 _ _ _ _ _ _ _ _) (set4_grown _ _ _ _ _ _), hk2.upto hS9.bq (noW2_4 _ _ _ _ _ _ _ _) (set4_grown _ _ _ _ _ _), hS9.hb.grown (set4_grown _ _ _ _ _ _) hS9.hb.size (fun k hk => by injection hk with hk; omega)⟩
      · have hl5b : ((l5.length : Int) != 1) = true := by simp; omega
        have hl5c : ((l5.length : Int) == 1) = false := beq_eq_false_iff_ne.2 (by omega)
        have hcap := h5.cap1; have hcap2 := h5.cap2
        have hp1 := parts_any A3 A5 c3 c5 l3 l5 n'.natAbs g W3 ((unhide FN).nat.below hb3) (unhide H5) (unhide HG0) (by have := unhide HLN; have := unhide HK; omega) (by have := unhide HLG; have := unhide HK; omega)
        have HP1 := hide hp1
        clear h5 hb3 hl5 hp1
        go_wp2_with fail
        refine (unhide HP1).mono ?_
        rintro e W4 ⟨A6, c6, l6, A7, c7, l7, rfl, h6, h7, hb4⟩
        have hb4' := below_step' (unhide HB3) hb4
        have h5' := (unhide H5).below hb4
        obtain ⟨hc4, hf4⟩ := bcell hb4'
        have hp2 := parts_any A4 A5 c4 c5 l4 l5 d'.natAbs g W4 ((unhide FD).nat.below hb4') h5' (unhide HG0) (by have := unhide HLD; have := unhide HK; omega) (by have := unhide HLG; have := unhide HK; omega)
        have HP2 := hide hp2; have H6 := hide h6; have HB4 := hide hb4'
        clear hp2 h6 h7 hb4 hb4' h5' hc3 hf3 HP1
        go_wp2_with fail
        refine (unhide HP2).mono ?_
        rintro e W5 ⟨A8, c8, l8, A9, c9, l9, rfl, h8, h9, hb5⟩
        have hb5' := below_step' (unhide HB4) hb5
        obtain ⟨hc5, hf5⟩ := bcell hb5'
        have hs1 := tsigned_any A6 c6 l6 (n'.natAbs / g) m3 W5 ((unhide H6).below hb5)
        have hm3 : (if m3 = true then -((n'.natAbs / g : Nat) : Int) else ((n'.natAbs / g : Nat) : Int)) = q.num := by rw [(unhide FN).sign]; exact HNUM.out
        rw [hm3] at hs1
        have HS1 := hide hs1; have H8 := hide h8; have HB5 := hide hb5'
        clear hs1 h8 h9 hb5 hb5' hc4 hf4 hm3 HP2
        go_wp2_with fail
        refine (unhide HS1).mono ?_
        rintro e W6 ⟨A10, c10, l10, m10, rfl, h10, hb6⟩
        have hb6' := below_step' (unhide HB5) hb6
        obtain ⟨hc6, hf6⟩ := bcell hb6'
        have hs2 := tsigned_any A8 c8 l8 (d'.natAbs / g) false W6 ((unhide H8).below hb6)
        rw [if_neg Bool.false_ne_true, HDEN.out] at hs2
        have HS2 := hide hs2; have H10 := hide h10; have HB6 := hide hb6'
        clear hs2 h10 hb6 hb6' hc5 hf5 HS1
        go_wp2_with fail
        refine (unhide HS2).mono ?_
        rintro e W7 ⟨A11, c11, l11, m11, rfl, h11, hb7⟩
        have hb7' := below_step' (unhide HB6) hb7
        obtain ⟨hc7, hf7⟩ := bcell hb7'
        have hsw7 := (unhide HSW).below hb7'
        have HSW7 := hide hsw7
        have H10' := hide ((unhide H10).below hb7); have H11 := hide h11
        clear h11 hb7 hb7' hc6 hf6 hsw7 HS2
        go_wp2_with fail
        have hS9 := (unhide HSW7).put (unhide H10') (unhide H11)
        have hk1 := (unhide HSW7).keep (.slice A10 l10.length c10) (.bool m10) (.slice A11 l11.length c11) (.bool m11) (unhide H10')
        have hk2 := (unhide HSW7).keep (.slice A10 l10.length c10) (.bool m10) (.slice A11 l11.length c11) (.bool m11) (unhide H11)
        exact bodyPost_ret (v := .agg #[.slice A10 l10.length c10, .bool m10, .slice A11 l11.length c11, .bool m11]) (by simp [results, Tryz.results92, go_sem, hc7, p0, p1, p2, p3, q2]) rfl
          ⟨A10, c10, l10, m10, A11, c11, l11, m11, rfl, hk1.upto hS9.bq (noW2_4 _ _ _ _ _ _ _ _) (set4_grown _ _ _ _ _ _), hk2.upto hS9.bq (noW2_4 _ _ _ _ _ _ _ _) (set4_grown _ _ _ _ _ _), hS9.hb.grown (set4_grown _ _ _ _ _ _) hS9.hb.size (fun k hk => by injection hk with hk; omega)⟩
end Go.Proofs.YtmahhmdodfimbaaGreatDoor
/- The reference: the quotient of two ints. -/
namespace Go.Proofs.YtmahhmdodfimbaaGreatDoor
open Go.RowKit

end Go.Proofs.YtmahhmdodfimbaaGreatDoor
/- The reference: numbers as they are told. -/
namespace Go.Proofs.YtmahhmdodfimbaaGreatDoor
open Go.RowKit

/-- A number as it is returned, and whether it is one. -/
def RatP (w : World) (q : Rat) (e : Ending) (w' : World) : Prop := ∃ (n d : Int) (ok : Bool), e = .returned (.tuple #[.agg #[.int .i64 n, .int .i64 d], .bool ok]) ∧ Below w.heap.size w w' ∧ ((ok = true ∧ Wd.told q = ⟨n, d, 0⟩) ∨ (ok = false ∧ Wd.told q = ⟨0, 0, 3⟩))

set_option maxRecDepth 100000 in
set_option maxHeartbeats 2000000 in
theorem tRat_any (A1 : Option Addr) (c1 : Nat) (l1 : List Nat) (m1 : Bool) (A2 : Option Addr) (c2 : Nat) (l2 : List Nat) (m2 : Bool) (q : Rat) (w : World) (h1 : WholeF w A1 c1 l1 m1 q.num) (h2 : WholeF w A2 c2 l2 m2 (q.den : Int)) :
    Calls Tryz.prog 94 #[.agg #[.slice A1 l1.length c1, .bool m1, .slice A2 l2.length c2, .bool m2]] w fun e w' => RatP w q e w' := by
  have hd0 : (q.den : Int) ≠ 0 := by have := q.den_nz; omega
  have HS1 := hide (fun W (hW : Below w.heap.size w W) => tsmall_any A1 c1 l1 m1 q.num W (h1.below hW))
  have HS2 := hide (fun W (hW : Below w.heap.size w W) => tsmall_any A2 c2 l2 m2 (q.den : Int) W (h2.below hW))
  have HD := hide (fun W (hW : Below w.heap.size w W) => tden_any A1 c1 l1 m1 A2 c2 l2 m2 (q.den : Int) W (h2.below hW) hd0)
  have ht : (Wd.fits q → Wd.told q = ⟨q.num, q.den, 0⟩) ∧ (¬ Wd.fits q → Wd.told q = ⟨0, 0, 3⟩) := ⟨fun h => if_pos h, fun h => if_neg h⟩
  have hfi : Wd.fits q ↔ q.num.natAbs ≤ 1000000000000 ∧ q.den ≤ 1000000000000 := Iff.rfl
  have HT := hide (And.intro ht hfi)
  clear h1 h2 hd0 ht hfi
  go_enter Tryz.func94, Tryz.ntmps94
  go_wp2_with fail
  obtain ⟨n0, n1, hsz, hw0⟩ := two_new w (.cells #[.slice A1 l1.length c1, .bool m1, .slice A2 l2.length c2, .bool m2] 52) (.cells #[.int .i64 0, .int .i64 0] 23)
  generalize ((w.alloc (.cells #[.slice A1 l1.length c1, .bool m1, .slice A2 l2.length c2, .bool m2] 52)).alloc (.cells #[.int .i64 0, .int .i64 0] 23)) = W0 at *
  have k0 : W0.cell? ⟨w.heap.size, 0, none⟩ = some (.slice A1 l1.length c1) := cells_of n0 0
  have k1 : W0.cell? ⟨w.heap.size, 1, none⟩ = some (.bool m1) := cells_of n0 1
  have k2 : W0.cell? ⟨w.heap.size, 2, none⟩ = some (.slice A2 l2.length c2) := cells_of n0 2
  have k3 : W0.cell? ⟨w.heap.size, 3, none⟩ = some (.bool m2) := cells_of n0 3
  have p0 : W0.cell? ⟨w.heap.size + 1, 0, none⟩ = some (.int .i64 0) := cells_of n1 0
  have p1 : W0.cell? ⟨w.heap.size + 1, 1, none⟩ = some (.int .i64 0) := cells_of n1 1
  have v0 := unfrozen_of n1 0; have v1 := unfrozen_of n1 1
  have q0 := lt_of_block n0; have q1 := lt_of_block n1
  clear n0 n1 hsz
  refine ((unhide HS1) _ hw0).mono ?_
  rintro e W1 ⟨x1, ok1, rfl, hok1, hx1, hb1⟩
  obtain ⟨hc1, hf1⟩ := bcell hb1
  have hw1 := below_step' hw0 hb1
  have OK1 := Lib.hid hok1; have X1 := hide hx1; have HB1 := hide hb1; have HW1 := hide hw1
  clear hok1 hx1 hb1 hw1
  go_wp2_with fail
  refine ((unhide HD) _ (unhide HW1)).mono ?_
  rintro e W2 ⟨rfl, hb2⟩
  have hb2' := below_step' (unhide HB1) hb2
  obtain ⟨hc2, hf2⟩ := bcell hb2'
  have hw2 := below_step' hw0 hb2'
  have HB2 := hide hb2'; have HW2 := hide hw2
  clear hb2 hb2' hw2 hc1 hf1
  go_wp2_with fail
  refine ((unhide HS2) _ (unhide HW2)).mono ?_
  rintro e W3 ⟨x2, ok2, rfl, hok2, hx2, hb3⟩
  have hb3' := below_step' (unhide HB2) hb3
  obtain ⟨hc3, hf3⟩ := bcell hb3'
  have hw3 := below_step' hw0 hb3'
  have OK2 := Lib.hid hok2; have X2 := hide hx2; have HW3 := hide hw3
  have hg9 : ∀ u0 u1 : Value, Below w.heap.size w ((W3.setCell ⟨w.heap.size + 1, 0, none⟩ u0).setCell ⟨w.heap.size + 1, 1, none⟩ u1) := fun u0 u1 => hw3.grown (set2_grown _ _ _ _) hw3.size (fun k hk => by injection hk with hk; omega)
  have HG9 := hide hg9
  clear hok2 hx2 hb3 hb3' hw3 hc2 hf2 hg9 HS1 HS2 HD HB1 HB2 HW1 HW2
  cases ok1 <;> cases ok2
  · have hn : ¬ Wd.fits q := fun h => by have := (unhide HT).2.1 h; have h2 := of_decide_eq_false OK1.out.symm; omega
    have HN := Lib.hid ((unhide HT).1.2 hn)
    clear hn
    go_wp2_with fail
    exact bodyPost_ret (v := .tuple #[.agg #[.int .i64 0, .int .i64 0], .bool false]) (by simp [results, Tryz.results94, go_sem, hc3, p0, p1, q1]) rfl ⟨0, 0, false, rfl, (unhide HG9) _ _, .inr ⟨rfl, HN.out⟩⟩
  · have hn : ¬ Wd.fits q := fun h => by have := (unhide HT).2.1 h; have h2 := of_decide_eq_false OK1.out.symm; omega
    have HN := Lib.hid ((unhide HT).1.2 hn)
    clear hn
    go_wp2_with fail
    exact bodyPost_ret (v := .tuple #[.agg #[.int .i64 0, .int .i64 0], .bool false]) (by simp [results, Tryz.results94, go_sem, hc3, p0, p1, q1]) rfl ⟨0, 0, false, rfl, (unhide HG9) _ _, .inr ⟨rfl, HN.out⟩⟩
  · have hn : ¬ Wd.fits q := fun h => by have := (unhide HT).2.1 h; have h2 := of_decide_eq_false OK2.out.symm; omega
    have HN := Lib.hid ((unhide HT).1.2 hn)
    clear hn
    go_wp2_with fail
    exact bodyPost_ret (v := .tuple #[.agg #[.int .i64 0, .int .i64 0], .bool false]) (by simp [results, Tryz.results94, go_sem, hc3, p0, p1, q1]) rfl ⟨0, 0, false, rfl, (unhide HG9) _ _, .inr ⟨rfl, HN.out⟩⟩
  · have e1 := (unhide X1) rfl
    have e2 := (unhide X2) rfl
    subst e1 e2
    by_cases hfit : Wd.fits q
    · have HN := Lib.hid ((unhide HT).1.1 hfit)
      obtain ⟨a1, a2⟩ := (unhide HT).2.1 hfit
      have d1 : decide (q.num < -1000000000000) = false := decide_eq_false (by omega)
      have d2 : decide (1000000000000 < q.num) = false := decide_eq_false (by omega)
      have d3 : decide ((1000000000000 : Int) < (q.den : Int)) = false := decide_eq_false (by omega)
      clear hfit
      go_wp2_with fail
      all_goals first | omega | skip
      exact bodyPost_ret (v := .tuple #[.agg #[.int .i64 q.num, .int .i64 q.den], .bool true]) (by simp [results, Tryz.results94, go_sem, hc3, p0, p1, q1]) rfl ⟨q.num, q.den, true, rfl, (unhide HG9) _ _, .inl ⟨rfl, HN.out⟩⟩
    · have HN := Lib.hid ((unhide HT).1.2 hfit)
      have hor : q.num < -1000000000000 ∨ 1000000000000 < q.num ∨ (1000000000000 : Int) < (q.den : Int) := by
        have h1 := (unhide HT).2.2
        by_cases a : q.num < -1000000000000
        · exact .inl a
        by_cases b : 1000000000000 < q.num
        · exact .inr (.inl b)
        by_cases c : (1000000000000 : Int) < (q.den : Int)
        · exact .inr (.inr c)
        exact absurd (h1 ⟨by omega, by omega⟩) hfit
      clear hfit
      go_wp2_with fail
      all_goals first | omega | skip
      all_goals exact bodyPost_ret (v := .tuple #[.agg #[.int .i64 0, .int .i64 0], .bool false]) (by simp [results, Tryz.results94, go_sem, hc3, p0, p1, q1]) rfl ⟨0, 0, false, rfl, (unhide HG9) _ _, .inr ⟨rfl, HN.out⟩⟩
end Go.Proofs.YtmahhmdodfimbaaGreatDoor
/- The reference: what is told; the number of two ints. -/
namespace Go.Proofs.YtmahhmdodfimbaaGreatDoor
open Go.RowKit

set_option maxRecDepth 100000 in
set_option maxHeartbeats 2000000 in
theorem ttold_any (A1 : Option Addr) (c1 : Nat) (l1 : List Nat) (m1 : Bool) (A2 : Option Addr) (c2 : Nat) (l2 : List Nat) (m2 : Bool) (q : Rat) (w : World) (h1 : WholeF w A1 c1 l1 m1 q.num) (h2 : WholeF w A2 c2 l2 m2 (q.den : Int)) :
    Calls Tryz.prog 42 #[.agg #[.slice A1 l1.length c1, .bool m1, .slice A2 l2.length c2, .bool m2]] w fun e w' => TolR w (Wd.told q) e w' := by
  have HR := hide (fun W (hW : Below w.heap.size w W) => tRat_any A1 c1 l1 m1 A2 c2 l2 m2 q W (h1.below hW) (h2.below hW))
  clear h1 h2
  go_enter Tryz.func42, Tryz.ntmps42
  go_wp2_with fail
  obtain ⟨n0, n1, hsz, hw0⟩ := two_new w (.cells #[.slice A1 l1.length c1, .bool m1, .slice A2 l2.length c2, .bool m2] 52) (.cells #[.int .i64 0, .int .i64 0] 23)
  generalize ((w.alloc (.cells #[.slice A1 l1.length c1, .bool m1, .slice A2 l2.length c2, .bool m2] 52)).alloc (.cells #[.int .i64 0, .int .i64 0] 23)) = W0 at *
  have p0 : W0.cell? ⟨w.heap.size + 1, 0, none⟩ = some (.int .i64 0) := cells_of n1 0
  have p1 : W0.cell? ⟨w.heap.size + 1, 1, none⟩ = some (.int .i64 0) := cells_of n1 1
  have v0 := unfrozen_of n1 0; have v1 := unfrozen_of n1 1
  have q1 := lt_of_block n1
  clear n0 n1 hsz
  refine ((unhide HR) _ hw0).mono ?_
  rintro e W1 ⟨n, d, ok, rfl, hb, hor⟩
  rcases hor with ⟨rfl, ht⟩ | ⟨rfl, ht⟩
  · have HT9 := Lib.hid ht
    clear ht
    have hbA := hb.alloc hb.size (.cells #[.int .i64 n, .int .i64 d] 23)
    obtain ⟨hc, hf⟩ := bcell hbA
    obtain ⟨hc', hf'⟩ := bcell hb
    have hwA := below_step' hw0 hbA
    have HWA := hide hwA
    clear hbA hb hwA
    go_wp2_with fail
    exact bodyPost_ret (v := .tuple #[.agg #[.int .i64 n, .int .i64 d], .int .i64 0]) (by simp [results, Tryz.results42, go_sem, hc, hc', p0, p1, q1]) rfl
      ⟨by rw [HT9.out], (unhide HWA).grown (set2_grown _ _ _ _) (unhide HWA).size (fun k hk => by injection hk with hk; omega)⟩
  · have HT9 := Lib.hid ht
    clear ht
    have hbA := hb.alloc hb.size (.cells #[.int .i64 n, .int .i64 d] 23)
    obtain ⟨hc, hf⟩ := bcell hbA
    obtain ⟨hc', hf'⟩ := bcell hb
    have hwA := below_step' hw0 hbA
    have HWA := hide hwA
    clear hbA hb hwA
    go_wp2_with fail
    exact bodyPost_ret (v := .tuple #[.agg #[.int .i64 0, .int .i64 0], .int .i64 3]) (by simp [results, Tryz.results42, go_sem, hc, hc', p0, p1, q1]) rfl
      ⟨by rw [HT9.out], (unhide HWA).grown (set2_grown _ _ _ _) (unhide HWA).size (fun k hk => by injection hk with hk; omega)⟩
end Go.Proofs.YtmahhmdodfimbaaGreatDoor
/- The reference: a number, and its order. -/
namespace Go.Proofs.YtmahhmdodfimbaaGreatDoor
open Go.RowKit

set_option maxRecDepth 100000 in
set_option maxHeartbeats 2000000 in
theorem tOf_any (n d : Int) (w : World) (b1 : -9223372036854775808 ≤ n) (b2 : n ≤ 9223372036854775807) (b3 : -9223372036854775808 ≤ d) (b4 : d ≤ 9223372036854775807) (hd : d ≠ 0) :
    Calls Tryz.prog 41 #[.agg #[.int .i64 n, .int .i64 d]] w fun e w' => QR w (Rat.divInt n d) e w' := by
  have HO1 := hide (fun W => (tofInt_any n W b1 b2).mono (fun e w' h => h.1))
  have HO2 := hide (fun W => (tofInt_any d W b3 b4).mono (fun e w' h => h.1))
  have k1 : n.natAbs < B32 ^ 2 := by rw [B32_eq]; omega
  have k2 : d.natAbs < B32 ^ 2 := by rw [B32_eq]; omega
  obtain ⟨q, hq⟩ : ∃ q, q = Rat.divInt n d := ⟨_, rfl⟩
  have HR := hide (fun (A1 : Option Addr) (c1 : Nat) (l1 : List Nat) (m1 : Bool) (A2 : Option Addr) (c2 : Nat) (l2 : List Nat) (m2 : Bool) (W : World) (f1 : WholeF W A1 c1 l1 m1 n) (f2 : WholeF W A2 c2 l2 m2 d) => tratio_any A1 c1 l1 m1 n A2 c2 l2 m2 d 2 W f1 f2 hd k1 k2 (by omega))
  rw [← hq] at HR ⊢
  clear b1 b2 b3 b4 hd k1 k2 hq
  go_enter Tryz.func41, Tryz.ntmps41
  go_wp2_with fail
  obtain ⟨nx, n0, hsz, hw0⟩ := two_new w (.cells #[.int .i64 n, .int .i64 d] 23) (.cells #[.slice none 0 0, .bool false, .slice none 0 0, .bool false] 52)
  generalize ((w.alloc (.cells #[.int .i64 n, .int .i64 d] 23)).alloc (.cells #[.slice none 0 0, .bool false, .slice none 0 0, .bool false] 52)) = W0 at *
  have x0 : W0.cell? ⟨w.heap.size, 0, none⟩ = some (.int .i64 n) := cells_of nx 0
  have x1 : W0.cell? ⟨w.heap.size, 1, none⟩ = some (.int .i64 d) := cells_of nx 1
  have qx := lt_of_block nx
  clear nx
  have p0 : W0.cell? ⟨w.heap.size + 1, 0, none⟩ = some (.slice none 0 0) := cells_of n0 0
  have p1 : W0.cell? ⟨w.heap.size + 1, 1, none⟩ = some (.bool false) := cells_of n0 1
  have p2 : W0.cell? ⟨w.heap.size + 1, 2, none⟩ = some (.slice none 0 0) := cells_of n0 2
  have p3 : W0.cell? ⟨w.heap.size + 1, 3, none⟩ = some (.bool false) := cells_of n0 3
  have v0 := unfrozen_of n0 0; have v1 := unfrozen_of n0 1; have v2 := unfrozen_of n0 2; have v3 := unfrozen_of n0 3
  have q0 := lt_of_block n0
  have NR := Lib.hid n0
  clear n0 hsz
  go_region_with (first | (go_at_call_of 93 (Value.int .i64 n); refine ((unhide HO1) _).mono ?_; rintro e w' ⟨A1, c1, l1, m1, rfl, f1n, hb⟩; (try (first | replace f2 := WholeF.below f2 hb | replace f2 := (WholeF.below f2 (Below.drew (Below.refl _ _))).below hb)); have f1 := f1n; clear f1n; have hbw := below_step (w := W0) (by (first | with_reducible assumption | (repeat (first | with_reducible exact Below.refl _ _ | with_reducible assumption | refine Below.drew ?_ | (refine Below.alloc ?_ (by simp <;> omega) _))))) hb; obtain ⟨hc, hf⟩ := bcell hbw) | (go_at_call_of 93 (Value.int .i64 d); refine ((unhide HO2) _).mono ?_; rintro e w' ⟨A2, c2, l2, m2, rfl, f2n, hb⟩; (try (first | replace f1 := WholeF.below f1 hb | replace f1 := (WholeF.below f1 (Below.drew (Below.refl _ _))).below hb)); have f2 := f2n; clear f2n; have hbw := below_step (w := W0) (by (first | with_reducible assumption | (repeat (first | with_reducible exact Below.refl _ _ | with_reducible assumption | refine Below.drew ?_ | (refine Below.alloc ?_ (by simp <;> omega) _))))) hb; obtain ⟨hc, hf⟩ := bcell hbw) | (go_at_call 92; refine ((unhide HR) A1 c1 l1 m1 A2 c2 l2 m2 _ (by first | exact f1 | exact WholeF.below f1 (Below.drew (Below.refl _ _))) (by first | exact f2 | exact WholeF.below f2 (Below.drew (Below.refl _ _)))).mono ?_; rintro e w' ⟨A3, c3, l3, m3, A4, c4, l4, m4, rfl, f3, f4, hb⟩; have hbw := below_step (w := W0) (by (first | with_reducible assumption | (repeat (first | with_reducible exact Below.refl _ _ | with_reducible assumption | refine Below.drew ?_ | (refine Below.alloc ?_ (by simp <;> omega) _))))) hb; obtain ⟨hc, hf⟩ := bcell hbw))
  all_goals
    have hblk := (hbw.block _ q0).trans NR.out
    have hb9 := below_step' hw0 hbw
    have HBLK := Lib.hid hblk; have F3 := hide f3; have F4 := hide f4; have HB9 := hide hb9
    clear f3 f4 hblk hb9
    go_wp2_with fail
    exact bodyPost_ret (v := .agg #[.slice A3 l3.length c3, .bool m3, .slice A4 l4.length c4, .bool m4]) (by simp [results, Tryz.results41, go_sem, hc, p0, p1, p2, p3, q0]) rfl
      ⟨A3, c3, l3, m3, A4, c4, l4, m4, rfl, (unhide F3).upto HBLK.out (noW2_4 _ _ _ _ _ _ _ _) (set4_grown _ _ _ _ _ _), (unhide F4).upto HBLK.out (noW2_4 _ _ _ _ _ _ _ _) (set4_grown _ _ _ _ _ _), (unhide HB9).grown (set4_grown _ _ _ _ _ _) (unhide HB9).size (fun k hk => by injection hk with hk; omega)⟩
end Go.Proofs.YtmahhmdodfimbaaGreatDoor
/- The reference: the order of numbers. -/
namespace Go.Proofs.YtmahhmdodfimbaaGreatDoor
open Go.RowKit

set_option maxRecDepth 100000 in
set_option maxHeartbeats 8000000 in
theorem tqcmp_any (A1 : Option Addr) (c1 : Nat) (l1 : List Nat) (m1 : Bool) (A2 : Option Addr) (c2 : Nat) (l2 : List Nat) (m2 : Bool) (A3 : Option Addr) (c3 : Nat) (l3 : List Nat) (m3 : Bool) (A4 : Option Addr) (c4 : Nat) (l4 : List Nat) (m4 : Bool) (x y : Rat) (w : World) (h1 : WholeF w A1 c1 l1 m1 x.num) (h2 : WholeF w A2 c2 l2 m2 (x.den : Int)) (h3 : WholeF w A3 c3 l3 m3 y.num) (h4 : WholeF w A4 c4 l4 m4 (y.den : Int)) (k1 : l1.length + l4.length ≤ 35184372088832) (k2 : l3.length + l2.length ≤ 35184372088832) :
    Calls Tryz.prog 64 #[(Value.agg #[.slice A1 l1.length c1, .bool m1, .slice A2 l2.length c2, .bool m2]), (Value.agg #[.slice A3 l3.length c3, .bool m3, .slice A4 l4.length c4, .bool m4])] w fun e w' => e = .returned (.int .i64 (sgn (x.num * y.den - y.num * x.den))) ∧ Below w.heap.size w w' := by
  have D1 := hide (fun W (hW : Below w.heap.size w W) => tden_any A1 c1 l1 m1 A2 c2 l2 m2 (x.den : Int) W (h2.below hW) (by have := x.den_nz; omega))
  have D2 := hide (fun W (hW : Below w.heap.size w W) => tden_any A3 c3 l3 m3 A4 c4 l4 m4 (y.den : Int) W (h4.below hW) (by have := y.den_nz; omega))
  have M1 := hide (fun W (hW : Below w.heap.size w W) => tmul_any A1 c1 l1 m1 x.num A4 c4 l4 m4 (y.den : Int) W (h1.below hW) (h4.below hW) k1)
  have M2 := hide (fun W (hW : Below w.heap.size w W) => tmul_any A3 c3 l3 m3 y.num A2 c2 l2 m2 (x.den : Int) W (h3.below hW) (h2.below hW) k2)
  obtain ⟨z1, hz1⟩ : ∃ z, z = x.num * (y.den : Int) := ⟨_, rfl⟩
  obtain ⟨z2, hz2⟩ : ∃ z, z = y.num * (x.den : Int) := ⟨_, rfl⟩
  rw [← hz1] at M1 ⊢
  rw [← hz2] at M2 ⊢
  clear h1 h2 h3 h4 k1 k2 hz1 hz2
  go_enter Tryz.func64, Tryz.ntmps64
  go_wp2_with fail
  obtain ⟨n0, n1, hsz, hw0⟩ := two_new w (.cells #[.slice A1 l1.length c1, .bool m1, .slice A2 l2.length c2, .bool m2] 52) (.cells #[.slice A3 l3.length c3, .bool m3, .slice A4 l4.length c4, .bool m4] 52)
  generalize ((w.alloc (.cells #[.slice A1 l1.length c1, .bool m1, .slice A2 l2.length c2, .bool m2] 52)).alloc (.cells #[.slice A3 l3.length c3, .bool m3, .slice A4 l4.length c4, .bool m4] 52)) = W0 at *
  have q0 := lt_of_block n0; have q1 := lt_of_block n1
  have KEEP : ∀ X, Below W0.heap.size W0 X → (fun w' => w'.cell? ⟨w.heap.size, 0, none⟩ = some (.slice A1 l1.length c1) ∧ w'.cell? ⟨w.heap.size, 1, none⟩ = some (.bool m1) ∧ w'.cell? ⟨w.heap.size, 2, none⟩ = some (.slice A2 l2.length c2) ∧ w'.cell? ⟨w.heap.size, 3, none⟩ = some (.bool m2) ∧ w'.cell? ⟨w.heap.size + 1, 0, none⟩ = some (.slice A3 l3.length c3) ∧ w'.cell? ⟨w.heap.size + 1, 1, none⟩ = some (.bool m3) ∧ w'.cell? ⟨w.heap.size + 1, 2, none⟩ = some (.slice A4 l4.length c4) ∧ w'.cell? ⟨w.heap.size + 1, 3, none⟩ = some (.bool m4)) X := fun X hX => ⟨(hX.cell (p := ⟨w.heap.size, 0, none⟩) q0).trans (cells_of n0 0), (hX.cell (p := ⟨w.heap.size, 1, none⟩) q0).trans (cells_of n0 1), (hX.cell (p := ⟨w.heap.size, 2, none⟩) q0).trans (cells_of n0 2), (hX.cell (p := ⟨w.heap.size, 3, none⟩) q0).trans (cells_of n0 3), (hX.cell (p := ⟨w.heap.size + 1, 0, none⟩) q1).trans (cells_of n1 0), (hX.cell (p := ⟨w.heap.size + 1, 1, none⟩) q1).trans (cells_of n1 1), (hX.cell (p := ⟨w.heap.size + 1, 2, none⟩) q1).trans (cells_of n1 2), (hX.cell (p := ⟨w.heap.size + 1, 3, none⟩) q1).trans (cells_of n1 3)⟩
  have HKE := hide KEEP
  clear KEEP n0 n1 hsz
  go_region_held3 (fun w' => w'.cell? ⟨w.heap.size, 0, none⟩ = some (.slice A1 l1.length c1) ∧ w'.cell? ⟨w.heap.size, 1, none⟩ = some (.bool m1) ∧ w'.cell? ⟨w.heap.size, 2, none⟩ = some (.slice A2 l2.length c2) ∧ w'.cell? ⟨w.heap.size, 3, none⟩ = some (.bool m2) ∧ w'.cell? ⟨w.heap.size + 1, 0, none⟩ = some (.slice A3 l3.length c3) ∧ w'.cell? ⟨w.heap.size + 1, 1, none⟩ = some (.bool m3) ∧ w'.cell? ⟨w.heap.size + 1, 2, none⟩ = some (.slice A4 l4.length c4) ∧ w'.cell? ⟨w.heap.size + 1, 3, none⟩ = some (.bool m4)) (exact (unhide HKE) _ (by (first | with_reducible assumption | (repeat (first | with_reducible exact Below.refl _ _ | with_reducible assumption | refine Below.drew ?_ | (refine Below.alloc ?_ (by simp <;> omega) _)))))) (first | (go_at_call_of 95 (Value.agg #[.slice A1 l1.length c1, .bool m1, .slice A2 l2.length c2, .bool m2]); refine ((unhide D1) _ (below_step' hw0 (by (first | with_reducible assumption | (repeat (first | with_reducible exact Below.refl _ _ | with_reducible assumption | refine Below.drew ?_ | (refine Below.alloc ?_ (by simp <;> omega) _))))))).mono ?_; rintro e w' ⟨rfl, hb⟩; (try (first | replace f5 := WholeF.below f5 hb | replace f5 := (WholeF.below f5 (Below.drew (Below.refl _ _))).below hb)); (try (first | replace f6 := WholeF.below f6 hb | replace f6 := (WholeF.below f6 (Below.drew (Below.refl _ _))).below hb)); have hbw := below_step (w := W0) (by (first | with_reducible assumption | (repeat (first | with_reducible exact Below.refl _ _ | with_reducible assumption | refine Below.drew ?_ | (refine Below.alloc ?_ (by simp <;> omega) _))))) hb; obtain ⟨hc, hf⟩ := bcell hbw) | (go_at_call_of 95 (Value.agg #[.slice A3 l3.length c3, .bool m3, .slice A4 l4.length c4, .bool m4]); refine ((unhide D2) _ (below_step' hw0 (by (first | with_reducible assumption | (repeat (first | with_reducible exact Below.refl _ _ | with_reducible assumption | refine Below.drew ?_ | (refine Below.alloc ?_ (by simp <;> omega) _))))))).mono ?_; rintro e w' ⟨rfl, hb⟩; (try (first | replace f5 := WholeF.below f5 hb | replace f5 := (WholeF.below f5 (Below.drew (Below.refl _ _))).below hb)); (try (first | replace f6 := WholeF.below f6 hb | replace f6 := (WholeF.below f6 (Below.drew (Below.refl _ _))).below hb)); have hbw := below_step (w := W0) (by (first | with_reducible assumption | (repeat (first | with_reducible exact Below.refl _ _ | with_reducible assumption | refine Below.drew ?_ | (refine Below.alloc ?_ (by simp <;> omega) _))))) hb; obtain ⟨hc, hf⟩ := bcell hbw) | (go_at_call_of 98 (Value.agg #[.slice A1 l1.length c1, .bool m1]); refine ((unhide M1) _ (below_step' hw0 (by (first | with_reducible assumption | (repeat (first | with_reducible exact Below.refl _ _ | with_reducible assumption | refine Below.drew ?_ | (refine Below.alloc ?_ (by simp <;> omega) _))))))).mono ?_; rintro e w' ⟨A5, c5, l5, m5, rfl, f5n, hb⟩; (try (first | replace f6 := WholeF.below f6 hb | replace f6 := (WholeF.below f6 (Below.drew (Below.refl _ _))).below hb)); have f5 := f5n; clear f5n; have hbw := below_step (w := W0) (by (first | with_reducible assumption | (repeat (first | with_reducible exact Below.refl _ _ | with_reducible assumption | refine Below.drew ?_ | (refine Below.alloc ?_ (by simp <;> omega) _))))) hb; obtain ⟨hc, hf⟩ := bcell hbw) | (go_at_call_of 98 (Value.agg #[.slice A3 l3.length c3, .bool m3]); refine ((unhide M2) _ (below_step' hw0 (by (first | with_reducible assumption | (repeat (first | with_reducible exact Below.refl _ _ | with_reducible assumption | refine Below.drew ?_ | (refine Below.alloc ?_ (by simp <;> omega) _))))))).mono ?_; rintro e w' ⟨A6, c6, l6, m6, rfl, f6n, hb⟩; (try (first | replace f5 := WholeF.below f5 hb | replace f5 := (WholeF.below f5 (Below.drew (Below.refl _ _))).below hb)); have f6 := f6n; clear f6n; have hbw := below_step (w := W0) (by (first | with_reducible assumption | (repeat (first | with_reducible exact Below.refl _ _ | with_reducible assumption | refine Below.drew ?_ | (refine Below.alloc ?_ (by simp <;> omega) _))))) hb; obtain ⟨hc, hf⟩ := bcell hbw) | (go_at_call 117; refine (tcmp_any A5 c5 l5 m5 z1 A6 c6 l6 m6 z2 _ (by first | exact f5 | exact WholeF.below f5 (Below.drew (Below.refl _ _))) (by first | exact f6 | exact WholeF.below f6 (Below.drew (Below.refl _ _)))).mono ?_; rintro e w' ⟨rfl, hb⟩; have hbw := below_step (w := W0) (by (first | with_reducible assumption | (repeat (first | with_reducible exact Below.refl _ _ | with_reducible assumption | refine Below.drew ?_ | (refine Below.alloc ?_ (by simp <;> omega) _))))) hb))
  all_goals
    have hb9 := below_step' hw0 hbw
    have HB9 := hide hb9
    clear hb9 hbw
    go_wp2_with fail
    all_goals first | go_ret | skip
    exact ⟨rfl, unhide HB9⟩
end Go.Proofs.YtmahhmdodfimbaaGreatDoor
/- How numbers compare: what is told. -/
namespace Go.Proofs.YtmahhmdodfimbaaGreatDoor
open Go.RowKit

/-- What a comparison tells. -/
def cmpC (n1 d1 n2 d2 : Int) : Int := if Wd.okR n1 d1 ∧ Wd.okR n2 d2 then sgn (n1 * d2 - n2 * d1) else 0
def CmpR (w : World) (n1 d1 n2 d2 : Int) (e : Ending) (w' : World) : Prop := e = .returned (.tuple #[.int .i64 (cmpC n1 d1 n2 d2), .int .i64 (fstE n1 d1 n2 d2)]) ∧ Below w.heap.size w w'

end Go.Proofs.YtmahhmdodfimbaaGreatDoor
/- How numbers compare. -/
namespace Go.Proofs.YtmahhmdodfimbaaGreatDoor
open Go.RowKit

set_option maxRecDepth 100000 in
set_option maxHeartbeats 8000000 in
theorem cmpR_any (n1 d1 n2 d2 : Int) (w : World) (hT : Tab w) :
    Calls Tryz.prog 76 #[.agg #[.int .i64 n1, .int .i64 d1], .agg #[.int .i64 n2, .int .i64 d2]] w fun e w' => CmpR w n1 d1 n2 d2 e w' := by
  have HA := hide (fun g W (hW : Tab W) => first_any n1 d1 n2 d2 g W hW)
  have HT := hide hT
  clear hT
  by_cases ok : Wd.okR n1 d1 ∧ Wd.okR n2 d2
  · have e1 : fstE n1 d1 n2 d2 = 0 := if_pos ok
    have e2 : cmpC n1 d1 n2 d2 = sgn (n1 * d2 - n2 * d1) := if_pos ok
    unfold CmpR
    rw [e1] at HA ⊢
    rw [e2]
    obtain ⟨a1, a2⟩ := Wd.qR_ok ok.1
    obtain ⟨a3, a4⟩ := Wd.qR_ok ok.2
    obtain ⟨⟨r1, r2, r3, r4, rg1⟩, ⟨r5, r6, r7, r8, rg2⟩⟩ := ok
    have hz1 := okR_sz (n := n1) (d := d1) ⟨r1, r2, r3, r4, rg1⟩
    have hz2 := okR_sz (n := n2) (d := d2) ⟨r5, r6, r7, r8, rg2⟩
    have O1 := hide (fun W => rof_any n1 d1 W (by omega) (by omega) (by omega) (by omega))
    have O2 := hide (fun W => rof_any n2 d2 W (by omega) (by omega) (by omega) (by omega))
    have hq := fun (s1 : Int) (neg1 : Bool) (A1 : Option Addr) (c1 : Nat) (l1 : List Nat) (s2 : Int) (neg2 : Bool) (A2 : Option Addr) (c2 : Nat) (l2 : List Nat) (s3 : Int) (neg3 : Bool) (A3 : Option Addr) (c3 : Nat) (l3 : List Nat) (s4 : Int) (neg4 : Bool) (A4 : Option Addr) (c4 : Nat) (l4 : List Nat) (W : World) => opc_cmp W (Wd.qR n1 d1) (Wd.qR n2 d2) hz1 hz2 (by decide) s1 neg1 A1 c1 l1 s2 neg2 A2 c2 l2 s3 neg3 A3 c3 l3 s4 neg4 A4 c4 l4 W (Below.refl _ _)
    obtain ⟨g, hg⟩ : ∃ g, g = sgn (n1 * d2 - n2 * d1) := ⟨_, rfl⟩
    simp only [a1, a2, a3, a4, ← hg] at hq
    rw [← hg]
    have HQ := hide hq
    clear hq hg a1 a2 a3 a4 r1 r2 r3 r4 r5 r6 r7 r8 e1 e2 hz1 hz2 rg1 rg2
    go_enter Tryz.func76, Tryz.ntmps76
    go_wp2_with fail
    obtain ⟨n0, n1_, n2_, hsz, hw0⟩ := three_new w (.cells #[.int .i64 n1, .int .i64 d1] 23) (.cells #[.int .i64 n2, .int .i64 d2] 23) (.cells #[.int .i64 n1, .int .i64 d1, .int .i64 n2, .int .i64 d2] 23)
    generalize (((w.alloc (.cells #[.int .i64 n1, .int .i64 d1] 23)).alloc (.cells #[.int .i64 n2, .int .i64 d2] 23)).alloc (.cells #[.int .i64 n1, .int .i64 d1, .int .i64 n2, .int .i64 d2] 23)) = Wa at *
    refine ((unhide HA) (w.heap.size + 1 + 1) Wa ((unhide HT).below hw0) (lt_of_block n2_) (cells_of n2_ 0) (cells_of n2_ 1) (cells_of n2_ 2) (cells_of n2_ 3)).mono ?_
    rintro e W0 ⟨rfl, hb0⟩
    replace n0 := (hb0.block _ (lt_of_block n0)).trans n0
    replace n1_ := (hb0.block _ (lt_of_block n1_)).trans n1_
    replace hw0 := below_step' hw0 hb0
    have q0 := lt_of_block n0; have q1 := lt_of_block n1_
    have KEEP : ∀ X, Below W0.heap.size W0 X → (fun w' => w'.cell? ⟨w.heap.size, 0, none⟩ = some (.int .i64 n1) ∧ w'.cell? ⟨w.heap.size, 1, none⟩ = some (.int .i64 d1) ∧ w'.cell? ⟨w.heap.size + 1, 0, none⟩ = some (.int .i64 n2) ∧ w'.cell? ⟨w.heap.size + 1, 1, none⟩ = some (.int .i64 d2)) X := fun X hX => ⟨(hX.cell (p := ⟨w.heap.size, 0, none⟩) q0).trans (cells_of n0 0), (hX.cell (p := ⟨w.heap.size, 1, none⟩) q0).trans (cells_of n0 1), (hX.cell (p := ⟨w.heap.size + 1, 0, none⟩) q1).trans (cells_of n1_ 0), (hX.cell (p := ⟨w.heap.size + 1, 1, none⟩) q1).trans (cells_of n1_ 1)⟩
    have HKE := hide KEEP; have HW0 := hide hw0
    clear KEEP n0 n1_ n2_ hsz hb0 hw0 HA
    go_wp2_with fail
    go_region_held3 (fun w' => w'.cell? ⟨w.heap.size, 0, none⟩ = some (.int .i64 n1) ∧ w'.cell? ⟨w.heap.size, 1, none⟩ = some (.int .i64 d1) ∧ w'.cell? ⟨w.heap.size + 1, 0, none⟩ = some (.int .i64 n2) ∧ w'.cell? ⟨w.heap.size + 1, 1, none⟩ = some (.int .i64 d2)) (exact (unhide HKE) _ (by (first | with_reducible assumption | (repeat (first | with_reducible exact Below.refl _ _ | with_reducible assumption | refine Below.drew ?_ | (refine Below.alloc ?_ (by simp <;> omega) _)))))) (first | (go_at_call_of 50 (Value.agg #[.int .i64 n1, .int .i64 d1]); refine ((unhide O1) _).mono ?_; rintro e w' ⟨s1, neg1, A1, c1, l1, s2, neg2, A2, c2, l2, rfl, f1n, f2n, hb⟩; (try (first | replace f3 := IntF.below f3 hb | replace f3 := (IntF.below f3 (Below.drew (Below.refl _ _))).below hb)); (try (first | replace f4 := IntF.below f4 hb | replace f4 := (IntF.below f4 (Below.drew (Below.refl _ _))).below hb)); have f1 := f1n; have f2 := f2n; clear f1n f2n; have hbw := below_step (w := W0) (by (first | with_reducible assumption | (repeat (first | with_reducible exact Below.refl _ _ | with_reducible assumption | refine Below.drew ?_ | (refine Below.alloc ?_ (by simp <;> omega) _))))) hb; obtain ⟨hc, hf⟩ := bcell hbw) | (go_at_call_of 50 (Value.agg #[.int .i64 n2, .int .i64 d2]); refine ((unhide O2) _).mono ?_; rintro e w' ⟨s3, neg3, A3, c3, l3, s4, neg4, A4, c4, l4, rfl, f3n, f4n, hb⟩; (try (first | replace f1 := IntF.below f1 hb | replace f1 := (IntF.below f1 (Below.drew (Below.refl _ _))).below hb)); (try (first | replace f2 := IntF.below f2 hb | replace f2 := (IntF.below f2 (Below.drew (Below.refl _ _))).below hb)); have f3 := f3n; have f4 := f4n; clear f3n f4n; have hbw := below_step (w := W0) (by (first | with_reducible assumption | (repeat (first | with_reducible exact Below.refl _ _ | with_reducible assumption | refine Below.drew ?_ | (refine Below.alloc ?_ (by simp <;> omega) _))))) hb; obtain ⟨hc, hf⟩ := bcell hbw) | (go_at_call 62; refine ((unhide HQ) s1 neg1 A1 c1 l1 s2 neg2 A2 c2 l2 s3 neg3 A3 c3 l3 s4 neg4 A4 c4 l4 _ (by first | exact f1 | exact IntF.below f1 (Below.drew (Below.refl _ _))) (by first | exact f2 | exact IntF.below f2 (Below.drew (Below.refl _ _))) (by first | exact f3 | exact IntF.below f3 (Below.drew (Below.refl _ _))) (by first | exact f4 | exact IntF.below f4 (Below.drew (Below.refl _ _)))).mono ?_; rintro e w' ⟨rfl, hb⟩; have hbw := below_step (w := W0) (by (first | with_reducible assumption | (repeat (first | with_reducible exact Below.refl _ _ | with_reducible assumption | refine Below.drew ?_ | (refine Below.alloc ?_ (by simp <;> omega) _))))) hb))
    all_goals
      have hb9 := below_step' (unhide HW0) hbw
      have HB9 := hide hb9
      clear hb9 hbw
      go_wp2_with fail
      go_ret2
      exact ⟨rfl, unhide HB9⟩
  · have e1 : fstE n1 d1 n2 d2 = 1 := if_neg ok
    have e2 : cmpC n1 d1 n2 d2 = 0 := if_neg ok
    unfold CmpR
    rw [e1] at HA ⊢
    rw [e2]
    clear e1 e2 ok
    go_enter Tryz.func76, Tryz.ntmps76
    go_wp2_with fail
    obtain ⟨n0, n1_, n2_, hsz, hw0⟩ := three_new w (.cells #[.int .i64 n1, .int .i64 d1] 23) (.cells #[.int .i64 n2, .int .i64 d2] 23) (.cells #[.int .i64 n1, .int .i64 d1, .int .i64 n2, .int .i64 d2] 23)
    generalize (((w.alloc (.cells #[.int .i64 n1, .int .i64 d1] 23)).alloc (.cells #[.int .i64 n2, .int .i64 d2] 23)).alloc (.cells #[.int .i64 n1, .int .i64 d1, .int .i64 n2, .int .i64 d2] 23)) = Wa at *
    refine ((unhide HA) (w.heap.size + 1 + 1) Wa ((unhide HT).below hw0) (lt_of_block n2_) (cells_of n2_ 0) (cells_of n2_ 1) (cells_of n2_ 2) (cells_of n2_ 3)).mono ?_
    rintro e W0 ⟨rfl, hb0⟩
    replace hw0 := below_step' hw0 hb0
    clear n0 n1_ n2_ hsz hb0
    go_wp2_with fail
    go_ret2
    exact ⟨rfl, hw0⟩
end Go.Proofs.YtmahhmdodfimbaaGreatDoor
/- The program: the simplest number between two, for all ints. -/
namespace Go.Proofs.YtmahhmdodfimbaaGreatDoor
open Go.RowKit

set_option maxRecDepth 100000 in
set_option maxHeartbeats 16000000 in
theorem ps_bad (n1 d1 n2 d2 o : Int) (w : World) (hT : Tab w)
    (hcm : ∀ W, Tab W → Calls Tryz.prog 76 #[(Value.agg #[.int .i64 n1, .int .i64 d1]), (Value.agg #[.int .i64 n2, .int .i64 d2])] W fun e w' => e = .returned (.tuple #[.int .i64 o, .int .i64 1]) ∧ Below W.heap.size W w')
     :
    Calls Tryz.prog 28 #[(Value.agg #[.int .i64 n1, .int .i64 d1]), (Value.agg #[.int .i64 n2, .int .i64 d2])] w fun e w' => e = .returned (.tuple #[.agg #[.int .i64 0, .int .i64 0], .int .i64 1]) ∧ Below w.heap.size w w' := by
  have HC := hide hcm; have HT := hide hT
  clear hcm hT
  go_enter Tryz.func28, Tryz.ntmps28
  go_upto_region 1 with fail
  obtain ⟨n0, n1_, n2_, hsz, hw0⟩ := three_new w (.cells #[.int .i64 n1, .int .i64 d1] 23) (.cells #[.int .i64 n2, .int .i64 d2] 23) (.cells #[.int .i64 0, .int .i64 0] 23)
  generalize (((w.alloc (.cells #[.int .i64 n1, .int .i64 d1] 23)).alloc (.cells #[.int .i64 n2, .int .i64 d2] 23)).alloc (.cells #[.int .i64 0, .int .i64 0] 23)) = W0 at *
  have k0_0 : W0.cell? ⟨w.heap.size, 0, none⟩ = some (.int .i64 n1) := cells_of n0 0
  have k0_1 : W0.cell? ⟨w.heap.size, 1, none⟩ = some (.int .i64 d1) := cells_of n0 1
  have k1_0 : W0.cell? ⟨w.heap.size + 1, 0, none⟩ = some (.int .i64 n2) := cells_of n1_ 0
  have k1_1 : W0.cell? ⟨w.heap.size + 1, 1, none⟩ = some (.int .i64 d2) := cells_of n1_ 1
  have k2_0 : W0.cell? ⟨w.heap.size + 1 + 1, 0, none⟩ = some (.int .i64 0) := cells_of n2_ 0
  have k2_1 : W0.cell? ⟨w.heap.size + 1 + 1, 1, none⟩ = some (.int .i64 0) := cells_of n2_ 1
  have f2_0 := unfrozen_of n2_ 0; have f2_1 := unfrozen_of n2_ 1
  have q0 := lt_of_block n0; have q1 := lt_of_block n1_; have q2 := lt_of_block n2_
  clear n0 n1_ n2_ hsz
  go_wp2_with fail
  refine ((unhide HC) _ ((unhide HT).below hw0)).mono ?_
  rintro e W1 ⟨rfl, hb⟩
  obtain ⟨hc, hfz⟩ := bcell hb
  replace k0_0 := (hc _ _ q0).trans k0_0
  replace k0_1 := (hc _ _ q0).trans k0_1
  replace k1_0 := (hc _ _ q1).trans k1_0
  replace k1_1 := (hc _ _ q1).trans k1_1
  replace k2_0 := (hc _ _ q2).trans k2_0
  replace k2_1 := (hc _ _ q2).trans k2_1
  replace f2_0 := (hfz _ _ q2).trans f2_0
  replace f2_1 := (hfz _ _ q2).trans f2_1
  replace q0 := Nat.lt_of_lt_of_le q0 hb.size
  replace q1 := Nat.lt_of_lt_of_le q1 hb.size
  replace q2 := Nat.lt_of_lt_of_le q2 hb.size
  replace hw0 := below_step' hw0 hb
  clear hb hc hfz
  go_wp2_with fail
  exact bodyPost_ret (v := .tuple #[.agg #[.int .i64 0, .int .i64 0], .int .i64 1]) (by simp [results, Tryz.results28, go_sem, k2_0, k2_1, q2]) rfl
    ⟨rfl, hw0.grown (set2_grown _ _ _ _) hw0.size (fun k hk => by injection hk with hk; omega)⟩

set_option maxRecDepth 100000 in
set_option maxHeartbeats 16000000 in
theorem ps_gt (n1 d1 n2 d2 o : Int) (w : World) (hT : Tab w)
    (hcm : ∀ W, Tab W → Calls Tryz.prog 76 #[(Value.agg #[.int .i64 n1, .int .i64 d1]), (Value.agg #[.int .i64 n2, .int .i64 d2])] W fun e w' => e = .returned (.tuple #[.int .i64 o, .int .i64 0]) ∧ Below W.heap.size W w')
    (hd1_ : 0 < o) :
    Calls Tryz.prog 28 #[(Value.agg #[.int .i64 n1, .int .i64 d1]), (Value.agg #[.int .i64 n2, .int .i64 d2])] w fun e w' => e = .returned (.tuple #[.agg #[.int .i64 0, .int .i64 0], .int .i64 1]) ∧ Below w.heap.size w w' := by
  have HC := hide hcm; have HT := hide hT
  clear hcm hT
  have d1_ : decide (0 < o) = true := decide_eq_true hd1_
  clear hd1_
  go_enter Tryz.func28, Tryz.ntmps28
  go_upto_region 1 with fail
  obtain ⟨n0, n1_, n2_, hsz, hw0⟩ := three_new w (.cells #[.int .i64 n1, .int .i64 d1] 23) (.cells #[.int .i64 n2, .int .i64 d2] 23) (.cells #[.int .i64 0, .int .i64 0] 23)
  generalize (((w.alloc (.cells #[.int .i64 n1, .int .i64 d1] 23)).alloc (.cells #[.int .i64 n2, .int .i64 d2] 23)).alloc (.cells #[.int .i64 0, .int .i64 0] 23)) = W0 at *
  have k0_0 : W0.cell? ⟨w.heap.size, 0, none⟩ = some (.int .i64 n1) := cells_of n0 0
  have k0_1 : W0.cell? ⟨w.heap.size, 1, none⟩ = some (.int .i64 d1) := cells_of n0 1
  have k1_0 : W0.cell? ⟨w.heap.size + 1, 0, none⟩ = some (.int .i64 n2) := cells_of n1_ 0
  have k1_1 : W0.cell? ⟨w.heap.size + 1, 1, none⟩ = some (.int .i64 d2) := cells_of n1_ 1
  have k2_0 : W0.cell? ⟨w.heap.size + 1 + 1, 0, none⟩ = some (.int .i64 0) := cells_of n2_ 0
  have k2_1 : W0.cell? ⟨w.heap.size + 1 + 1, 1, none⟩ = some (.int .i64 0) := cells_of n2_ 1
  have f2_0 := unfrozen_of n2_ 0; have f2_1 := unfrozen_of n2_ 1
  have q0 := lt_of_block n0; have q1 := lt_of_block n1_; have q2 := lt_of_block n2_
  clear n0 n1_ n2_ hsz
  go_wp2_with fail
  refine ((unhide HC) _ ((unhide HT).below hw0)).mono ?_
  rintro e W1 ⟨rfl, hb⟩
  obtain ⟨hc, hfz⟩ := bcell hb
  replace k0_0 := (hc _ _ q0).trans k0_0
  replace k0_1 := (hc _ _ q0).trans k0_1
  replace k1_0 := (hc _ _ q1).trans k1_0
  replace k1_1 := (hc _ _ q1).trans k1_1
  replace k2_0 := (hc _ _ q2).trans k2_0
  replace k2_1 := (hc _ _ q2).trans k2_1
  replace f2_0 := (hfz _ _ q2).trans f2_0
  replace f2_1 := (hfz _ _ q2).trans f2_1
  replace q0 := Nat.lt_of_lt_of_le q0 hb.size
  replace q1 := Nat.lt_of_lt_of_le q1 hb.size
  replace q2 := Nat.lt_of_lt_of_le q2 hb.size
  replace hw0 := below_step' hw0 hb
  clear hb hc hfz
  go_wp2_with fail
  exact bodyPost_ret (v := .tuple #[.agg #[.int .i64 0, .int .i64 0], .int .i64 1]) (by simp [results, Tryz.results28, go_sem, k2_0, k2_1, q2]) rfl
    ⟨rfl, hw0.grown (set2_grown _ _ _ _) hw0.size (fun k hk => by injection hk with hk; omega)⟩

set_option maxRecDepth 100000 in
set_option maxHeartbeats 16000000 in
theorem ps_pos (n1 d1 n2 d2 o : Int) (w : World) (hT : Tab w)
    (hcm : ∀ W, Tab W → Calls Tryz.prog 76 #[(Value.agg #[.int .i64 n1, .int .i64 d1]), (Value.agg #[.int .i64 n2, .int .i64 d2])] W fun e w' => e = .returned (.tuple #[.int .i64 o, .int .i64 0]) ∧ Below W.heap.size W w')
    (r s : Int) (hd1_ : ¬ 0 < o) (hd2_ : 0 < n1)
    (hs : ∀ W, Calls Tryz.prog 77 #[(Value.agg #[.int .i64 n1, .int .i64 d1]), (Value.agg #[.int .i64 n2, .int .i64 d2])] W fun e' w' => e' = .returned (.agg #[.int .i64 r, .int .i64 s]) ∧ Below W.heap.size W w') :
    Calls Tryz.prog 28 #[(Value.agg #[.int .i64 n1, .int .i64 d1]), (Value.agg #[.int .i64 n2, .int .i64 d2])] w fun e w' => e = .returned (.tuple #[.agg #[.int .i64 r, .int .i64 s], .int .i64 0]) ∧ Below w.heap.size w w' := by
  have HC := hide hcm; have HT := hide hT
  clear hcm hT
  have HS := hide hs
  have d1_ : decide (0 < o) = false := decide_eq_false hd1_
  have d2_ : decide (0 < n1) = true := decide_eq_true hd2_
  clear hs hd1_ hd2_
  go_enter Tryz.func28, Tryz.ntmps28
  go_upto_region 1 with fail
  obtain ⟨n0, n1_, n2_, hsz, hw0⟩ := three_new w (.cells #[.int .i64 n1, .int .i64 d1] 23) (.cells #[.int .i64 n2, .int .i64 d2] 23) (.cells #[.int .i64 0, .int .i64 0] 23)
  generalize (((w.alloc (.cells #[.int .i64 n1, .int .i64 d1] 23)).alloc (.cells #[.int .i64 n2, .int .i64 d2] 23)).alloc (.cells #[.int .i64 0, .int .i64 0] 23)) = W0 at *
  have k0_0 : W0.cell? ⟨w.heap.size, 0, none⟩ = some (.int .i64 n1) := cells_of n0 0
  have k0_1 : W0.cell? ⟨w.heap.size, 1, none⟩ = some (.int .i64 d1) := cells_of n0 1
  have k1_0 : W0.cell? ⟨w.heap.size + 1, 0, none⟩ = some (.int .i64 n2) := cells_of n1_ 0
  have k1_1 : W0.cell? ⟨w.heap.size + 1, 1, none⟩ = some (.int .i64 d2) := cells_of n1_ 1
  have k2_0 : W0.cell? ⟨w.heap.size + 1 + 1, 0, none⟩ = some (.int .i64 0) := cells_of n2_ 0
  have k2_1 : W0.cell? ⟨w.heap.size + 1 + 1, 1, none⟩ = some (.int .i64 0) := cells_of n2_ 1
  have f2_0 := unfrozen_of n2_ 0; have f2_1 := unfrozen_of n2_ 1
  have q0 := lt_of_block n0; have q1 := lt_of_block n1_; have q2 := lt_of_block n2_
  clear n0 n1_ n2_ hsz
  go_wp2_with fail
  refine ((unhide HC) _ ((unhide HT).below hw0)).mono ?_
  rintro e W1 ⟨rfl, hb⟩
  obtain ⟨hc, hfz⟩ := bcell hb
  replace k0_0 := (hc _ _ q0).trans k0_0
  replace k0_1 := (hc _ _ q0).trans k0_1
  replace k1_0 := (hc _ _ q1).trans k1_0
  replace k1_1 := (hc _ _ q1).trans k1_1
  replace k2_0 := (hc _ _ q2).trans k2_0
  replace k2_1 := (hc _ _ q2).trans k2_1
  replace f2_0 := (hfz _ _ q2).trans f2_0
  replace f2_1 := (hfz _ _ q2).trans f2_1
  replace q0 := Nat.lt_of_lt_of_le q0 hb.size
  replace q1 := Nat.lt_of_lt_of_le q1 hb.size
  replace q2 := Nat.lt_of_lt_of_le q2 hb.size
  replace hw0 := below_step' hw0 hb
  clear hb hc hfz
  go_wp2_with fail
  refine ((unhide HS) _).mono ?_
  rintro e' W2 ⟨rfl, hb⟩
  obtain ⟨hc, hfz⟩ := bcell hb
  replace k0_0 := (hc _ _ q0).trans k0_0
  replace k0_1 := (hc _ _ q0).trans k0_1
  replace k1_0 := (hc _ _ q1).trans k1_0
  replace k1_1 := (hc _ _ q1).trans k1_1
  replace k2_0 := (hc _ _ q2).trans k2_0
  replace k2_1 := (hc _ _ q2).trans k2_1
  replace f2_0 := (hfz _ _ q2).trans f2_0
  replace f2_1 := (hfz _ _ q2).trans f2_1
  replace q0 := Nat.lt_of_lt_of_le q0 hb.size
  replace q1 := Nat.lt_of_lt_of_le q1 hb.size
  replace q2 := Nat.lt_of_lt_of_le q2 hb.size
  replace hw0 := below_step' hw0 hb
  clear hb hc hfz
  go_wp2_with fail
  exact bodyPost_ret (v := .tuple #[.agg #[.int .i64 r, .int .i64 s], .int .i64 0]) (by simp [results, Tryz.results28, go_sem, k2_0, k2_1, q2]) rfl
    ⟨rfl, hw0.grown (set2_grown _ _ _ _) hw0.size (fun k hk => by injection hk with hk; omega)⟩

set_option maxRecDepth 100000 in
set_option maxHeartbeats 16000000 in
theorem ps_mid (n1 d1 n2 d2 o : Int) (w : World) (hT : Tab w)
    (hcm : ∀ W, Tab W → Calls Tryz.prog 76 #[(Value.agg #[.int .i64 n1, .int .i64 d1]), (Value.agg #[.int .i64 n2, .int .i64 d2])] W fun e w' => e = .returned (.tuple #[.int .i64 o, .int .i64 0]) ∧ Below W.heap.size W w')
    (hd1_ : ¬ 0 < o) (hd2_ : ¬ 0 < n1) (hd3_ : ¬ n2 < 0) :
    Calls Tryz.prog 28 #[(Value.agg #[.int .i64 n1, .int .i64 d1]), (Value.agg #[.int .i64 n2, .int .i64 d2])] w fun e w' => e = .returned (.tuple #[.agg #[.int .i64 0, .int .i64 1], .int .i64 0]) ∧ Below w.heap.size w w' := by
  have HC := hide hcm; have HT := hide hT
  clear hcm hT
  have d1_ : decide (0 < o) = false := decide_eq_false hd1_
  have d2_ : decide (0 < n1) = false := decide_eq_false hd2_
  have d3_ : decide (n2 < 0) = false := decide_eq_false hd3_
  clear hd1_ hd2_ hd3_
  go_enter Tryz.func28, Tryz.ntmps28
  go_upto_region 1 with fail
  obtain ⟨n0, n1_, n2_, hsz, hw0⟩ := three_new w (.cells #[.int .i64 n1, .int .i64 d1] 23) (.cells #[.int .i64 n2, .int .i64 d2] 23) (.cells #[.int .i64 0, .int .i64 0] 23)
  generalize (((w.alloc (.cells #[.int .i64 n1, .int .i64 d1] 23)).alloc (.cells #[.int .i64 n2, .int .i64 d2] 23)).alloc (.cells #[.int .i64 0, .int .i64 0] 23)) = W0 at *
  have k0_0 : W0.cell? ⟨w.heap.size, 0, none⟩ = some (.int .i64 n1) := cells_of n0 0
  have k0_1 : W0.cell? ⟨w.heap.size, 1, none⟩ = some (.int .i64 d1) := cells_of n0 1
  have k1_0 : W0.cell? ⟨w.heap.size + 1, 0, none⟩ = some (.int .i64 n2) := cells_of n1_ 0
  have k1_1 : W0.cell? ⟨w.heap.size + 1, 1, none⟩ = some (.int .i64 d2) := cells_of n1_ 1
  have k2_0 : W0.cell? ⟨w.heap.size + 1 + 1, 0, none⟩ = some (.int .i64 0) := cells_of n2_ 0
  have k2_1 : W0.cell? ⟨w.heap.size + 1 + 1, 1, none⟩ = some (.int .i64 0) := cells_of n2_ 1
  have f2_0 := unfrozen_of n2_ 0; have f2_1 := unfrozen_of n2_ 1
  have q0 := lt_of_block n0; have q1 := lt_of_block n1_; have q2 := lt_of_block n2_
  clear n0 n1_ n2_ hsz
  go_wp2_with fail
  refine ((unhide HC) _ ((unhide HT).below hw0)).mono ?_
  rintro e W1 ⟨rfl, hb⟩
  obtain ⟨hc, hfz⟩ := bcell hb
  replace k0_0 := (hc _ _ q0).trans k0_0
  replace k0_1 := (hc _ _ q0).trans k0_1
  replace k1_0 := (hc _ _ q1).trans k1_0
  replace k1_1 := (hc _ _ q1).trans k1_1
  replace k2_0 := (hc _ _ q2).trans k2_0
  replace k2_1 := (hc _ _ q2).trans k2_1
  replace f2_0 := (hfz _ _ q2).trans f2_0
  replace f2_1 := (hfz _ _ q2).trans f2_1
  replace q0 := Nat.lt_of_lt_of_le q0 hb.size
  replace q1 := Nat.lt_of_lt_of_le q1 hb.size
  replace q2 := Nat.lt_of_lt_of_le q2 hb.size
  replace hw0 := below_step' hw0 hb
  clear hb hc hfz
  go_wp2_with fail
  exact bodyPost_ret (v := .tuple #[.agg #[.int .i64 0, .int .i64 1], .int .i64 0]) (by simp [results, Tryz.results28, go_sem, k2_0, k2_1, q2]) rfl
    ⟨rfl, hw0.grown (set2_grown _ _ _ _) hw0.size (fun k hk => by injection hk with hk; omega)⟩

set_option maxRecDepth 100000 in
set_option maxHeartbeats 16000000 in
theorem ps_neg (n1 d1 n2 d2 o : Int) (w : World) (hT : Tab w)
    (hcm : ∀ W, Tab W → Calls Tryz.prog 76 #[(Value.agg #[.int .i64 n1, .int .i64 d1]), (Value.agg #[.int .i64 n2, .int .i64 d2])] W fun e w' => e = .returned (.tuple #[.int .i64 o, .int .i64 0]) ∧ Below W.heap.size W w')
    (m1 m2 r s t : Int) (hd1_ : ¬ 0 < o) (hd2_ : ¬ 0 < n1) (hd3_ : n2 < 0)
    (hn1 : ∀ W, Calls Tryz.prog 78 #[(Value.agg #[.int .i64 n2, .int .i64 d2])] W fun e' w' => e' = .returned (.agg #[.int .i64 m2, .int .i64 d2]) ∧ Below W.heap.size W w')
    (hn2 : ∀ W, Calls Tryz.prog 78 #[(Value.agg #[.int .i64 n1, .int .i64 d1])] W fun e' w' => e' = .returned (.agg #[.int .i64 m1, .int .i64 d1]) ∧ Below W.heap.size W w')
    (hs : ∀ W, Calls Tryz.prog 77 #[(Value.agg #[.int .i64 m2, .int .i64 d2]), (Value.agg #[.int .i64 m1, .int .i64 d1])] W fun e' w' => e' = .returned (.agg #[.int .i64 r, .int .i64 s]) ∧ Below W.heap.size W w')
    (hn3 : ∀ W, Calls Tryz.prog 78 #[(Value.agg #[.int .i64 r, .int .i64 s])] W fun e' w' => e' = .returned (.agg #[.int .i64 t, .int .i64 s]) ∧ Below W.heap.size W w') :
    Calls Tryz.prog 28 #[(Value.agg #[.int .i64 n1, .int .i64 d1]), (Value.agg #[.int .i64 n2, .int .i64 d2])] w fun e w' => e = .returned (.tuple #[.agg #[.int .i64 t, .int .i64 s], .int .i64 0]) ∧ Below w.heap.size w w' := by
  have HC := hide hcm; have HT := hide hT
  clear hcm hT
  have HS := hide hs; have HN1 := hide hn1; have HN2 := hide hn2; have HN3 := hide hn3
  have d1_ : decide (0 < o) = false := decide_eq_false hd1_
  have d2_ : decide (0 < n1) = false := decide_eq_false hd2_
  have d3_ : decide (n2 < 0) = true := decide_eq_true hd3_
  clear hs hn1 hn2 hn3 hd1_ hd2_ hd3_
  go_enter Tryz.func28, Tryz.ntmps28
  go_upto_region 1 with fail
  obtain ⟨n0, n1_, n2_, hsz, hw0⟩ := three_new w (.cells #[.int .i64 n1, .int .i64 d1] 23) (.cells #[.int .i64 n2, .int .i64 d2] 23) (.cells #[.int .i64 0, .int .i64 0] 23)
  generalize (((w.alloc (.cells #[.int .i64 n1, .int .i64 d1] 23)).alloc (.cells #[.int .i64 n2, .int .i64 d2] 23)).alloc (.cells #[.int .i64 0, .int .i64 0] 23)) = W0 at *
  have k0_0 : W0.cell? ⟨w.heap.size, 0, none⟩ = some (.int .i64 n1) := cells_of n0 0
  have k0_1 : W0.cell? ⟨w.heap.size, 1, none⟩ = some (.int .i64 d1) := cells_of n0 1
  have k1_0 : W0.cell? ⟨w.heap.size + 1, 0, none⟩ = some (.int .i64 n2) := cells_of n1_ 0
  have k1_1 : W0.cell? ⟨w.heap.size + 1, 1, none⟩ = some (.int .i64 d2) := cells_of n1_ 1
  have k2_0 : W0.cell? ⟨w.heap.size + 1 + 1, 0, none⟩ = some (.int .i64 0) := cells_of n2_ 0
  have k2_1 : W0.cell? ⟨w.heap.size + 1 + 1, 1, none⟩ = some (.int .i64 0) := cells_of n2_ 1
  have f2_0 := unfrozen_of n2_ 0; have f2_1 := unfrozen_of n2_ 1
  have q0 := lt_of_block n0; have q1 := lt_of_block n1_; have q2 := lt_of_block n2_
  clear n0 n1_ n2_ hsz
  go_wp2_with fail
  refine ((unhide HC) _ ((unhide HT).below hw0)).mono ?_
  rintro e W1 ⟨rfl, hb⟩
  obtain ⟨hc, hfz⟩ := bcell hb
  replace k0_0 := (hc _ _ q0).trans k0_0
  replace k0_1 := (hc _ _ q0).trans k0_1
  replace k1_0 := (hc _ _ q1).trans k1_0
  replace k1_1 := (hc _ _ q1).trans k1_1
  replace k2_0 := (hc _ _ q2).trans k2_0
  replace k2_1 := (hc _ _ q2).trans k2_1
  replace f2_0 := (hfz _ _ q2).trans f2_0
  replace f2_1 := (hfz _ _ q2).trans f2_1
  replace q0 := Nat.lt_of_lt_of_le q0 hb.size
  replace q1 := Nat.lt_of_lt_of_le q1 hb.size
  replace q2 := Nat.lt_of_lt_of_le q2 hb.size
  replace hw0 := below_step' hw0 hb
  clear hb hc hfz
  go_upto_region 9 with fail
  have KEEP := hide (show ∀ X, Below W1.heap.size W1 X → X.cell? ⟨w.heap.size, 0, none⟩ = some (.int .i64 n1) ∧ X.cell? ⟨w.heap.size, 1, none⟩ = some (.int .i64 d1) ∧ X.cell? ⟨w.heap.size + 1, 0, none⟩ = some (.int .i64 n2) ∧ X.cell? ⟨w.heap.size + 1, 1, none⟩ = some (.int .i64 d2) from fun X hB => ⟨keep_cell hB q0 k0_0, keep_cell hB q0 k0_1, keep_cell hB q1 k1_0, keep_cell hB q1 k1_1⟩)
  go_region_held3 (fun w' => w'.cell? ⟨w.heap.size, 0, none⟩ = some (.int .i64 n1) ∧ w'.cell? ⟨w.heap.size, 1, none⟩ = some (.int .i64 d1) ∧ w'.cell? ⟨w.heap.size + 1, 0, none⟩ = some (.int .i64 n2) ∧ w'.cell? ⟨w.heap.size + 1, 1, none⟩ = some (.int .i64 d2)) (first | with_reducible exact ⟨(cell_set2 _ _ _ _ (by omega)).trans (keep_cell hbw q0 k0_0), (cell_set2 _ _ _ _ (by omega)).trans (keep_cell hbw q0 k0_1), (cell_set2 _ _ _ _ (by omega)).trans (keep_cell hbw q1 k1_0), (cell_set2 _ _ _ _ (by omega)).trans (keep_cell hbw q1 k1_1)⟩ | exact (unhide KEEP) _ (by (repeat (first | with_reducible exact Below.refl _ _ | with_reducible assumption | with_reducible refine Below.drew ?_ | with_reducible refine below_alloc ?_ _)))) (first | (go_at_call_of 78 (Value.agg #[.int .i64 n2, .int .i64 d2]); refine ((unhide HN1) _).mono ?_; rintro e' w' ⟨rfl, hb1⟩; have hbw := below_step (w := W1) (by (repeat (first | with_reducible exact Below.refl _ _ | with_reducible assumption | with_reducible refine Below.drew ?_ | with_reducible refine below_alloc ?_ _))) hb1; obtain ⟨hc, hfz⟩ := bcell hbw) | (go_at_call_of 78 (Value.agg #[.int .i64 n1, .int .i64 d1]); refine ((unhide HN2) _).mono ?_; rintro e' w' ⟨rfl, hb2⟩; have hbw := below_step (w := W1) (by (repeat (first | with_reducible exact Below.refl _ _ | with_reducible assumption | with_reducible refine Below.drew ?_ | with_reducible refine below_alloc ?_ _))) hb2; obtain ⟨hc, hfz⟩ := bcell hbw) | (go_at_call_of 77 (Value.agg #[.int .i64 m2, .int .i64 d2]); refine ((unhide HS) _).mono ?_; rintro e' w' ⟨rfl, hb3⟩; have hbw := below_step (w := W1) (by (repeat (first | with_reducible exact Below.refl _ _ | with_reducible assumption | with_reducible refine Below.drew ?_ | with_reducible refine below_alloc ?_ _))) hb3; obtain ⟨hc, hfz⟩ := bcell hbw) | (go_at_call_of 78 (Value.agg #[.int .i64 r, .int .i64 s]); refine ((unhide HN3) _).mono ?_; rintro e' w' ⟨rfl, hb4⟩; have hbw := below_step (w := W1) (by (repeat (first | with_reducible exact Below.refl _ _ | with_reducible assumption | with_reducible refine Below.drew ?_ | with_reducible refine below_alloc ?_ _))) hb4; obtain ⟨hc, hfz⟩ := bcell hbw))
  clear KEEP
  try clear hc hfz
  obtain ⟨hc, hfz⟩ := bcell hbw
  replace k0_0 := (hc _ _ q0).trans k0_0
  replace k0_1 := (hc _ _ q0).trans k0_1
  replace k1_0 := (hc _ _ q1).trans k1_0
  replace k1_1 := (hc _ _ q1).trans k1_1
  replace k2_0 := (hc _ _ q2).trans k2_0
  replace k2_1 := (hc _ _ q2).trans k2_1
  replace f2_0 := (hfz _ _ q2).trans f2_0
  replace f2_1 := (hfz _ _ q2).trans f2_1
  replace q0 := Nat.lt_of_lt_of_le q0 hbw.size
  replace q1 := Nat.lt_of_lt_of_le q1 hbw.size
  replace q2 := Nat.lt_of_lt_of_le q2 hbw.size
  replace hw0 := below_step' hw0 hbw
  clear hbw hc hfz
  go_wp2_with fail
  exact bodyPost_ret (v := .tuple #[.agg #[.int .i64 t, .int .i64 s], .int .i64 0]) (by simp [results, Tryz.results28, go_sem, k2_0, k2_1, q2]) rfl
    ⟨rfl, hw0.grown (set2_grown _ _ _ _) hw0.size (fun k hk => by injection hk with hk; omega)⟩

theorem sgn_gt_ (z : Int) : 0 < sgn z ↔ 0 < z := by
  unfold sgn; (repeat' split) <;> omega
theorem pSimplest_any (n1 d1 n2 d2 : Int) (w : World) (hT : Tab w) :
    Calls Tryz.prog 28 #[(Value.agg #[.int .i64 n1, .int .i64 d1]), (Value.agg #[.int .i64 n2, .int .i64 d2])] w fun e w' => TolR w (Wd.simpT n1 d1 n2 d2) e w' := by
  have hcm := fun W (hW : Tab W) => cmpR_any n1 d1 n2 d2 W hW
  unfold CmpR cmpC fstE at hcm
  by_cases ok : Wd.okR n1 d1 ∧ Wd.okR n2 d2
  · simp only [if_pos ok] at hcm
    obtain ⟨a1, a2, a3, a4⟩ := Wd.okR_nat ok.1
    obtain ⟨b1, b2, b3, b4⟩ := Wd.okR_nat ok.2
    by_cases hle : 0 < n1 * d2 - n2 * d1
    · have e : Wd.simpT n1 d1 n2 d2 = ⟨0, 0, 1⟩ := (if_pos ok).trans (if_pos hle)
      rw [e]
      exact ps_gt n1 d1 n2 d2 _ w hT hcm ((sgn_gt_ _).2 hle)
    · have ho : ¬ 0 < sgn (n1 * d2 - n2 * d1) := fun h => hle ((sgn_gt_ _).1 h)
      by_cases hp : 0 < n1
      · have e := ((if_pos ok).trans (if_neg hle)).trans (if_pos hp) (a := Wd.simpT n1 d1 n2 d2)
        rw [e]
        obtain ⟨c1, c2⟩ := Wd.simpOk_pos ok.1 ok.2 hle hp
        have hs := fun W => psimp_any (d1.natAbs + d2.natAbs) n1.natAbs d1.natAbs n2.natAbs d2.natAbs W c2 (Nat.le_refl _) a3 a2 b3 b2
        rw [Int.natAbs_of_nonneg (show 0 ≤ n1 by omega), Int.natAbs_of_nonneg (show 0 ≤ d1 by omega), Int.natAbs_of_nonneg (show 0 ≤ n2 by omega), Int.natAbs_of_nonneg (show 0 ≤ d2 by omega)] at hs
        exact ps_pos n1 d1 n2 d2 _ w hT hcm _ _ ho hp hs
      · by_cases hn : n2 < 0
        · have e := (((if_pos ok).trans (if_neg hle)).trans (if_neg hp)).trans (if_pos hn) (a := Wd.simpT n1 d1 n2 d2)
          rw [e]
          obtain ⟨c1, c2⟩ := Wd.simpOk_neg ok.1 ok.2 hle hn
          have hs := fun W => psimp_any (d2.natAbs + d1.natAbs) n2.natAbs d2.natAbs n1.natAbs d1.natAbs W c2 (Nat.le_refl _) b3 b2 a3 a2
          have hr := Wd.simp_res (d2.natAbs + d1.natAbs) n2.natAbs d2.natAbs n1.natAbs d1.natAbs c2 (Nat.le_refl _)
          have r1 := hr.na; have r2 := hr.eb
          clear hr c2
          generalize Wd.simp (d2.natAbs + d1.natAbs) n2.natAbs d2.natAbs n1.natAbs d1.natAbs = rs at *
          obtain ⟨r, s⟩ := rs
          dsimp only at hs r1 r2 ⊢
          rw [show ((n2.natAbs : Nat) : Int) = -n2 by omega, show ((d2.natAbs : Nat) : Int) = d2 by omega, show ((n1.natAbs : Nat) : Int) = -n1 by omega, show ((d1.natAbs : Nat) : Int) = d1 by omega] at hs
          exact ps_neg n1 d1 n2 d2 _ w hT hcm (-n1) (-n2) _ _ _ ho hp hn (fun W => pneg_any n2 d2 (-n2) W rfl (by omega)) (fun W => pneg_any n1 d1 (-n1) W rfl (by omega)) hs (fun W => pneg_any (r : Int) (s : Int) (-(r : Int)) W rfl (by omega))
        · have e := (((if_pos ok).trans (if_neg hle)).trans (if_neg hp)).trans (if_neg hn) (a := Wd.simpT n1 d1 n2 d2)
          rw [e]
          exact ps_mid n1 d1 n2 d2 _ w hT hcm ho hp hn
  · simp only [if_neg ok] at hcm
    have e : Wd.simpT n1 d1 n2 d2 = ⟨0, 0, 1⟩ := if_neg ok
    rw [e]
    exact ps_bad n1 d1 n2 d2 _ w hT hcm

end Go.Proofs.YtmahhmdodfimbaaGreatDoor
/- The reference's numbers as it keeps them: the number nought without a denominator among them; their denominators. -/
namespace Go.Proofs.YtmahhmdodfimbaaGreatDoor
open Go.RowKit

/-- A number of the reference: numerator, and denominator or (of an integer) none. -/
structure QV (w : World) (A1 : Option Addr) (c1 : Nat) (l1 : List Nat) (m1 : Bool) (A2 : Option Addr) (c2 : Nat) (l2 : List Nat) (m2 : Bool) (q : Rat) : Prop where
  num : WholeF w A1 c1 l1 m1 q.num
  den : ∃ d : Int, WholeF w A2 c2 l2 m2 d ∧ (d = (q.den : Int) ∨ (d = 0 ∧ q.den = 1))
theorem QV.below {w w' : World} {A1 : Option Addr} {c1 : Nat} {l1 : List Nat} {m1 : Bool} {A2 : Option Addr} {c2 : Nat} {l2 : List Nat} {m2 : Bool} {q : Rat} (h : QV w A1 c1 l1 m1 A2 c2 l2 m2 q) (hb : Below w.heap.size w w') : QV w' A1 c1 l1 m1 A2 c2 l2 m2 q := by
  obtain ⟨d, h2, h3⟩ := h.den
  exact ⟨h.num.below hb, d, h2.below hb, h3⟩
theorem QV.of {w : World} {A1 : Option Addr} {c1 : Nat} {l1 : List Nat} {m1 : Bool} {A2 : Option Addr} {c2 : Nat} {l2 : List Nat} {m2 : Bool} {q : Rat} (h1 : WholeF w A1 c1 l1 m1 q.num) (h2 : WholeF w A2 c2 l2 m2 (q.den : Int)) : QV w A1 c1 l1 m1 A2 c2 l2 m2 q :=
  ⟨h1, _, h2, .inl rfl⟩
theorem WholeF.len {w : World} {A : Option Addr} {cap : Nat} {l : List Nat} {m : Bool} {z : Int} {K : Nat} (h : WholeF w A cap l m z) (hz : z.natAbs < B32 ^ K) : l.length ≤ K := h.nat.len hz

set_option maxRecDepth 100000 in
set_option maxHeartbeats 1000000 in
theorem tone_any (w : World) :
    Calls Tryz.prog 107 #[] w fun e w' => WholeR w 1 e w' := by
  go_enter Tryz.func107, Tryz.ntmps107
  go_wp2_with fail
  obtain ⟨n0, n1, hsz, hw0⟩ := two_new w (.cells #[.slice (some ⟨w.heap.size + 1, 0, none⟩) 1 1, .bool false] 50) (.cells #[.int .u32 1] 136)
  generalize ((w.alloc (.cells #[.slice (some ⟨w.heap.size + 1, 0, none⟩) 1 1, .bool false] 50)).alloc (.cells #[.int .u32 1] 136)) = W0 at *
  have hz : ZB .u32 W0 (w.heap.size + 1) 136 [1] := n1
  have hn : NatT W0 (some ⟨w.heap.size + 1, 0, none⟩) 1 [1] 1 := ⟨hz.ws0 _ hz.lt, by simp, by omega, by intro x hx; rw [List.mem_singleton] at hx; subst hx; exact B32_pos, .inr (by simp), by simp [Wd.val]⟩
  have k0 : W0.cell? ⟨w.heap.size, 0, none⟩ = some (.slice (some ⟨w.heap.size + 1, 0, none⟩) 1 1) := cells_of n0 0
  have k1 : W0.cell? ⟨w.heap.size, 1, none⟩ = some (.bool false) := cells_of n0 1
  exact bodyPost_ret (v := .agg #[.slice (some ⟨w.heap.size + 1, 0, none⟩) 1 1, .bool false]) (by simp [results, Tryz.results107, go_sem, k0, k1]) rfl
    ⟨_, 1, [1], false, rfl, ⟨hn, rfl⟩, hw0⟩

set_option maxRecDepth 100000 in
set_option maxHeartbeats 1000000 in
theorem tdenv_nought (A1 : Option Addr) (c1 : Nat) (l1 : List Nat) (m1 : Bool) (A2 : Option Addr) (c2 : Nat) (l2 : List Nat) (m2 : Bool) (w : World) (h2 : WholeF w A2 c2 l2 m2 0) :
    Calls Tryz.prog 95 #[.agg #[.slice A1 l1.length c1, .bool m1, .slice A2 l2.length c2, .bool m2]] w fun e w' => WholeR w 1 e w' := by
  have hl : l2.length = 0 := h2.nat.zero_iff.1 rfl
  have HI := hide (fun W => tisn_any A2 c2 l2.length m2 W)
  rw [decide_eq_true hl] at HI
  have HO := hide tone_any
  clear h2 hl
  go_enter Tryz.func95, Tryz.ntmps95
  go_wp2_with fail
  obtain ⟨n0, n1, hsz, hw0⟩ := two_new w (.cells #[.slice A1 l1.length c1, .bool m1, .slice A2 l2.length c2, .bool m2] 52) (.cells #[.slice none 0 0, .bool false] 50)
  generalize ((w.alloc (.cells #[.slice A1 l1.length c1, .bool m1, .slice A2 l2.length c2, .bool m2] 52)).alloc (.cells #[.slice none 0 0, .bool false] 50)) = W0 at *
  have q1 : w.heap.size + 1 < W0.heap.size := by omega
  have r0 : W0.cell? ⟨w.heap.size + 1, 0, none⟩ = some (.slice none 0 0) := cells_of n1 0
  have r1 : W0.cell? ⟨w.heap.size + 1, 1, none⟩ = some (.bool false) := cells_of n1 1
  have f0 := unfrozen_of n1 0
  have f1 := unfrozen_of n1 1
  have NR := Lib.hid n1
  clear n0 n1 hsz
  refine ((unhide HI) _).mono ?_
  rintro e W1 ⟨rfl, hb⟩
  have HB := hide hb
  clear hb
  go_wp2_with fail
  refine ((unhide HO) _).mono ?_
  rintro e w' ⟨A5, c5, l5, m5, rfl, hf5, hb2⟩
  have hb := below_step' (unhide HB) hb2
  obtain ⟨hc, hfz⟩ := bcell hb
  have hblk : w'.heap[w.heap.size + 1]? = some (.cells #[.slice none 0 0, .bool false] 50 (0, 0)) := (hb.block _ q1).trans NR.out
  have HBLK := Lib.hid hblk
  have hb9 : Below w.heap.size w w' := below_step' hw0 hb
  clear hblk hb2
  go_wp2_with fail
  exact bodyPost_ret (v := .agg #[.slice A5 l5.length c5, .bool m5]) (by simp [results, Tryz.results95, go_sem, hc, r0, r1, q1]) rfl
    ⟨A5, c5, l5, m5, rfl, hf5.upto HBLK.out (noW2_2 _ _ _ _) (set2_grown _ _ _ _), hb9.grown (set2_grown _ _ _ _) hb9.size (fun k hk => by injection hk with hk; omega)⟩

theorem tdenv_any (A1 : Option Addr) (c1 : Nat) (l1 : List Nat) (m1 : Bool) (A2 : Option Addr) (c2 : Nat) (l2 : List Nat) (m2 : Bool) (q : Rat) (w : World) (h : QV w A1 c1 l1 m1 A2 c2 l2 m2 q) :
    Calls Tryz.prog 95 #[.agg #[.slice A1 l1.length c1, .bool m1, .slice A2 l2.length c2, .bool m2]] w fun e w' => WholeR w (q.den : Int) e w' := by
  obtain ⟨d, h2, rfl | ⟨rfl, h1⟩⟩ := h.den
  · refine (tden_any A1 c1 l1 m1 A2 c2 l2 m2 _ w h2 (by have := q.den_nz; omega)).mono ?_
    rintro e w' ⟨rfl, hb⟩
    exact ⟨A2, c2, l2, m2, rfl, h2.below hb, hb⟩
  · rw [h1]
    exact tdenv_nought A1 c1 l1 m1 A2 c2 l2 m2 w h2
end Go.Proofs.YtmahhmdodfimbaaGreatDoor
