/- Texts beneath a law of layer 1. -/
import Derived.Test.YtfgeaakhlcaibaaGreatDoorCy8
import Derived.Deep.DeepCutAuto
set_option maxRecDepth 100000
set_option maxHeartbeats 16000000
namespace Go.Proofs.YtfgeaakhlcaibaaGreatDoor
open Go.RowKit

theorem asr (A1 : Option Addr) (c1 : Nat) (l1 : List Nat) (m1 : Bool) (A2 : Option Addr) (c2 : Nat) (l2 : List Nat) (m2 : Bool) (d : Int) (w : World) (h2 : iq w A2 c2 l2 m2 d) (hd : d ≠ 0) :
  Calls Tryz.prog 130 #[.agg #[.slice A1 l1.length c1, .bool m1, .slice A2 l2.length c2, .bool m2]] w fun e w' => e = .returned (.agg #[.slice A2 l2.length c2, .bool m2]) ∧ Below w.heap.size w w' := by
 have hl : ¬ l2.length = 0 := fun e => by have := h2.nat.Md.2 e; omega
 have HI := hide (fun W => Wv A2 c2 l2.length m2 W)
 rw [decide_eq_false hl] at HI
 clear h2 hd
 go_enter Tryz.func130, Tryz.ntmps130
 go_wp2_with fail
 obtain ⟨n0, n1, hsz, hw0⟩ := qw w (.cells #[.slice A1 l1.length c1, .bool m1, .slice A2 l2.length c2, .bool m2] 68) (.cells #[.slice none 0 0, .bool false] 66)
 generalize ((w.alloc (.cells #[.slice A1 l1.length c1, .bool m1, .slice A2 l2.length c2, .bool m2] 68)).alloc (.cells #[.slice none 0 0, .bool false] 66)) = W0 at *
 have k2 : W0.cell? ⟨w.heap.size, 2, none⟩ = some (.slice A2 l2.length c2) := ag n0 2
 have k3 : W0.cell? ⟨w.heap.size, 3, none⟩ = some (.bool m2) := ag n0 3
 have q0 : w.heap.size < W0.heap.size := by omega
 have q1 : w.heap.size + 1 < W0.heap.size := by omega
 have r0 : W0.cell? ⟨w.heap.size + 1, 0, none⟩ = some (.slice none 0 0) := ag n1 0
 have r1 : W0.cell? ⟨w.heap.size + 1, 1, none⟩ = some (.bool false) := ag n1 1
 have f0 := ai n1 0
 have f1 := ai n1 1
 clear n0 n1 hsz
 refine ((aa HI) _).mono ?_
 rintro e w' ⟨rfl, hb⟩
 obtain ⟨hc, hfz⟩ := dz hb
 have jh : Below w.heap.size w w' := bg hw0 hb
 go_wp2_with fail
 exact bodyPost_ret (v := .agg #[.slice A2 l2.length c2, .bool m2]) (by simp [results, Tryz.results130, go_sem, hc, k2, k3, r0, r1, q1]) rfl
  ⟨rfl, jh.grown (mh _ _ _ _) jh.size (fun k hk => by injection hk with hk; omega)⟩

def bgh (w : World) (z : Int) (e : Ending) (w' : World) : Prop := ∃ (v : Int) (ok : Bool), e = .returned (.tuple #[.int .i64 v, .bool ok]) ∧ ok = decide (-9223372036854775808 ≤ z ∧ z ≤ 9223372036854775807) ∧ (ok = true → v = z) ∧ Below w.heap.size w w'

theorem Sk (l : List Nat) (h : 0 < l.length) : Wd.val ek (l.take 1) = Wd.g l 0 := by
 cases l with
 | nil => simp at h
 | cons a l => simp [Wd.val, Wd.qf, List.getD]
theorem adj (l : List Nat) (h : 1 < l.length) : Wd.val ek (l.take 2) = Wd.g l 0 + Wd.g l 1 * 2 ^ 32 := by
 cases l with
 | nil => simp at h
 | cons a l => cases l with
  | nil => simp at h
  | cons b l => simp [Wd.val, Wd.qf, List.getD, fe]; omega

theorem Ya (A : Option Addr) (cap : Nat) (l : List Nat) (m : Bool) (z : Int) (w : World) (h : iq w A cap l m z) :
  Calls Tryz.prog 143 #[.agg #[.slice A l.length cap, .bool m]] w fun e w' => bgh w z e w' := by
 have hc1 := h.nat.ru; have hc2 := h.nat.cap2
 have hba : Below w.heap.size w (w.alloc (.cells #[.slice A l.length cap, .bool m] 66)) := (Below.refl _ _).alloc (Nat.le_refl _) _
 by_cases hl : l.length ≤ 2
 ·
  have d1 : decide ((2 : Int) < (l.length : Int)) = false := decide_eq_false om
  have hsg := h.sign
  have hn := (h.nat.below hba)
  have hbl := h.nat.Mi
  obtain ⟨n0, hsz, hw0⟩ := Jf w (.cells #[.slice A l.length cap, .bool m] 66)
  have HN := hide hn; have HBL := hide hbl; have La := Lib.hid hsg; have HW0 := hide hw0
  clear hba hn hbl hsg h hw0
  go_enter Tryz.func143, Tryz.ntmps143
  go_wp2_with fail
  all_goals first | omega | skip
  generalize (w.alloc (.cells #[.slice A l.length cap, .bool m] 66)) = W0 at *
  have k0 : W0.cell? ⟨w.heap.size, 0, none⟩ = some (.slice A l.length cap) := ag n0 0
  have k1 : W0.cell? ⟨w.heap.size, 1, none⟩ = some (.bool m) := ag n0 1
  clear n0 hsz
  go_loop [4, 5] (fun uv iv => ∃ i : Nat, i ≤ l.length ∧ iv = .int .i64 ((i : Nat) : Int) ∧ uv = .int .u64 ((Wd.val ek (l.take i) : Nat) : Int)) (fun _ iv => l.length - (intOf iv).toNat)
  case atStart => exact ⟨0, Nat.zero_le _, rfl, rfl⟩
  case round =>
   obtain ⟨i, hi, rfl, rfl⟩ := hrel
   by_cases hlt : i < l.length
   ·
    obtain ⟨b, o, rfl, hbb, hcell⟩ := (aa HN).ws om
    have hx := hcell i hlt
    clear hcell
    obtain ⟨x, Rx⟩ : ∃ x, x = Wd.g l i := ⟨_, rfl⟩
    rw [← Rx] at hx
    have zf : x < ek := by rw [Rx]; exact Wd.getD_lt (by rw [fe]; omega) _ (aa HN).lt i
    have e0 : IntKind.u64.wrap (x : Int) = (x : Int) := il rfl (by rw [fe] at zf; rw [gp]; omega)
    have hi2 : i = 0 ∨ i = 1 := by omega
    rcases hi2 with rfl | rfl
    ·
     have hv : Wd.val ek (l.take 1) = x := by rw [Sk l hlt, Rx]
     have hv0 : Wd.val ek (l.take 0) = 0 := rfl
     rw [Nat.add_zero] at hx
     rw [hv0]
     have g1 : Go.bits .or .u64 0 (x : Int) = (x : Int) := by
      have := bits_or_u64_nat 0 x om (by rw [fe] at zf; omega)
      simpa using this
     have HV := Lib.hid hv
     clear hv Rx hv0
     go_wp2_with fail
     go_round
     case rel => exact ⟨1, by omega, rfl, by rw [HV.out]⟩
     case measure => simp [intOf] <;> omega
    ·
     have hv : Wd.val ek (l.take 2) = Wd.g l 0 + x * 2 ^ 32 := by rw [adj l hlt, Rx]
     have hv0 : Wd.val ek (l.take 1) = Wd.g l 0 := Sk l om
     have Fj : Wd.g l 0 < ek := Wd.getD_lt (by rw [fe]; omega) _ (aa HN).lt 0
     obtain ⟨y, hyy⟩ : ∃ x, x = Wd.g l 0 := ⟨_, rfl⟩
     rw [← hyy] at hv hv0 Fj
     rw [hv0]
     obtain ⟨p, hp⟩ : ∃ p, p = x * 2 ^ 32 := ⟨_, rfl⟩
     obtain ⟨s, hs⟩ : ∃ s, s = y + p := ⟨_, rfl⟩
     have g0 : IntKind.u64.wrap ((x : Int) * 2 ^ 32) = (p : Int) := il (by rw [hp]; simp) (by rw [hp]; rw [fe] at zf; rw [gp]; omega)
     have g0' : IntKind.u64.wrap ((x : Int) * 4294967296) = (p : Int) := il (by rw [hp]; simp) (by rw [hp]; rw [fe] at zf; rw [gp]; omega)
     have g1 : Go.bits .or .u64 (y : Int) (p : Int) = (s : Int) := by
      rw [bits_or_u64_nat y p (by rw [fe] at Fj; omega) (by rw [hp]; rw [fe] at zf; omega), hs, hp, Lx (by rw [fe] at Fj; omega)]
     rw [← hp, ← hs] at hv
     have HV := Lib.hid hv
     clear hv Rx hv0 hyy hp hs
     go_wp2_with fail
     go_round
     case rel => exact ⟨2, by omega, rfl, by rw [HV.out]⟩
     case measure => simp [intOf] <;> omega
   ·
    have e : i = l.length := by omega
    subst e
    have hv : Wd.val ek (l.take l.length) = z.natAbs := by rw [List.take_length]; exact (aa HN).val
    rw [hv]
    obtain ⟨a, ha⟩ : ∃ a, a = z.natAbs := ⟨_, rfl⟩
    have haB : a < dm := by
     have := aa HBL
     have h2 : ek ^ l.length ≤ ek ^ 2 := Nat.pow_le_pow_right (by rw [fe]; omega) hl
     rw [← ha] at this; rw [gp]; rw [fe] at *; omega
    rw [← ha]
    clear hv hlt
    go_wp2_with fail
    ·
     have hm : m = true := by assumption
     have hz : z < 0 := of_decide_eq_true (La.out.symm.trans hm)
     go_ret2
     refine ⟨_, _, rfl, decide_eq_decide.2 om, fun h => ?_, aa HW0⟩
     have h2 := of_decide_eq_true h
     simp only [wrap64, IntKind.wrap_u64]
     omega
    ·
     have hm : ¬ m = true := by rw [show m = false by assumption]; exact Bool.false_ne_true
     have hz : ¬ z < 0 := fun h => hm (La.out.trans (decide_eq_true h))
     go_ret2
     refine ⟨_, _, rfl, decide_eq_decide.2 om, fun h => ?_, aa HW0⟩
     have h2 := of_decide_eq_true h
     rw [IntWalk.wrap64_in _ om]
     omega
 ·
  have d1 : decide ((2 : Int) < (l.length : Int)) = true := decide_eq_true om
  have hnot : ¬ (-9223372036854775808 ≤ z ∧ z ≤ 9223372036854775807) := by
   intro hz
   have := h.nat.len (k := 2) (by rw [fe]; omega)
   omega
  have HNO := hide hnot
  clear h hnot
  go_enter Tryz.func143, Tryz.ntmps143
  go_wp2_with fail
  all_goals first | omega | skip
  go_ret2
  exact ⟨0, false, rfl, (decide_eq_false (aa HNO)).symm, (fun h => Bool.noConfusion h), hba⟩

def Oi (n d : Int) : Int := if Wd.oo n d then 0 else 1

theorem asl (n d : Int) (h1 : d < 1) (w : World) :
  Calls Tryz.prog 66 #[.agg #[.int .i64 n, .int .i64 d]] w fun e w' => e = .returned (.int .i64 1) ∧ Below w.heap.size w w' := by
 have d1 : decide (d < 1) = true := decide_eq_true om
 clear h1
 go_enter Tryz.func66, Tryz.ntmps66
 go_wp2
 go_ret
 exact ⟨rfl, (Below.refl _ _).alloc (Nat.le_refl _) _⟩
theorem asj (n d : Int) (h1 : ¬ d < 1) (h2 : 1000000000000 < d) (w : World) :
  Calls Tryz.prog 66 #[.agg #[.int .i64 n, .int .i64 d]] w fun e w' => e = .returned (.int .i64 1) ∧ Below w.heap.size w w' := by
 have d1 : decide (d < 1) = false := decide_eq_false om
 have d2 : decide (1000000000000 < d) = true := decide_eq_true om
 clear h1 h2
 go_enter Tryz.func66, Tryz.ntmps66
 go_wp2
 go_ret
 exact ⟨rfl, (Below.refl _ _).alloc (Nat.le_refl _) _⟩
theorem asi (n d : Int) (h1 : ¬ d < 1) (h2 : ¬ 1000000000000 < d) (h3 : n < -1000000000000) (w : World) :
  Calls Tryz.prog 66 #[.agg #[.int .i64 n, .int .i64 d]] w fun e w' => e = .returned (.int .i64 1) ∧ Below w.heap.size w w' := by
 have d1 : decide (d < 1) = false := decide_eq_false om
 have d2 : decide (1000000000000 < d) = false := decide_eq_false om
 have d3 : decide (n < -1000000000000) = true := decide_eq_true om
 clear h1 h2 h3
 go_enter Tryz.func66, Tryz.ntmps66
 go_wp2
 go_ret
 exact ⟨rfl, (Below.refl _ _).alloc (Nat.le_refl _) _⟩
theorem ash (n d : Int) (h1 : ¬ d < 1) (h2 : ¬ 1000000000000 < d) (h3 : ¬ n < -1000000000000) (h4 : 1000000000000 < n) (w : World) :
  Calls Tryz.prog 66 #[.agg #[.int .i64 n, .int .i64 d]] w fun e w' => e = .returned (.int .i64 1) ∧ Below w.heap.size w w' := by
 have d1 : decide (d < 1) = false := decide_eq_false om
 have d2 : decide (1000000000000 < d) = false := decide_eq_false om
 have d3 : decide (n < -1000000000000) = false := decide_eq_false om
 have d4 : decide (1000000000000 < n) = true := decide_eq_true om
 clear h1 h2 h3 h4
 go_enter Tryz.func66, Tryz.ntmps66
 go_wp2
 go_ret
 exact ⟨rfl, (Below.refl _ _).alloc (Nat.le_refl _) _⟩
theorem val_ok (n d : Int) (h1 : ¬ d < 1) (h2 : ¬ 1000000000000 < d) (h3 : ¬ n < -1000000000000) (h4 : ¬ 1000000000000 < n) (h5 : n.natAbs.gcd d.natAbs = 1) (w : World) (hT : qm w) :
  Calls Tryz.prog 66 #[.agg #[.int .i64 n, .int .i64 d]] w fun e w' => e = .returned (.int .i64 0) ∧ Below w.heap.size w w' := by
 have d1 : decide (d < 1) = false := decide_eq_false om
 have d2 : decide (1000000000000 < d) = false := decide_eq_false om
 have d3 : decide (n < -1000000000000) = false := decide_eq_false om
 have d4 : decide (1000000000000 < n) = false := decide_eq_false om
 have e1 : wrap64 (-n) = -n := IntWalk.wrap64_in _ om
 have e1' : IntKind.i64.wrap (-n) = -n := IntWalk.i64_in _ om
 obtain ⟨a, ha⟩ : ∃ a, a = n.natAbs := ⟨_, rfl⟩
 obtain ⟨b, hb⟩ : ∃ b, b = d.natAbs := ⟨_, rfl⟩
 have e2 : max n (-n) = ((a : Nat) : Int) := by omega
 have e3 : IntKind.u64.wrap ((a : Nat) : Int) = ((a : Nat) : Int) := by rw [IntKind.wrap_u64]; omega
 have e4 : IntKind.u64.wrap d = ((b : Nat) : Int) := by rw [IntKind.wrap_u64]; omega
 rw [← ha, ← hb] at h5
 have HG := hide (fun W (hW : qm W) => Nv a b (by rw [gp]; omega) (by rw [gp]; omega) W hW)
 have HT := hide hT
 obtain ⟨g, hg⟩ : ∃ g, g = a.gcd b := ⟨_, rfl⟩
 rw [← hg] at h5 HG
 have d5 : ((g : Int) == 1) = true := beq_iff_eq.2 om
 have d6 : ((g : Int) != 1) = false := by simp [bne, d5]
 clear h1 h2 h3 h4 h5 ha hb hg hT
 go_enter Tryz.func66, Tryz.ntmps66
 go_wp2_with fail
 refine ((aa HG) _ ((aa HT).alloc _)).mono ?_
 rintro e w' ⟨rfl, rfl⟩
 go_wp2
 go_ret
 exact ⟨rfl, (Below.refl _ _).alloc (Nat.le_refl _) _⟩
theorem asg (n d : Int) (h1 : ¬ d < 1) (h2 : ¬ 1000000000000 < d) (h3 : ¬ n < -1000000000000) (h4 : ¬ 1000000000000 < n) (h5 : ¬ n.natAbs.gcd d.natAbs = 1) (w : World) (hT : qm w) :
  Calls Tryz.prog 66 #[.agg #[.int .i64 n, .int .i64 d]] w fun e w' => e = .returned (.int .i64 1) ∧ Below w.heap.size w w' := by
 have d1 : decide (d < 1) = false := decide_eq_false om
 have d2 : decide (1000000000000 < d) = false := decide_eq_false om
 have d3 : decide (n < -1000000000000) = false := decide_eq_false om
 have d4 : decide (1000000000000 < n) = false := decide_eq_false om
 have e1 : wrap64 (-n) = -n := IntWalk.wrap64_in _ om
 have e1' : IntKind.i64.wrap (-n) = -n := IntWalk.i64_in _ om
 obtain ⟨a, ha⟩ : ∃ a, a = n.natAbs := ⟨_, rfl⟩
 obtain ⟨b, hb⟩ : ∃ b, b = d.natAbs := ⟨_, rfl⟩
 have e2 : max n (-n) = ((a : Nat) : Int) := by omega
 have e3 : IntKind.u64.wrap ((a : Nat) : Int) = ((a : Nat) : Int) := by rw [IntKind.wrap_u64]; omega
 have e4 : IntKind.u64.wrap d = ((b : Nat) : Int) := by rw [IntKind.wrap_u64]; omega
 rw [← ha, ← hb] at h5
 have HG := hide (fun W (hW : qm W) => Nv a b (by rw [gp]; omega) (by rw [gp]; omega) W hW)
 have HT := hide hT
 obtain ⟨g, hg⟩ : ∃ g, g = a.gcd b := ⟨_, rfl⟩
 rw [← hg] at h5 HG
 have d5 : ((g : Int) == 1) = false := beq_eq_false_iff_ne.2 om
 have d6 : ((g : Int) != 1) = true := by simp [bne, d5]
 clear h1 h2 h3 h4 h5 ha hb hg hT
 go_enter Tryz.func66, Tryz.ntmps66
 go_wp2_with fail
 refine ((aa HG) _ ((aa HT).alloc _)).mono ?_
 rintro e w' ⟨rfl, rfl⟩
 go_wp2
 go_ret
 exact ⟨rfl, (Below.refl _ _).alloc (Nat.le_refl _) _⟩
theorem ayz (n d : Int) (w : World) (hT : qm w) :
  Calls Tryz.prog 66 #[.agg #[.int .i64 n, .int .i64 d]] w fun e w' => e = .returned (.int .i64 (Oi n d)) ∧ Below w.heap.size w w' := by
 unfold Oi
 by_cases h1 : d < 1
 ·
  rw [if_neg (by unfold Wd.oo; omega)]; exact asl n d h1 w
 by_cases h2 : 1000000000000 < d
 ·
  rw [if_neg (by unfold Wd.oo; omega)]; exact asj n d h1 h2 w
 by_cases h3 : n < -1000000000000
 ·
  rw [if_neg (by unfold Wd.oo; omega)]; exact asi n d h1 h2 h3 w
 by_cases h4 : 1000000000000 < n
 ·
  rw [if_neg (by unfold Wd.oo; omega)]; exact ash n d h1 h2 h3 h4 w
 by_cases h5 : n.natAbs.gcd d.natAbs = 1
 ·
  rw [if_pos (by unfold Wd.oo; omega)]; exact val_ok n d h1 h2 h3 h4 h5 w hT
 ·
  rw [if_neg (by unfold Wd.oo; omega)]; exact asg n d h1 h2 h3 h4 h5 w hT

theorem aiz (n d : Int) (w : World) :
  Calls Tryz.prog 70 #[.agg #[.int .i64 n, .int .i64 d]] w fun e w' => e = .returned (.bool (decide (Wd.oo n d))) ∧ Below w.heap.size w w' := by
 have hba : Below w.heap.size w (w.alloc (.cells #[.int .i64 n, .int .i64 d] 23)) := (Below.refl _ _).alloc (Nat.le_refl _) _
 have HB := hide hba
 by_cases hr : 1 ≤ d ∧ d ≤ 1000000000000 ∧ -1000000000000 ≤ n ∧ n ≤ 1000000000000
 ·
  obtain ⟨r1, r2, r3, r4⟩ := hr
  have hok : decide (n.natAbs.gcd d.natAbs = 1) = decide (Wd.oo n d) := decide_eq_decide.2 (by
   unfold Wd.oo
   constructor
   ·
    intro h; refine ⟨?_, ?_, ?_, ?_, ?_⟩ <;> first | omega | exact h
   ·
    rintro ⟨_, _, _, _, h⟩; exact h)
  rw [← hok]
  obtain ⟨rb, hrb⟩ : ∃ b, b = decide (n.natAbs.gcd d.natAbs = 1) := ⟨_, rfl⟩
  rw [← hrb]
  have HRB := Lib.hid hrb
  clear hok hba hrb
  have d1 : decide (d < 1) = false := decide_eq_false om
  have d2 : decide (1000000000000 < d) = false := decide_eq_false om
  have d3 : decide (n < -1000000000000) = false := decide_eq_false om
  have d4 : decide (1000000000000 < n) = false := decide_eq_false om
  have en : IntKind.i64.wrap (-n) = -n := IntWalk.i64_in _ om
  obtain ⟨a, ha⟩ : ∃ a, a = n.natAbs := ⟨_, rfl⟩
  obtain ⟨b, hb⟩ : ∃ b, b = d.natAbs := ⟨_, rfl⟩
  go_enter Tryz.func70, Tryz.ntmps70
  go_wp2_with fail
  all_goals first | omega | skip
  all_goals go_quiet (fail)
  all_goals go_wp2_with fail
  all_goals
   have HRR := hide (And.intro r1 (And.intro r2 (And.intro r3 r4)))
   go_loopw [3, 4] (fun av bv wr => ∃ (a b : Nat), av = .int .i64 ((a : Nat) : Int) ∧ bv = .int .i64 ((b : Nat) : Int) ∧ a ≤ 1000000000000 ∧ b ≤ 1000000000000 ∧ Hid (a.gcd b = n.natAbs.gcd d.natAbs) ∧ Below w.heap.size w wr) (fun _ bv _ => (intOf bv).toNat)
   case atStart =>
    refine ⟨n.natAbs, d.natAbs, ?_, ?_, by omega, by omega, rfl, by first | exact aa HB | exact (aa HB).drew | exact mi (aa HB) _⟩
    ·
     show Value.int .i64 _ = Value.int .i64 _
     congr 1; omega
    ·
     show Value.int .i64 _ = Value.int .i64 _
     congr 1; omega
   case round =>
    obtain ⟨a, b, rfl, rfl, ha, hb, HG, hbl⟩ := hrel
    by_cases h0 : b = 0
    ·
     subst h0
     have hg := HG.out
     rw [Nat.gcd_zero_right] at hg
     have hres : ((a : Int) == 1) = rb := by
      rw [HRB.out]
      by_cases h : a = 1
      ·
       exact (show ((a : Int) == 1) = true by rw [h]; rfl).trans (decide_eq_true (hg.symm.trans h)).symm
      ·
       exact (show ((a : Int) == 1) = false from beq_eq_false_iff_ne.2 om).trans (decide_eq_false (fun e => h (hg.trans e))).symm
     have boc := Lib.hid hres
     clear hg hres
     go_wp2_with fail
     all_goals first | omega | skip
     go_ret
     exact ⟨by rw [← boc.out]; rfl, hbl⟩
    ·
     have dp : decide ((0 : Int) < (b : Int)) = true := decide_eq_true om
     have dp' : decide (0 < b) = true := decide_eq_true om
     have e1 : ((a : Int)).tmod (b : Int) = ((a % b : Nat) : Int) := (Int.ofNat_tmod _ _).symm
     have e2 : ((b : Int) == 0) = false := beq_eq_false_iff_ne.2 om
     have e3 : ¬ ((b : Int) = 0) := by omega
     have hm := Nat.mod_lt a (Nat.pos_of_ne_zero h0)
     obtain ⟨r, hr⟩ : ∃ r, r = a % b := ⟨_, rfl⟩
     rw [← hr] at e1 hm
     have e4 : IntKind.i64.wrap (r : Int) = (r : Int) := IntWalk.i64_in _ om
     have hgg : b.gcd r = n.natAbs.gcd d.natAbs := by
      rw [← HG.out, hr, Nat.gcd_comm b (a % b), ← Nat.gcd_rec b a, Nat.gcd_comm]
     have HGG := Lib.hid hgg
     clear hgg hr HG
     go_wp2_with fail
     all_goals first | omega | skip
     go_quiet (fail)
     go_wp2_with fail
     go_roundw
     case rel => exact ⟨b, r, by go_num, by go_num, by omega, by omega, HGG, by first | exact hbl | exact hbl.drew | exact mi hbl _⟩
     case measure => simp [intOf] <;> omega
 ·
  have hok : decide (Wd.oo n d) = false := decide_eq_false (by
   unfold Wd.oo
   rintro ⟨a1, a2, a3, a4, _⟩
   exact hr ⟨by omega, by omega, by omega, by omega⟩)
  rw [hok]
  clear hok hba
  go_enter Tryz.func70, Tryz.ntmps70
  go_wp2_with fail
  all_goals first | omega | skip
  all_goals
   go_ret
   exact ⟨rfl, aa HB⟩



def Dm (w : World) (b : Nat) (z : Int) : Prop := ∃ A cap l m, w.heap[b]? = some (.cells #[.slice A (List.length l) cap, .bool m] 66 (0, 0)) ∧ iq w A cap l m z
theorem Dm.below {w w' : World} {b : Nat} {z : Int} (h : Dm w b z) (hb : Below w.heap.size w w') : Dm w' b z := by
 obtain ⟨A, cap, l, m, h1, h2⟩ := h
 exact ⟨A, cap, l, m, (hb.block _ (lt_of_block h1)).trans h1, h2.below hb⟩
theorem Dm.lt {w : World} {b : Nat} {z : Int} (h : Dm w b z) : b < w.heap.size := by
 obtain ⟨A, cap, l, m, h1, _⟩ := h; exact lt_of_block h1
theorem Dm.put {w : World} {b : Nat} {z0 z : Int} {A : Option Addr} {cap : Nat} {l : List Nat} {m : Bool} (h : Dm w b z0) (hf : iq w A cap l m z) :
  Dm ((w.setCell ⟨b, 0, none⟩ (.slice A l.length cap)).setCell ⟨b, 1, none⟩ (.bool m)) b z := by
 obtain ⟨A0, c0, l0, m0, h1, _⟩ := h
 exact ⟨A, cap, l, m, Qi h1, hf.upto h1 (Kb _ _ _ _) (mh _ _ _ _)⟩
theorem Dm.other {w : World} {b b' : Nat} {z z' : Int} (u0 u1 : Value) (h : Dm w b z) (hb : Dm w b' z') (hne : b ≠ b') : Dm ((w.setCell ⟨b', 0, none⟩ u0).setCell ⟨b', 1, none⟩ u1) b z := by
 obtain ⟨A, cap, l, m, h1, h2⟩ := h
 obtain ⟨A0, c0, l0, m0, h3, _⟩ := hb
 have hg := mh w b' u0 u1
 exact ⟨A, cap, l, m, (hg.block b (lt_of_block h1) (fun e => hne (by injection e))).trans h1, h2.upto h3 (Kb _ _ _ _) hg⟩
theorem iq.put {w : World} {b : Nat} {z z' : Int} {A : Option Addr} {cap : Nat} {l : List Nat} {m : Bool} (u0 u1 : Value) (hf : iq w A cap l m z) (hb : Dm w b z') : iq ((w.setCell ⟨b, 0, none⟩ u0).setCell ⟨b, 1, none⟩ u1) A cap l m z := by
 obtain ⟨A0, c0, l0, m0, h1, _⟩ := hb
 exact hf.upto h1 (Kb _ _ _ _) (mh _ _ _ _)

structure Ui (w W : World) (n d : Int) : Prop where
 bn : Dm W w.heap.size n
 bd : Dm W (w.heap.size + 1) d
 bq : W.heap[w.heap.size + 1 + 1]? = some (.cells #[.slice none 0 0, .bool false, .slice none 0 0, .bool false] 68 (0, 0))
 hb : Below w.heap.size w W
theorem Ui.below {w W W' : World} {n d : Int} (h : Ui w W n d) (hb : Below W.heap.size W W') : Ui w W' n d :=
 ⟨h.bn.below hb, h.bd.below hb, (hb.block _ (lt_of_block h.bq)).trans h.bq, bg h.hb hb⟩
theorem Ui.put {w W : World} {n d n' d' : Int} {A1 : Option Addr} {c1 : Nat} {l1 : List Nat} {m1 : Bool} {A2 : Option Addr} {c2 : Nat} {l2 : List Nat} {m2 : Bool} (h : Ui w W n d) (h1 : iq W A1 c1 l1 m1 n') (h2 : iq W A2 c2 l2 m2 d') :
  Ui w ((((W.setCell ⟨w.heap.size, 0, none⟩ (.slice A1 l1.length c1)).setCell ⟨w.heap.size, 1, none⟩ (.bool m1)).setCell ⟨w.heap.size + 1, 0, none⟩ (.slice A2 l2.length c2)).setCell ⟨w.heap.size + 1, 1, none⟩ (.bool m2)) n' d' := by
 have a1 := h.bn.put h1
 have a2 := h.bd.other (.slice A1 l1.length c1) (.bool m1) h.bn om
 have a3 := h2.put (.slice A1 l1.length c1) (.bool m1) h.bn
 have g1 := mh W w.heap.size (.slice A1 l1.length c1) (.bool m1)
 generalize ((W.setCell ⟨w.heap.size, 0, none⟩ (.slice A1 l1.length c1)).setCell ⟨w.heap.size, 1, none⟩ (.bool m1)) = W1 at *
 have b1 := a2.put a3
 have b2 := a1.other (.slice A2 l2.length c2) (.bool m2) a2 om
 have g2 := mh W1 (w.heap.size + 1) (.slice A2 l2.length c2) (.bool m2)
 have q1 := (g1.block _ (lt_of_block h.bq) (fun e => by injection e with e; omega)).trans h.bq
 exact ⟨b2, b1, (g2.block _ (lt_of_block q1) (fun e => by injection e with e; omega)).trans q1,
  (h.hb.grown g1 h.hb.size (fun k hk => by injection hk with hk; omega)).grown g2 (by have := g1.size; have := h.hb.size; omega) (fun k hk => by injection hk with hk; omega)⟩

theorem Ui.keep {w W : World} {n d : Int} (u0 u1 u2 u3 : Value) {A : Option Addr} {cap : Nat} {l : List Nat} {m : Bool} {z : Int} (h : Ui w W n d) (x : iq W A cap l m z) :
  iq ((((W.setCell ⟨w.heap.size, 0, none⟩ u0).setCell ⟨w.heap.size, 1, none⟩ u1).setCell ⟨w.heap.size + 1, 0, none⟩ u2).setCell ⟨w.heap.size + 1, 1, none⟩ u3) A cap l m z :=
 (x.put u0 u1 h.bn).put u2 u3 (h.bd.other u0 u1 h.bn om)

def QR (w : World) (q : Rat) (e : Ending) (w' : World) : Prop := ∃ A1 c1 l1 m1 A2 c2 l2 m2, e = .returned (.agg #[.slice A1 (List.length l1) c1, .bool m1, .slice A2 (List.length l2) c2, .bool m2]) ∧ iq w' A1 c1 l1 m1 q.num ∧ iq w' A2 c2 l2 m2 (q.den : Int) ∧ Below w.heap.size w w'

theorem amu (n d : Int) (hd : 0 < d) : (Rat.divInt n d).num = (if decide (n < 0) = true then -((n.natAbs / (n.natAbs.gcd d.natAbs) : Nat) : Int) else ((n.natAbs / (n.natAbs.gcd d.natAbs) : Nat) : Int)) ∧ ((Rat.divInt n d).den : Int) = ((d.natAbs / (n.natAbs.gcd d.natAbs) : Nat) : Int) := by
 obtain ⟨h1, h2⟩ := Wd.Io n d om
 rw [Int.sign_eq_one_of_pos hd, Int.one_mul] at h1 h2
 rw [h1, h2]
 generalize n.natAbs.gcd d.natAbs = g
 constructor
 ·
  by_cases hn : n < 0
  ·
   rw [if_pos (decide_eq_true hn)]
   obtain ⟨k, hk⟩ : ∃ k : Nat, n = -(k : Int) := ⟨n.natAbs, by omega⟩
   subst hk
   rw [Int.neg_tdiv, Int.natAbs_neg, Int.natAbs_natCast, Int.ofNat_tdiv]
  ·
   rw [if_neg (by simpa using hn)]
   obtain ⟨k, hk⟩ : ∃ k : Nat, n = (k : Int) := ⟨n.natAbs, by omega⟩
   subst hk
   rw [Int.natAbs_natCast, Int.ofNat_tdiv]
 ·
  obtain ⟨k, hk⟩ : ∃ k : Nat, d = (k : Int) := ⟨d.natAbs, by omega⟩
  subst hk
  rw [Int.natAbs_natCast, Int.ofNat_tdiv]
theorem acs (n d : Int) (hd : d ≠ 0) : Rat.divInt (-n) (-d) = Rat.divInt n d := by
 rw [Rat.divInt_eq_divInt_iff om hd, Int.neg_mul, Int.mul_neg]

structure QV (w : World) (A1 : Option Addr) (c1 : Nat) (l1 : List Nat) (m1 : Bool) (A2 : Option Addr) (c2 : Nat) (l2 : List Nat) (m2 : Bool) (q : Rat) : Prop where
 num : iq w A1 c1 l1 m1 q.num
 den : ∃ d : Int, iq w A2 c2 l2 m2 d ∧ (d = (q.den : Int) ∨ (d = 0 ∧ q.den = 1))
theorem QV.below {w w' : World} {A1 : Option Addr} {c1 : Nat} {l1 : List Nat} {m1 : Bool} {A2 : Option Addr} {c2 : Nat} {l2 : List Nat} {m2 : Bool} {q : Rat} (h : QV w A1 c1 l1 m1 A2 c2 l2 m2 q) (hb : Below w.heap.size w w') : QV w' A1 c1 l1 m1 A2 c2 l2 m2 q := by
 obtain ⟨d, h2, h3⟩ := h.den
 exact ⟨h.num.below hb, d, h2.below hb, h3⟩
theorem QV.of {w : World} {A1 : Option Addr} {c1 : Nat} {l1 : List Nat} {m1 : Bool} {A2 : Option Addr} {c2 : Nat} {l2 : List Nat} {m2 : Bool} {q : Rat} (h1 : iq w A1 c1 l1 m1 q.num) (h2 : iq w A2 c2 l2 m2 (q.den : Int)) : QV w A1 c1 l1 m1 A2 c2 l2 m2 q :=
 ⟨h1, _, h2, .inl rfl⟩
theorem iq.len {w : World} {A : Option Addr} {cap : Nat} {l : List Nat} {m : Bool} {z : Int} {K : Nat} (h : iq w A cap l m z) (hz : z.natAbs < ek ^ K) : l.length ≤ K := h.nat.len hz

theorem Wu (w : World) :
  Calls Tryz.prog 142 #[] w fun e w' => Gu w 1 e w' := by
 go_enter Tryz.func142, Tryz.ntmps142
 go_wp2_with fail
 obtain ⟨n0, n1, hsz, hw0⟩ := qw w (.cells #[.slice (some ⟨w.heap.size + 1, 0, none⟩) 1 1, .bool false] 66) (.cells #[.int .u32 1] 187)
 generalize ((w.alloc (.cells #[.slice (some ⟨w.heap.size + 1, 0, none⟩) 1 1, .bool false] 66)).alloc (.cells #[.int .u32 1] 187)) = W0 at *
 have hz : ZB .u32 W0 (w.heap.size + 1) 187 [1] := n1
 have hn : qj W0 (some ⟨w.heap.size + 1, 0, none⟩) 1 [1] 1 := ⟨hz.Dp _ hz.lt, by simp, by omega, by intro x hx; rw [List.mem_singleton] at hx; subst hx; exact Cm, .inr (by simp), by simp [Wd.val]⟩
 have k0 : W0.cell? ⟨w.heap.size, 0, none⟩ = some (.slice (some ⟨w.heap.size + 1, 0, none⟩) 1 1) := ag n0 0
 have k1 : W0.cell? ⟨w.heap.size, 1, none⟩ = some (.bool false) := ag n0 1
 exact bodyPost_ret (v := .agg #[.slice (some ⟨w.heap.size + 1, 0, none⟩) 1 1, .bool false]) (by simp [results, Tryz.results142, go_sem, k0, k1]) rfl
  ⟨_, 1, [1], false, rfl, ⟨hn, rfl⟩, hw0⟩

theorem adr (A1 : Option Addr) (c1 : Nat) (l1 : List Nat) (m1 : Bool) (A2 : Option Addr) (c2 : Nat) (l2 : List Nat) (m2 : Bool) (w : World) (h2 : iq w A2 c2 l2 m2 0) :
  Calls Tryz.prog 130 #[.agg #[.slice A1 l1.length c1, .bool m1, .slice A2 l2.length c2, .bool m2]] w fun e w' => Gu w 1 e w' := by
 have hl : l2.length = 0 := h2.nat.Md.1 rfl
 have HI := hide (fun W => Wv A2 c2 l2.length m2 W)
 rw [decide_eq_true hl] at HI
 have HO := hide Wu
 clear h2 hl
 go_enter Tryz.func130, Tryz.ntmps130
 go_wp2_with fail
 obtain ⟨n0, n1, hsz, hw0⟩ := qw w (.cells #[.slice A1 l1.length c1, .bool m1, .slice A2 l2.length c2, .bool m2] 68) (.cells #[.slice none 0 0, .bool false] 66)
 generalize ((w.alloc (.cells #[.slice A1 l1.length c1, .bool m1, .slice A2 l2.length c2, .bool m2] 68)).alloc (.cells #[.slice none 0 0, .bool false] 66)) = W0 at *
 have q1 : w.heap.size + 1 < W0.heap.size := by omega
 have r0 : W0.cell? ⟨w.heap.size + 1, 0, none⟩ = some (.slice none 0 0) := ag n1 0
 have r1 : W0.cell? ⟨w.heap.size + 1, 1, none⟩ = some (.bool false) := ag n1 1
 have f0 := ai n1 0
 have f1 := ai n1 1
 have NR := Lib.hid n1
 clear n0 n1 hsz
 refine ((aa HI) _).mono ?_
 rintro e W1 ⟨rfl, hb⟩
 have HB := hide hb
 clear hb
 go_wp2_with fail
 refine ((aa HO) _).mono ?_
 rintro e w' ⟨A5, c5, l5, m5, rfl, xg, hb2⟩
 have hb := bg (aa HB) hb2
 obtain ⟨hc, hfz⟩ := dz hb
 have hblk : w'.heap[w.heap.size + 1]? = some (.cells #[.slice none 0 0, .bool false] 66 (0, 0)) := (hb.block _ q1).trans NR.out
 have jy := Lib.hid hblk
 have jh : Below w.heap.size w w' := bg hw0 hb
 clear hblk hb2
 go_wp2_with fail
 exact bodyPost_ret (v := .agg #[.slice A5 l5.length c5, .bool m5]) (by simp [results, Tryz.results130, go_sem, hc, r0, r1, q1]) rfl
  ⟨A5, c5, l5, m5, rfl, xg.upto jy.out (Kb _ _ _ _) (mh _ _ _ _), jh.grown (mh _ _ _ _) jh.size (fun k hk => by injection hk with hk; omega)⟩

theorem Sy (A1 : Option Addr) (c1 : Nat) (l1 : List Nat) (m1 : Bool) (A2 : Option Addr) (c2 : Nat) (l2 : List Nat) (m2 : Bool) (q : Rat) (w : World) (h : QV w A1 c1 l1 m1 A2 c2 l2 m2 q) :
  Calls Tryz.prog 130 #[.agg #[.slice A1 l1.length c1, .bool m1, .slice A2 l2.length c2, .bool m2]] w fun e w' => Gu w (q.den : Int) e w' := by
 obtain ⟨d, h2, rfl | ⟨rfl, h1⟩⟩ := h.den
 ·
  refine (asr A1 c1 l1 m1 A2 c2 l2 m2 _ w h2 (by have := q.den_nz; omega)).mono ?_
  rintro e w' ⟨rfl, hb⟩
  exact ⟨A2, c2, l2, m2, rfl, h2.below hb, hb⟩
 ·
  rw [h1]
  exact adr A1 c1 l1 m1 A2 c2 l2 m2 w h2

namespace Wd
structure Jm (B : Nat) (xl yl l : List Nat) (i c : Nat) : Prop where
 len : l.length = i
 lt : ∀ x ∈ l, x < B
 c1 : c ≤ 1
 eq : Wd.val B l + B ^ i * c = Wd.val B (xl.take i) + Wd.val B (yl.take i)
theorem Jm.start (B : Nat) (xl yl : List Nat) : Jm B xl yl [] 0 0 := ⟨rfl, by simp, by omega, by simp [val]⟩
theorem aez {B : Nat} {l : List Nat} {d : Nat} (h : ∀ x ∈ l, x < B) (hd : d < B) : ∀ x ∈ l ++ [d], x < B := by
 intro t ht
 rw [List.mem_append] at ht
 rcases ht with h1 | h1
 ·
  exact h t h1
 ·
  rw [List.mem_singleton] at h1; subst h1; exact hd
theorem Jm.step {B : Nat} {xl yl l : List Nat} {i c x y s : Nat} (hB : 1 < B) (h : Jm B xl yl l i c) (hx : x = xl.getD i 0) (zf : x < B) (hy : y = yl.getD i 0) (Fj : y < B) (hs : s = c + x + y) :
  Jm B xl yl (l ++ [s % B]) (i + 1) (s / B) := by
 have hc := h.c1
 refine ⟨by simp [h.len], aez h.lt (Nat.mod_lt _ om), ?_, ?_⟩
 ·
  exact Nat.lt_succ_iff.1 ((Nat.div_lt_iff_lt_mul om).2 om)
 ·
  rw [zg, h.len, Nat.pow_succ, lu, lu, ← hx, ← hy]
  have e := Nat.mod_add_div s B
  have h1 := h.eq
  have e2 : B ^ i * (s % B) + B ^ i * B * (s / B) = B ^ i * c + B ^ i * x + B ^ i * y := by
   rw [Nat.mul_assoc, ← Nat.mul_add, e, hs, Nat.mul_add, Nat.mul_add]
  omega
theorem Jm.done {B : Nat} {xl yl l : List Nat} {i c : Nat} (h : Jm B xl yl l i c) (hx : xl.length ≤ i) (hy : yl.length ≤ i) : Wd.val B (l ++ [c]) = Wd.val B xl + Wd.val B yl := by
 have h1 := h.eq
 rw [iw _ _ _ hx, iw _ _ _ hy] at h1
 rw [zg, h.len, h1]
structure Jn (B : Nat) (xl yl l : List Nat) (i b : Nat) : Prop where
 len : l.length = i
 lt : ∀ x ∈ l, x < B
 b1 : b ≤ 1
 eq : Wd.val B l + Wd.val B (yl.take i) = Wd.val B (xl.take i) + B ^ i * b
theorem Jn.start (B : Nat) (xl yl : List Nat) : Jn B xl yl [] 0 0 := ⟨rfl, by simp, by omega, by simp [val]⟩
theorem Jn.step {B : Nat} {xl yl l : List Nat} {i b x y d b' : Nat} (h : Jn B xl yl l i b) (hx : x = xl.getD i 0) (hy : y = yl.getD i 0) (hd : d < B) (hb : b' ≤ 1) (hs : d + y + b = x + B * b') :
  Jn B xl yl (l ++ [d]) (i + 1) b' := by
 refine ⟨by simp [h.len], aez h.lt hd, hb, ?_⟩
 rw [zg, h.len, Nat.pow_succ, lu, lu, ← hx, ← hy]
 have h1 := h.eq
 have e2 : B ^ i * d + B ^ i * y + B ^ i * b = B ^ i * x + B ^ i * B * b' := by
  rw [← Nat.mul_add, ← Nat.mul_add, hs, Nat.mul_add, Nat.mul_assoc]
 omega
theorem Jn.done {B : Nat} {xl yl l : List Nat} {i b : Nat} (h : Jn B xl yl l i b) (hx : xl.length = i) (hy : yl.length ≤ i) (hle : Wd.val B yl ≤ Wd.val B xl) : Wd.val B l = Wd.val B xl - Wd.val B yl := by
 have h1 := h.eq
 rw [iw B xl i om, iw B yl i hy] at h1
 have h2 := Ae l h.lt
 rw [h.len] at h2
 have hb := h.b1
 rcases (show b = 0 ∨ b = 1 by omega) with rfl | rfl
 ·
  omega
 ·
  rw [Nat.mul_one] at h1; omega
end Wd





structure Pv (Wp W : World) (b : Nat) : Prop where
 old : Wp.heap.size ≤ b
 zero : W.heap[b]? = some (.cells #[.slice none 0 0, .bool false] 66 (0, 0))
theorem Pv.lt {Wp W : World} {b : Nat} (h : Pv Wp W b) : b < W.heap.size := lt_of_block h.zero
theorem Pv.drew {Wp W : World} {b : Nat} (h : Pv Wp W b) : Pv Wp W.drew b := ⟨h.old, h.zero⟩
theorem Pv.below {Wp W w' : World} {b : Nat} (h : Pv Wp W b) (hb : Below W.heap.size W w') : Pv Wp w' b := ⟨h.old, (hb.block _ h.lt).trans h.zero⟩
theorem Pv.new {Wp W : World} {b : Nat} (hb : Below Wp.heap.size Wp W) (e : b = W.heap.size) : Pv Wp (W.alloc (.cells #[.slice none 0 0, .bool false] 66 (0, 0))) b := by
 subst e; exact ⟨hb.size, heap_alloc_new W _⟩
theorem Pv.alloc {Wp W : World} {b : Nat} {o : Obj} (h : Pv Wp W b) : Pv Wp (W.alloc o) b := ⟨h.old, (Below.heap_alloc W _ b h.lt).trans h.zero⟩
theorem Dm.new {W : World} {b : Nat} {A1 : Option Addr} {c1 : Nat} {l1 : List Nat} {m1 : Bool} {z1 : Int} (h1 : iq W A1 c1 l1 m1 z1) (e : b = W.heap.size) : Dm (W.alloc (.cells #[.slice A1 l1.length c1, .bool m1] 66)) b z1 := by
 subst e; exact ⟨A1, c1, l1, m1, heap_alloc_new W _, h1.below ((Below.refl _ _).alloc (Nat.le_refl _) _)⟩
theorem Dm.alloc {W : World} {b : Nat} {z : Int} {o : Obj} (h : Dm W b z) : Dm (W.alloc o) b z := h.below ((Below.refl _ _).alloc (Nat.le_refl _) _)
theorem iq.alloc {W : World} {o : Obj} {A1 : Option Addr} {c1 : Nat} {l1 : List Nat} {m1 : Bool} {z1 : Int} (h1 : iq W A1 c1 l1 m1 z1) : iq (W.alloc o) A1 c1 l1 m1 z1 := h1.below ((Below.refl _ _).alloc (Nat.le_refl _) _)
def bgl (w : World) (F : Nat) (a b c : Int) : Prop := ∀ (A1 : Option Addr) (c1 : Nat) (l1 : List Nat) (m1 : Bool) (A2 : Option Addr) (c2 : Nat) (l2 : List Nat) (m2 : Bool) (W : World), Below w.heap.size w W → iq W A1 c1 l1 m1 a → iq W A2 c2 l2 m2 b → Calls Tryz.prog F #[(Value.agg #[.slice A1 l1.length c1, .bool m1]), (Value.agg #[.slice A2 l2.length c2, .bool m2])] W fun e w' => Gu W c e w'
def bgm (w : World) (F : Nat) (a b : Int) (q : Rat) : Prop := ∀ (A1 : Option Addr) (c1 : Nat) (l1 : List Nat) (m1 : Bool) (A2 : Option Addr) (c2 : Nat) (l2 : List Nat) (m2 : Bool) (W : World), Below w.heap.size w W → iq W A1 c1 l1 m1 a → iq W A2 c2 l2 m2 b → Calls Tryz.prog F #[(Value.agg #[.slice A1 l1.length c1, .bool m1]), (Value.agg #[.slice A2 l2.length c2, .bool m2])] W fun e w' => QR W q e w'
theorem Oa {w : World} {g : Nat} (u0 u1 u2 u3 : Value) (b o : Nat) (h : b ≠ g) : ((((w.setCell ⟨g, 0, none⟩ u0).setCell ⟨g, 1, none⟩ u1).setCell ⟨g, 2, none⟩ u2).setCell ⟨g, 3, none⟩ u3).cell? ⟨b, o, none⟩ = w.cell? ⟨b, o, none⟩ := by
 rw [zz _ _ _ _ h, zz _ _ _ _ h, zz _ _ _ _ h, zz _ _ _ _ h]


theorem Yb (A1 : Option Addr) (c1 : Nat) (l1 : List Nat) (m1 : Bool) (n : Int) (A2 : Option Addr) (c2 : Nat) (l2 : List Nat) (m2 : Bool) (d : Int) (K : Nat) (w : World) (h1 : iq w A1 c1 l1 m1 n) (h2 : iq w A2 c2 l2 m2 d) (hd : d ≠ 0) (hn : n.natAbs < ek ^ K) (hdK : d.natAbs < ek ^ K) (hK : K + 1 ≤ 35184372088832) :
  Calls Tryz.prog 128 #[.agg #[.slice A1 l1.length c1, .bool m1], .agg #[.slice A2 l2.length c2, .bool m2]] w fun e w' => QR w (Rat.divInt n d) e w' := by
 have hl : ¬ l2.length = 0 := fun e => by have := h2.nat.Md.2 e; omega
 have HI := hide (fun W => Wv A2 c2 l2.length m2 W)
 rw [decide_eq_false hl] at HI
 obtain ⟨n', d', q, hq, hq2, hd', hn', bew, hneg⟩ : ∃ (n' d' : Int) (q : Rat), q = Rat.divInt n d ∧ q = Rat.divInt n' d' ∧ 0 < d' ∧ n'.natAbs < ek ^ K ∧ d'.natAbs < ek ^ K ∧ ((m2 = true ∧ n' = -n ∧ d' = -d) ∨ (m2 = false ∧ n' = n ∧ d' = d)) := by
  by_cases h : d < 0
  ·
   exact ⟨-n, -d, _, rfl, (acs n d hd).symm, by omega, by rw [Int.natAbs_neg]; exact hn, by rw [Int.natAbs_neg]; exact hdK, .inl ⟨by rw [h2.sign]; exact decide_eq_true h, rfl, rfl⟩⟩
  ·
   exact ⟨n, d, _, rfl, rfl, by omega, hn, hdK, .inr ⟨by rw [h2.sign]; exact decide_eq_false h, rfl, rfl⟩⟩
 rw [← hq]
 have HQ2 := Lib.hid hq2
 have HDP := hide hd'; have HNK := hide hn'; have HDK := hide bew; have anh := hide hneg; have HK := hide hK
 have H1 := hide h1; have H2 := hide h2
 have HN1 := hide (fun W (hW : Below w.heap.size w W) => adp A1 c1 l1 m1 n W (h1.below hW))
 have HN2 := hide (fun W (hW : Below w.heap.size w W) => adp A2 c2 l2 m2 d W (h2.below hW))
 clear h1 h2 hd hn hdK hl hq hq2 hd' hn' bew hneg hK
 go_enter Tryz.func128, Tryz.ntmps128
 go_wp2_with fail
 obtain ⟨n0, n1, n2, hsz, hw0⟩ := oh w (.cells #[.slice A1 l1.length c1, .bool m1] 66) (.cells #[.slice A2 l2.length c2, .bool m2] 66) (.cells #[.slice none 0 0, .bool false, .slice none 0 0, .bool false] 68)
 generalize (((w.alloc (.cells #[.slice A1 l1.length c1, .bool m1] 66)).alloc (.cells #[.slice A2 l2.length c2, .bool m2] 66)).alloc (.cells #[.slice none 0 0, .bool false, .slice none 0 0, .bool false] 68)) = W0 at *
 have hS0 : Ui w W0 n d := ⟨⟨_, _, _, _, n0, (aa H1).below hw0⟩, ⟨_, _, _, _, n1, (aa H2).below hw0⟩, n2, hw0⟩
 refine ((aa HI) _).mono ?_
 rintro e W1 ⟨rfl, hb⟩
 have hS1 := hS0.below hb
 have j0 := (hb.block _ (lt_of_block n0)).trans n0
 have j1 := (hb.block _ (lt_of_block n1)).trans n1
 have hw1 := bg hw0 hb
 clear hS0 hb n0 n1 n2 hw0 hsz HI
 have k0 : W1.cell? ⟨w.heap.size, 0, none⟩ = some (.slice A1 l1.length c1) := ag j0 0
 have k1 : W1.cell? ⟨w.heap.size, 1, none⟩ = some (.bool m1) := ag j0 1
 have k2 : W1.cell? ⟨w.heap.size + 1, 0, none⟩ = some (.slice A2 l2.length c2) := ag j1 0
 have k3 : W1.cell? ⟨w.heap.size + 1, 1, none⟩ = some (.bool m2) := ag j1 1
 have HS := hide hS1; have J := hide (And.intro j0 j1); have HW1 := Lib.hid hw1
 clear hS1 hw1 j0 j1
 go_upto_if 14 with (fail)
 go_cut [] (fun wx => Ui w wx n' d')
 case first =>
  rcases aa anh with ⟨e1, e2, e3⟩ | ⟨e1, e2, e3⟩
  ·
   subst e1 e2 e3
   have q0 : w.heap.size < W1.heap.size := lt_of_block (aa J).1
   have q1 : w.heap.size + 1 < W1.heap.size := lt_of_block (aa J).2
   have KEEP : ∀ X, Below W1.heap.size W1 X → (fun w' => w'.cell? ⟨w.heap.size, 0, none⟩ = some (.slice A1 l1.length c1) ∧ w'.cell? ⟨w.heap.size, 1, none⟩ = some (.bool m1) ∧ w'.cell? ⟨w.heap.size + 1, 0, none⟩ = some (.slice A2 l2.length c2) ∧ w'.cell? ⟨w.heap.size + 1, 1, none⟩ = some (.bool true)) X := fun X hX => ⟨(hX.cell (p := ⟨w.heap.size, 0, none⟩) q0).trans k0, (hX.cell (p := ⟨w.heap.size, 1, none⟩) q0).trans k1, (hX.cell (p := ⟨w.heap.size + 1, 0, none⟩) q1).trans k2, (hX.cell (p := ⟨w.heap.size + 1, 1, none⟩) q1).trans k3⟩
   have HKE := hide KEEP
   have f0 := ai (aa J).1 0
   have f1 := ai (aa J).1 1
   have f2 := ai (aa J).2 0
   have f3 := ai (aa J).2 1
   clear anh KEEP
   go_wp2_with fail
   go_region_with (first | (go_at_call_of 176 (Value.agg #[.slice A1 l1.length c1, .bool m1]); refine ((aa HN1) _ (bg HW1.out (by (first | with_reducible assumption | (repeat (first | with_reducible exact Below.refl _ _ | with_reducible assumption | refine Below.drew ?_ | (refine Below.alloc ?_ (by simp <;> omega) _))))))).mono ?_; rintro e w' ⟨A5, c5, l5, m5, rfl, beu, hb⟩; (try (first | replace xg := iq.below xg hb | replace xg := (iq.below xg (Below.drew (Below.refl _ _))).below hb)); (try (first | replace Ei := iq.below Ei hb | replace Ei := (iq.below Ei (Below.drew (Below.refl _ _))).below hb)); have xg := beu; clear beu; have hbw := bz (w := W1) (by (first | with_reducible assumption | (repeat (first | with_reducible exact Below.refl _ _ | with_reducible assumption | refine Below.drew ?_ | (refine Below.alloc ?_ (by simp <;> omega) _))))) hb; obtain ⟨hc, hfz⟩ := dz hbw) | (go_at_call_of 176 (Value.agg #[.slice A2 l2.length c2, .bool true]); refine ((aa HN2) _ (bg HW1.out (by (first | with_reducible assumption | (repeat (first | with_reducible exact Below.refl _ _ | with_reducible assumption | refine Below.drew ?_ | (refine Below.alloc ?_ (by simp <;> omega) _))))))).mono ?_; rintro e w' ⟨A6, c6, l6, m6, rfl, bet, hb⟩; (try (first | replace xg := iq.below xg hb | replace xg := (iq.below xg (Below.drew (Below.refl _ _))).below hb)); (try (first | replace Ei := iq.below Ei hb | replace Ei := (iq.below Ei (Below.drew (Below.refl _ _))).below hb)); have Ei := bet; clear bet; have hbw := bz (w := W1) (by (first | with_reducible assumption | (repeat (first | with_reducible exact Below.refl _ _ | with_reducible assumption | refine Below.drew ?_ | (refine Below.alloc ?_ (by simp <;> omega) _))))) hb; obtain ⟨hc, hfz⟩ := dz hbw))
   all_goals
    go_wp2_with fail
    go_meet
    case rel =>
     have HS9 := (aa HS).below hbw
     exact HS9.put xg Ei
  ·
   subst e1 e2 e3
   clear anh
   go_wp2_with fail
   go_meet
   case rel => exact aa HS
 case rest =>
  clear anh k0 k1 k2 k3 HS J HW1 HN1 HN2 H1 H2
  obtain ⟨⟨A3, c3, l3, m3, kn, fn⟩, ⟨A4, c4, l4, m4, kd, fd⟩, kq, hb⟩ := hcut
  have w0 : wc.cell? ⟨w.heap.size, 0, none⟩ = some (.slice A3 l3.length c3) := ag kn 0
  have w1 : wc.cell? ⟨w.heap.size, 1, none⟩ = some (.bool m3) := ag kn 1
  have w2 : wc.cell? ⟨w.heap.size + 1, 0, none⟩ = some (.slice A4 l4.length c4) := ag kd 0
  have w3 : wc.cell? ⟨w.heap.size + 1, 1, none⟩ = some (.bool m4) := ag kd 1
  have p0 : wc.cell? ⟨w.heap.size + 1 + 1, 0, none⟩ = some (.slice none 0 0) := ag kq 0
  have p1 : wc.cell? ⟨w.heap.size + 1 + 1, 1, none⟩ = some (.bool false) := ag kq 1
  have p2 : wc.cell? ⟨w.heap.size + 1 + 1, 2, none⟩ = some (.slice none 0 0) := ag kq 2
  have p3 : wc.cell? ⟨w.heap.size + 1 + 1, 3, none⟩ = some (.bool false) := ag kq 3
  have u0 := ai kn 0; have u1 := ai kn 1; have u2 := ai kd 0; have u3 := ai kd 1
  have v0 := ai kq 0; have v1 := ai kq 1; have v2 := ai kq 2; have v3 := ai kq 3
  have q0 := lt_of_block kn; have q1 := lt_of_block kd; have q2 := lt_of_block kq
  have hSW : Ui w wc n' d' := ⟨⟨A3, c3, l3, m3, kn, fn⟩, ⟨A4, c4, l4, m4, kd, fd⟩, kq, hb⟩
  have ho := Yc A4 c4 l4 m4 d' wc fd
  have FN := hide fn; have FD := hide fd; have KQ := Lib.hid kq; have HB := hide hb; have HSW := hide hSW
  obtain ⟨amh, hden⟩ := amu n' d' (aa HDP)
  rw [← HQ2.out] at amh hden
  obtain ⟨g, hg⟩ : ∃ g, g = n'.natAbs.gcd d'.natAbs := ⟨_, rfl⟩
  rw [← hg] at amh hden
  have ang := Lib.hid amh.symm; have ani := Lib.hid hden.symm; have HGG := Lib.hid hg
  clear kn kd kq fn fd hb hSW amh hden
  by_cases hd1 : d' = 1
  ·
   rw [decide_eq_true hd1] at ho
   have HO := hide ho
   have hg1 : g = 1 := by rw [hg, hd1]; simp
   have e1 : q.num = n' := by
    rw [← ang.out, hg1, Nat.div_one]
    by_cases h : n' < 0
    ·
     rw [if_pos (decide_eq_true h)]; omega
    ·
     rw [if_neg (by simpa using h)]; omega
   have e2 : (q.den : Int) = d' := by
    rw [← ani.out, hg1, Nat.div_one]; have := aa HDP; omega
   have E := hide (And.intro e1 e2)
   clear ho hg hg1 hd1 e1 e2
   go_wp2_with fail
   refine (aa HO).mono ?_
   rintro e W2 ⟨rfl, hb2⟩
   obtain ⟨hc, hfz⟩ := dz hb2
   have hblk := (hb2.block _ q2).trans KQ.out
   have jy := Lib.hid hblk; have HB2 := hide hb2
   clear hblk hb2
   go_wp2_with fail
   exact bodyPost_ret (v := .agg #[.slice A3 l3.length c3, .bool m3, .slice A4 l4.length c4, .bool m4]) (by simp [results, Tryz.results128, go_sem, hc, p0, p1, p2, p3, q2]) rfl
    ⟨A3, c3, l3, m3, A4, c4, l4, m4, rfl, by rw [(aa E).1]; exact ((aa FN).below (aa HB2)).upto jy.out (Bb _ _ _ _ _ _ _ _) (ou _ _ _ _ _ _), by rw [(aa E).2]; exact ((aa FD).below (aa HB2)).upto jy.out (Bb _ _ _ _ _ _ _ _) (ou _ _ _ _ _ _), (bg (aa HB) (aa HB2)).grown (ou _ _ _ _ _ _) (bg (aa HB) (aa HB2)).size (fun k hk => by injection hk with hk; omega)⟩
  ·
   rw [decide_eq_false hd1] at ho
   have hdv := fun W (hW : Below wc.heap.size wc W) => aim A3 A4 c3 c4 l3 l4 n'.natAbs d'.natAbs K W ((aa FN).nat.below hW) ((aa FD).nat.below hW) (aa HNK) (aa HDK) (aa HK)
   rw [← hg] at hdv
   have HO := hide ho; have HDV := hide hdv
   have hg0 : 0 < g := by rw [hg]; exact Nat.gcd_pos_of_pos_right _ (by have := aa HDP; omega)
   have hgl : g ≤ d'.natAbs := by rw [hg]; exact Nat.gcd_le_right _ (by have := aa HDP; omega)
   have HG0 := hide hg0; have HGL := hide hgl
   have hln := (aa FN).nat.len (aa HNK); have hld := (aa FD).nat.len (aa HDK)
   have HLN := hide hln; have HLD := hide hld
   clear ho hdv hg hg0 hgl hd1 hln hld
   go_wp2_with fail
   refine (aa HO).mono ?_
   rintro e W2 ⟨rfl, hb2⟩
   obtain ⟨hc2, hf2⟩ := dz hb2
   have HB2 := hide hb2
   clear hb2
   go_wp2_with fail
   refine ((aa HDV) _ (aa HB2)).mono ?_
   rintro e W3 ⟨A5, c5, l5, rfl, h5, hb3⟩
   have aao := bg (aa HB2) hb3
   replace hb3 := aao
   obtain ⟨hc3, hf3⟩ := dz hb3
   have hlg := h5.len (Nat.lt_of_le_of_lt (aa HGL) (aa HDK))
   have H5 := hide h5; have HLG := hide hlg; have HB3 := hide hb3
   clear hc2 hf2 aao hlg HDV HO HB2
   by_cases hl5 : l5.length = 1
   ·
    obtain ⟨b5, o5, rfl, hb5, hc5⟩ := h5.ws om
    have hcell := hc5 0 om
    rw [Nat.add_zero, show Wd.g l5 0 = g by rw [Qs ek l5 hl5]; exact h5.val] at hcell
    have bmv : ((l5.length : Int) != 1) = false := by rw [hl5]; rfl
    have btm : 0 < l5.length := by omega
    have hcap := h5.ru; have hcap2 := h5.cap2
    by_cases hg1 : g = 1
    ·
     have e1 : q.num = n' := by
      rw [← ang.out, hg1, Nat.div_one]
      by_cases h : n' < 0
      ·
       rw [if_pos (decide_eq_true h)]; omega
      ·
       rw [if_neg (by simpa using h)]; omega
     have e2 : (q.den : Int) = d' := by
      rw [← ani.out, hg1, Nat.div_one]; have := aa HDP; omega
     have E := hide (And.intro e1 e2)
     have hblk := (hb3.block _ q2).trans KQ.out
     have jy := Lib.hid hblk
     rw [hg1] at hcell
     clear hblk hg1 e1 e2 h5 hc5 hb3 hl5 hb5
     go_wp2_with fail
     exact bodyPost_ret (v := .agg #[.slice A3 l3.length c3, .bool m3, .slice A4 l4.length c4, .bool m4]) (by simp [results, Tryz.results128, go_sem, hc3, p0, p1, p2, p3, q2]) rfl
      ⟨A3, c3, l3, m3, A4, c4, l4, m4, rfl, by rw [(aa E).1]; exact ((aa FN).below (aa HB3)).upto jy.out (Bb _ _ _ _ _ _ _ _) (ou _ _ _ _ _ _), by rw [(aa E).2]; exact ((aa FD).below (aa HB3)).upto jy.out (Bb _ _ _ _ _ _ _ _) (ou _ _ _ _ _ _), (bg (aa HB) (aa HB3)).grown (ou _ _ _ _ _ _) (bg (aa HB) (aa HB3)).size (fun k hk => by injection hk with hk; omega)⟩
    ·
     have hgb : ((g : Int) == 1) = false := beq_eq_false_iff_ne.2 om
     have btq : ((g : Int) != 1) = true := by simp; omega
     obtain ⟨AG, hAG⟩ : ∃ A : Option Addr, A = some ⟨b5, o5, none⟩ := ⟨_, rfl⟩
     have hp1 := Jz A3 (some ⟨b5, o5, none⟩) c3 c5 l3 l5 n'.natAbs g W3 ((aa FN).nat.below hb3) (aa H5) (aa HG0) (by have := aa HLN; have := aa HK; omega) (by have := aa HLG; have := aa HK; omega)
     have Uq := hide hp1
     clear hg1 h5 hc5 hb3 hl5 hb5 hp1 hAG AG
     go_wp2_with fail
     refine (aa Uq).mono ?_
     rintro e W4 ⟨A6, c6, l6, A7, c7, l7, rfl, h6, h7, hb4⟩
     have Rk := bg (aa HB3) hb4
     have h5' := (aa H5).below hb4
     obtain ⟨hc4, hf4⟩ := dz Rk
     have hp2 := Jz A4 (some ⟨b5, o5, none⟩) c4 c5 l4 l5 d'.natAbs g W4 ((aa FD).nat.below Rk) h5' (aa HG0) (by have := aa HLD; have := aa HK; omega) (by have := aa HLG; have := aa HK; omega)
     have HP2 := hide hp2; have H6 := hide h6; have HB4 := hide Rk
     clear hp2 h6 h7 hb4 Rk h5' hc3 hf3 Uq
     go_wp2_with fail
     refine (aa HP2).mono ?_
     rintro e W5 ⟨A8, c8, l8, A9, c9, l9, rfl, h8, h9, hb5⟩
     have Xp := bg (aa HB4) hb5
     obtain ⟨hc5, xg⟩ := dz Xp
     have hs1 := Eo A6 c6 l6 (n'.natAbs / g) m3 W5 ((aa H6).below hb5)
     have Mq : (if m3 = true then -((n'.natAbs / g : Nat) : Int) else ((n'.natAbs / g : Nat) : Int)) = q.num := by rw [(aa FN).sign]; exact ang.out
     rw [Mq] at hs1
     have nz := hide hs1; have H8 := hide h8; have HB5 := hide Xp
     clear hs1 h8 h9 hb5 Xp hc4 hf4 Mq HP2
     go_wp2_with fail
     refine (aa nz).mono ?_
     rintro e W6 ⟨Zz, c10, l10, m10, rfl, h10, hb6⟩
     have Xo := bg (aa HB5) hb6
     obtain ⟨hc6, Ei⟩ := dz Xo
     have hs2 := Eo A8 c8 l8 (d'.natAbs / g) false W6 ((aa H8).below hb6)
     rw [if_neg Bool.false_ne_true, ani.out] at hs2
     have HS2 := hide hs2; have H10 := hide h10; have HB6 := hide Xo
     clear hs2 h10 hb6 Xo hc5 xg nz
     go_wp2_with fail
     refine (aa HS2).mono ?_
     rintro e W7 ⟨Zy, c11, Yp, m11, rfl, h11, Ph⟩
     have Xn := bg (aa HB6) Ph
     obtain ⟨hc7, hf7⟩ := dz Xn
     have afu := (aa HSW).below Xn
     have Xu := hide afu
     have ahx := hide ((aa H10).below Ph); have H11 := hide h11
     clear h11 Ph Xn hc6 Ei afu HS2
     go_wp2_with fail
     have Ze := (aa Xu).put (aa ahx) (aa H11)
     have hk1 := (aa Xu).keep (.slice Zz l10.length c10) (.bool m10) (.slice Zy Yp.length c11) (.bool m11) (aa ahx)
     have hk2 := (aa Xu).keep (.slice Zz l10.length c10) (.bool m10) (.slice Zy Yp.length c11) (.bool m11) (aa H11)
     exact bodyPost_ret (v := .agg #[.slice Zz l10.length c10, .bool m10, .slice Zy Yp.length c11, .bool m11]) (by simp [results, Tryz.results128, go_sem, hc7, p0, p1, p2, p3, q2]) rfl
      ⟨Zz, c10, l10, m10, Zy, c11, Yp, m11, rfl, hk1.upto Ze.bq (Bb _ _ _ _ _ _ _ _) (ou _ _ _ _ _ _), hk2.upto Ze.bq (Bb _ _ _ _ _ _ _ _) (ou _ _ _ _ _ _), Ze.hb.grown (ou _ _ _ _ _ _) Ze.hb.size (fun k hk => by injection hk with hk; omega)⟩
   ·
    have bmv : ((l5.length : Int) != 1) = true := by simp; omega
    have btl : ((l5.length : Int) == 1) = false := beq_eq_false_iff_ne.2 om
    have hcap := h5.ru; have hcap2 := h5.cap2
    have hp1 := Jz A3 A5 c3 c5 l3 l5 n'.natAbs g W3 ((aa FN).nat.below hb3) (aa H5) (aa HG0) (by have := aa HLN; have := aa HK; omega) (by have := aa HLG; have := aa HK; omega)
    have Uq := hide hp1
    clear h5 hb3 hl5 hp1
    go_wp2_with fail
    refine (aa Uq).mono ?_
    rintro e W4 ⟨A6, c6, l6, A7, c7, l7, rfl, h6, h7, hb4⟩
    have Rk := bg (aa HB3) hb4
    have h5' := (aa H5).below hb4
    obtain ⟨hc4, hf4⟩ := dz Rk
    have hp2 := Jz A4 A5 c4 c5 l4 l5 d'.natAbs g W4 ((aa FD).nat.below Rk) h5' (aa HG0) (by have := aa HLD; have := aa HK; omega) (by have := aa HLG; have := aa HK; omega)
    have HP2 := hide hp2; have H6 := hide h6; have HB4 := hide Rk
    clear hp2 h6 h7 hb4 Rk h5' hc3 hf3 Uq
    go_wp2_with fail
    refine (aa HP2).mono ?_
    rintro e W5 ⟨A8, c8, l8, A9, c9, l9, rfl, h8, h9, hb5⟩
    have Xp := bg (aa HB4) hb5
    obtain ⟨hc5, xg⟩ := dz Xp
    have hs1 := Eo A6 c6 l6 (n'.natAbs / g) m3 W5 ((aa H6).below hb5)
    have Mq : (if m3 = true then -((n'.natAbs / g : Nat) : Int) else ((n'.natAbs / g : Nat) : Int)) = q.num := by rw [(aa FN).sign]; exact ang.out
    rw [Mq] at hs1
    have nz := hide hs1; have H8 := hide h8; have HB5 := hide Xp
    clear hs1 h8 h9 hb5 Xp hc4 hf4 Mq HP2
    go_wp2_with fail
    refine (aa nz).mono ?_
    rintro e W6 ⟨Zz, c10, l10, m10, rfl, h10, hb6⟩
    have Xo := bg (aa HB5) hb6
    obtain ⟨hc6, Ei⟩ := dz Xo
    have hs2 := Eo A8 c8 l8 (d'.natAbs / g) false W6 ((aa H8).below hb6)
    rw [if_neg Bool.false_ne_true, ani.out] at hs2
    have HS2 := hide hs2; have H10 := hide h10; have HB6 := hide Xo
    clear hs2 h10 hb6 Xo hc5 xg nz
    go_wp2_with fail
    refine (aa HS2).mono ?_
    rintro e W7 ⟨Zy, c11, Yp, m11, rfl, h11, Ph⟩
    have Xn := bg (aa HB6) Ph
    obtain ⟨hc7, hf7⟩ := dz Xn
    have afu := (aa HSW).below Xn
    have Xu := hide afu
    have ahx := hide ((aa H10).below Ph); have H11 := hide h11
    clear h11 Ph Xn hc6 Ei afu HS2
    go_wp2_with fail
    have Ze := (aa Xu).put (aa ahx) (aa H11)
    have hk1 := (aa Xu).keep (.slice Zz l10.length c10) (.bool m10) (.slice Zy Yp.length c11) (.bool m11) (aa ahx)
    have hk2 := (aa Xu).keep (.slice Zz l10.length c10) (.bool m10) (.slice Zy Yp.length c11) (.bool m11) (aa H11)
    exact bodyPost_ret (v := .agg #[.slice Zz l10.length c10, .bool m10, .slice Zy Yp.length c11, .bool m11]) (by simp [results, Tryz.results128, go_sem, hc7, p0, p1, p2, p3, q2]) rfl
     ⟨Zz, c10, l10, m10, Zy, c11, Yp, m11, rfl, hk1.upto Ze.bq (Bb _ _ _ _ _ _ _ _) (ou _ _ _ _ _ _), hk2.upto Ze.bq (Bb _ _ _ _ _ _ _ _) (ou _ _ _ _ _ _), Ze.hb.grown (ou _ _ _ _ _ _) Ze.hb.size (fun k hk => by injection hk with hk; omega)⟩


theorem bab (n d : Int) (w : World) (b1 : -9223372036854775808 ≤ n) (b2 : n ≤ 9223372036854775807) (b3 : -9223372036854775808 ≤ d) (b4 : d ≤ 9223372036854775807) :
  Calls Tryz.prog 67 #[(.agg #[.int .i64 n, .int .i64 d])] w fun e w' => Gf w n d e w' := by
 have HN1 := hide (fun W => zm n b1 b2 W)
 have HN2 := hide (fun W => zm d b3 b4 W)
 clear b1 b2 b3 b4
 go_enter Tryz.func67, Tryz.ntmps67
 go_wp2_with fail
 obtain ⟨n0, n1, hsz, hw0⟩ := qw w (.cells #[.int .i64 n, .int .i64 d] 23) (.cells #[.int .i64 0, .bool false, .slice none 0 0, .int .i64 0, .bool false, .slice none 0 0] 79)
 generalize ((w.alloc (.cells #[.int .i64 n, .int .i64 d] 23)).alloc (.cells #[.int .i64 0, .bool false, .slice none 0 0, .int .i64 0, .bool false, .slice none 0 0] 79)) = W0 at *
 have uh : W0.cell? ⟨w.heap.size, 0, none⟩ = some (.int .i64 n) := ag n0 0
 have ug : W0.cell? ⟨w.heap.size, 1, none⟩ = some (.int .i64 d) := ag n0 1
 have q0 : w.heap.size < W0.heap.size := by omega
 have xu : W0.cell? ⟨w.heap.size + 1, 0, none⟩ = some (.int .i64 0) := ag n1 0
 have xq : W0.cell? ⟨w.heap.size + 1, 1, none⟩ = some (.bool false) := ag n1 1
 have Dw : W0.cell? ⟨w.heap.size + 1, 2, none⟩ = some (.slice none 0 0) := ag n1 2
 have Mk : W0.cell? ⟨w.heap.size + 1, 3, none⟩ = some (.int .i64 0) := ag n1 3
 have Ra : W0.cell? ⟨w.heap.size + 1, 4, none⟩ = some (.bool false) := ag n1 4
 have Qz : W0.cell? ⟨w.heap.size + 1, 5, none⟩ = some (.slice none 0 0) := ag n1 5
 have q1 : w.heap.size + 1 < W0.heap.size := by omega
 have Mw := ai n1 0
 have Mv := ai n1 1
 have amt := ai n1 2
 have ams := ai n1 3
 have avg := ai n1 4
 have avf := ai n1 5
 have NR := Lib.hid n1
 clear n0 n1
 go_region_held3 (fun w' => w'.cell? ⟨w.heap.size, 0, none⟩ = some (.int .i64 n) ∧ w'.cell? ⟨w.heap.size, 1, none⟩ = some (.int .i64 d)) ((first | with_reducible exact ⟨(hc _ _ q0).trans uh, (hc _ _ q0).trans ug⟩ | with_reducible exact ⟨uh, ug⟩ | with_reducible exact ⟨(jg _ _ _ _ _ _ _ _ om).trans ((hc _ _ q0).trans uh), (jg _ _ _ _ _ _ _ _ om).trans ((hc _ _ q0).trans ug)⟩ | exact ⟨(hc _ _ q0).trans uh, (hc _ _ q0).trans ug⟩ | exact ⟨uh, ug⟩ | exact ⟨(jg _ _ _ _ _ _ _ _ om).trans ((hc _ _ q0).trans uh), (jg _ _ _ _ _ _ _ _ om).trans ((hc _ _ q0).trans ug)⟩)) (first | (go_at_call 137; refine ((aa HN1) _).mono ?_; clear HN1; rintro e w' ⟨s5, qa, A5, c5, l5, rfl, xg, hb⟩; have hbw := bz (w := W0) bem hb; obtain ⟨hc, hfz⟩ := dz hbw) | (go_at_call 137; refine ((aa HN2) _).mono ?_; rintro e w' ⟨s6, su, A6, c6, l6, rfl, Ei, hb⟩; have xg := xg.below hb; have hbw := bz (w := W0) bem hb; obtain ⟨hc, hfz⟩ := dz hbw))
 have hblk : w'.heap[w.heap.size + 1]? = some (.cells #[.int .i64 0, .bool false, .slice none 0 0, .int .i64 0, .bool false, .slice none 0 0] 79 (0, 0)) := (hbw.block _ q1).trans NR.out
 have jy := Lib.hid hblk
 have jh : Below w.heap.size w w' := bg hw0 hbw
 clear hblk
 go_wp2_with fail
 exact bodyPost_ret (v := (Value.agg #[.int .i64 s5, .bool qa, .slice A5 l5.length c5, .int .i64 s6, .bool su, .slice A6 l6.length c6])) (by simp [results, Tryz.results67, go_sem, hc, xu, xq, Dw, Mk, Ra, Qz, q1]) rfl
  ⟨s5, qa, A5, c5, l5, s6, su, A6, c6, l6, rfl, (xg).upto jy.out (tu _ _ _ _ _ _ _ _ _ _) (jw _ _ _ _ _ _ _ _), (Ei).upto jy.out (tu _ _ _ _ _ _ _ _ _ _) (jw _ _ _ _ _ _ _ _), jh.grown (jw _ _ _ _ _ _ _ _) jh.size (fun k hk => by injection hk with hk; omega)⟩


def bgg (w : World) (t : Wd.Told) (e : Ending) (w' : World) : Prop := e = .returned (.tuple #[.agg #[.int .i64 t.n, .int .i64 t.d], .int .i64 t.e]) ∧ Below w.heap.size w w'

def bnz (w : World) (q : Rat) (e : Ending) (w' : World) : Prop := ∃ (n d : Int) (ok : Bool), e = .returned (.tuple #[.agg #[.int .i64 n, .int .i64 d], .bool ok]) ∧ Below w.heap.size w w' ∧ ((ok = true ∧ Wd.told q = ⟨n, d, 0⟩) ∨ (ok = false ∧ Wd.told q = ⟨0, 0, 3⟩))




structure Pw (Wp W : World) (b : Nat) : Prop where
 old : Wp.heap.size ≤ b
 zero : W.heap[b]? = some (.cells #[.slice none 0 0, .bool false, .slice none 0 0, .bool false] 68 (0, 0))
theorem Pw.lt {Wp W : World} {b : Nat} (h : Pw Wp W b) : b < W.heap.size := lt_of_block h.zero
theorem Pw.drew {Wp W : World} {b : Nat} (h : Pw Wp W b) : Pw Wp W.drew b := ⟨h.old, h.zero⟩
theorem Pw.below {Wp W w' : World} {b : Nat} (h : Pw Wp W b) (hb : Below W.heap.size W w') : Pw Wp w' b := ⟨h.old, (hb.block _ h.lt).trans h.zero⟩
theorem Pw.new {Wp W : World} {b : Nat} (hb : Below Wp.heap.size Wp W) (e : b = W.heap.size) : Pw Wp (W.alloc (.cells #[.slice none 0 0, .bool false, .slice none 0 0, .bool false] 68 (0, 0))) b := by
 subst e; exact ⟨hb.size, heap_alloc_new W _⟩
theorem Pw.alloc {Wp W : World} {b : Nat} {o : Obj} (h : Pw Wp W b) : Pw Wp (W.alloc o) b := ⟨h.old, (Below.heap_alloc W _ b h.lt).trans h.zero⟩
theorem QV.upto {w w' : World} {g : Nat} {Ce : Option Addr} {c1a : Nat} {Bz : List Nat} {Rv : Bool} {Cc : Option Addr} {Ca : Nat} {Bw : List Nat} {Ru : Bool} {x1 : Rat} {T : TypeId} {cs : Array Value} (h : QV w Ce c1a Bz Rv Cc Ca Bw Ru x1) (hg : w.heap[g]? = some (.cells cs T (0, 0))) (hn : Xt cs) (hgr : w.grownBy w' (some g)) : QV w' Ce c1a Bz Rv Cc Ca Bw Ru x1 := by
 obtain ⟨d, h2, h3⟩ := h.den
 exact ⟨h.num.upto hg hn hgr, d, h2.upto hg hn hgr, h3⟩
theorem QV.alloc {W : World} {o : Obj} {Ce : Option Addr} {c1a : Nat} {Bz : List Nat} {Rv : Bool} {Cc : Option Addr} {Ca : Nat} {Bw : List Nat} {Ru : Bool} {x1 : Rat} (h1 : QV W Ce c1a Bz Rv Cc Ca Bw Ru x1) : QV (W.alloc o) Ce c1a Bz Rv Cc Ca Bw Ru x1 := h1.below ((Below.refl _ _).alloc (Nat.le_refl _) _)
def Ec (w : World) (b : Nat) (x : Rat) : Prop := ∃ A c l m A' c' l' m', w.heap[b]? = some (.cells #[.slice A (List.length l) c, .bool m, .slice A' (List.length l') c', .bool m'] 68 (0, 0)) ∧ QV w A c l m A' c' l' m' x
theorem Ec.below {w w' : World} {b : Nat} {x : Rat} (h : Ec w b x) (hb : Below w.heap.size w w') : Ec w' b x := by
 obtain ⟨A, c, l, m, A', c', l', m', h1, h2⟩ := h
 exact ⟨A, c, l, m, A', c', l', m', (hb.block _ (lt_of_block h1)).trans h1, h2.below hb⟩
theorem Ec.new {W : World} {b : Nat} {Ce : Option Addr} {c1a : Nat} {Bz : List Nat} {Rv : Bool} {Cc : Option Addr} {Ca : Nat} {Bw : List Nat} {Ru : Bool} {x1 : Rat} (h1 : QV W Ce c1a Bz Rv Cc Ca Bw Ru x1) (e : b = W.heap.size) : Ec (W.alloc (.cells #[.slice Ce Bz.length c1a, .bool Rv, .slice Cc Bw.length Ca, .bool Ru] 68)) b x1 := by
 subst e; exact ⟨_, _, _, _, _, _, _, _, heap_alloc_new W _, h1.alloc⟩
theorem Ec.alloc {W : World} {b : Nat} {x : Rat} {o : Obj} (h : Ec W b x) : Ec (W.alloc o) b x := h.below ((Below.refl _ _).alloc (Nat.le_refl _) _)
theorem aky {W : World} {b : Nat} {a0 a1 a2 a3 u0 u1 u2 u3 : Value} {T : TypeId} (h : W.heap[b]? = some (.cells #[a0, a1, a2, a3] T (0, 0))) : ((((W.setCell ⟨b, 0, none⟩ u0).setCell ⟨b, 1, none⟩ u1).setCell ⟨b, 2, none⟩ u2).setCell ⟨b, 3, none⟩ u3).heap[b]? = some (.cells #[u0, u1, u2, u3] T (0, 0)) := by
 simp [World.setCell, Array.getElem?_modify, h]

namespace Sb
def Kt (u : Value) : Prop := (∀ n : Int, u ≠ .int .u64 n) ∧ u.oneCell' = true ∧ (∀ n : Int, u ≠ .int .u32 n)
def Ea (cs : List Value) : Prop := ∀ u ∈ cs, Kt u
structure Kind where
 size : Nat
 ok : World → List Value → Prop
 noW : ∀ {W : World} {c : List Value}, ok W c → Ea c
 below : ∀ {W W' : World} {c : List Value}, Below W.heap.size W W' → ok W c → ok W' c
 upto : ∀ {W W' : World} {g : Nat} {T : TypeId} {cs c : List Value}, W.heap[g]? = some (.cells cs.toArray T (0, 0)) → Ea cs → W.grownBy W' (some g) → ok W c → ok W' c
 len : ∀ {W : World} {c : List Value}, ok W c → c.length = size
inductive ji where
 | v (u : Value)
 | z (n : Int)
 | q (x : Rat)
 | r (x : Rat)
 | k (κ : Kind)
def ji.size : ji → Nat
 | .v _ => 1
 | .z _ => 3
 | .q _ => 6
 | .r _ => 4
 | .k κ => κ.size
def qd : List ji → Nat
 | [] => 0
 | l :: ls => l.size + qd ls
def Fx (W : World) : ji → List Value → Prop
 | .v u, c => c = [u] ∧ Kt u
 | .z n, c => ∃ s1 n1 A1 c1 l1, c = [.int .i64 s1, .bool n1, .slice A1 (List.length l1) c1] ∧ fq W s1 n1 A1 c1 l1 n
 | .q x, c => ∃ s1 n1 A1 c1 l1 s2 n2 A2 c2 l2, c = [.int .i64 s1, .bool n1, .slice A1 (List.length l1) c1, .int .i64 s2, .bool n2, .slice A2 (List.length l2) c2] ∧ fq W s1 n1 A1 c1 l1 x.num ∧ fq W s2 n2 A2 c2 l2 (x.den : Int)
 | .r x, c => ∃ A1 c1 l1 m1 A2 c2 l2 m2, c = [.slice A1 (List.length l1) c1, .bool m1, .slice A2 (List.length l2) c2, .bool m2] ∧ QV W A1 c1 l1 m1 A2 c2 l2 m2 x
 | .k κ, c => κ.ok W c
def fo (W : World) : List ji → List Value → Prop
 | [], cs => cs = []
 | l :: ls, cs => ∃ c r, cs = c ++ r ∧ Fx W l c ∧ fo W ls r
theorem kg (n : Int) : Kt (.int .i64 n) := ⟨fun m h => by simp at h, rfl, fun m h => by simp at h⟩
theorem Tg (b : Bool) : Kt (.bool b) := ⟨fun m h => by simp at h, rfl, fun m h => by simp at h⟩
theorem Tf (A : Option Addr) (n c : Nat) : Kt (.slice A n c) := ⟨fun m h => by simp at h, rfl, fun m h => by simp at h⟩
theorem bdj (A : Option Addr) : Kt (.pointer A) := ⟨fun m h => by simp at h, rfl, fun m h => by simp at h⟩
theorem Ea.arr {cs : List Value} (h : Ea cs) : Po cs.toArray := fun i n he => (h (.int .u64 n) (List.mem_of_getElem? (i := i) (by simpa using he))).1 n rfl
theorem Ea.bgc {cs : List Value} (h : Ea cs) : Xt cs.toArray := fun i n he => (h (.int .u32 n) (List.mem_of_getElem? (i := i) (by simpa using he))).2.2 n rfl
theorem Fx.noW {W : World} {l : ji} {c : List Value} (h : Fx W l c) : Ea c := by
 cases l with
 | v u => obtain ⟨rfl, h⟩ := h; intro u' hu; rw [List.mem_singleton.1 hu]; exact h
 | z n =>
  obtain ⟨_, _, _, _, _, rfl, _⟩ := h
  intro u hu
  simp only [List.mem_cons, List.not_mem_nil, or_false] at hu
  rcases hu with rfl | rfl | rfl
  all_goals first | exact kg _ | exact Tg _ | exact Tf _ _ _
 | q x =>
  obtain ⟨_, _, _, _, _, _, _, _, _, _, rfl, _⟩ := h
  intro u hu
  simp only [List.mem_cons, List.not_mem_nil, or_false] at hu
  rcases hu with rfl | rfl | rfl | rfl | rfl | rfl
  all_goals first | exact kg _ | exact Tg _ | exact Tf _ _ _
 | r x =>
  obtain ⟨_, _, _, _, _, _, _, _, rfl, _⟩ := h
  intro u hu
  simp only [List.mem_cons, List.not_mem_nil, or_false] at hu
  rcases hu with rfl | rfl | rfl | rfl
  all_goals first | exact kg _ | exact Tg _ | exact Tf _ _ _
 | k κ => exact κ.noW h
theorem Fx.below {W W' : World} {l : ji} {c : List Value} (hb : Below W.heap.size W W') (h : Fx W l c) : Fx W' l c := by
 cases l with
 | v u => exact h
 | z n =>
  obtain ⟨s1, n1, A1, c1, l1, rfl, h1⟩ := h
  exact ⟨_, _, _, _, _, rfl, h1.below hb⟩
 | q x =>
  obtain ⟨s1, n1, A1, c1, l1, s2, n2, A2, c2, l2, rfl, h1, h2⟩ := h
  exact ⟨_, _, _, _, _, _, _, _, _, _, rfl, h1.below hb, h2.below hb⟩
 | r x =>
  obtain ⟨A1, c1, l1, m1, A2, c2, l2, m2, rfl, h1⟩ := h
  exact ⟨_, _, _, _, _, _, _, _, rfl, h1.below hb⟩
 | k κ => exact κ.below hb h
theorem Fx.upto {W W' : World} {g : Nat} {l : ji} {c : List Value} {T : TypeId} {cs : List Value} (hg : W.heap[g]? = some (.cells cs.toArray T (0, 0))) (hn : Ea cs) (hgr : W.grownBy W' (some g)) (h : Fx W l c) : Fx W' l c := by
 cases l with
 | v u => exact h
 | z n =>
  obtain ⟨s1, n1, A1, c1, l1, rfl, h1⟩ := h
  exact ⟨_, _, _, _, _, rfl, h1.upto hg hn.arr hgr⟩
 | q x =>
  obtain ⟨s1, n1, A1, c1, l1, s2, n2, A2, c2, l2, rfl, h1, h2⟩ := h
  exact ⟨_, _, _, _, _, _, _, _, _, _, rfl, h1.upto hg hn.arr hgr, h2.upto hg hn.arr hgr⟩
 | r x =>
  obtain ⟨A1, c1, l1, m1, A2, c2, l2, m2, rfl, h1⟩ := h
  exact ⟨_, _, _, _, _, _, _, _, rfl, h1.upto hg hn.bgc hgr⟩
 | k κ => exact κ.upto hg hn hgr h
theorem Fx.len {W : World} {l : ji} {c : List Value} (h : Fx W l c) : c.length = l.size := by
 cases l with
 | v u => rw [h.1]; rfl
 | z n => obtain ⟨_, _, _, _, _, rfl, _⟩ := h; rfl
 | q x => obtain ⟨_, _, _, _, _, _, _, _, _, _, rfl, _⟩ := h; rfl
 | r x => obtain ⟨_, _, _, _, _, _, _, _, rfl, _⟩ := h; rfl
 | k κ => exact κ.len h
theorem fo.noW {W : World} : ∀ {ls : List ji} {cs : List Value}, fo W ls cs → Ea cs
 | [], _, h => by cases h; intro u hu; cases hu
 | _ :: ls, _, ⟨c, r, e, hq, h⟩ => by
  subst e
  intro u' hm
  rcases List.mem_append.1 hm with hm | hm
  ·
   exact hq.noW _ hm
  ·
   exact fo.noW (ls := ls) h _ hm
theorem fo.below {W W' : World} (hb : Below W.heap.size W W') : ∀ {ls : List ji} {cs : List Value}, fo W ls cs → fo W' ls cs
 | [], _, h => h
 | _ :: ls, _, ⟨c, r, e, hq, h⟩ => ⟨c, r, e, hq.below hb, fo.below hb (ls := ls) h⟩
theorem fo.upto {W W' : World} {g : Nat} {T : TypeId} {ds : List Value} (hg : W.heap[g]? = some (.cells ds.toArray T (0, 0))) (hn : Ea ds) (hgr : W.grownBy W' (some g)) : ∀ {ls : List ji} {cs : List Value}, fo W ls cs → fo W' ls cs
 | [], _, h => h
 | _ :: ls, _, ⟨c, r, e, hq, h⟩ => ⟨c, r, e, hq.upto hg hn hgr, fo.upto hg hn hgr (ls := ls) h⟩
theorem fo.len {W : World} : ∀ {ls : List ji} {cs : List Value}, fo W ls cs → cs.length = qd ls
 | [], _, h => by cases h; rfl
 | _ :: ls, _, ⟨c, r, e, hq, h⟩ => by subst e; rw [List.length_append, hq.len, fo.len (ls := ls) h]; rfl
theorem fo.app {W : World} {ks : List ji} {ds : List Value} (hd : fo W ks ds) : ∀ {ls : List ji} {cs : List Value}, fo W ls cs → fo W (ls ++ ks) (cs ++ ds)
 | [], _, h => by cases h; exact hd
 | _ :: ls, _, ⟨c, r, e, hq, h⟩ => ⟨c, r ++ ds, by rw [e, List.append_assoc], hq, fo.app hd (ls := ls) h⟩
theorem fo.cut {W : World} {ks : List ji} : ∀ {ls : List ji} {cs : List Value}, fo W (ls ++ ks) cs → ∃ c d, cs = c ++ d ∧ fo W ls c ∧ fo W ks d
 | [], cs, h => ⟨[], cs, rfl, rfl, h⟩
 | _ :: ls, _, ⟨c0, r, e, hq, h⟩ => by
  obtain ⟨c, d, e2, h1, h2⟩ := fo.cut (ls := ls) h
  exact ⟨c0 ++ c, d, by rw [e, e2, List.append_assoc], ⟨c0, c, rfl, hq, h1⟩, h2⟩
theorem fo.v {W : World} {u : Value} {ls : List ji} {cs : List Value} (hu : Kt u) (h : fo W ls cs) : fo W (.v u :: ls) (u :: cs) := ⟨[u], cs, rfl, ⟨rfl, hu⟩, h⟩
theorem fo.z {W : World} {n : Int} {s1 : Int} {n1 : Bool} {A1 : Option Addr} {c1 : Nat} {l1 : List Nat} {ls : List ji} {cs : List Value} (h1 : fq W s1 n1 A1 c1 l1 n) (h : fo W ls cs) : fo W (.z n :: ls) (.int .i64 s1 :: .bool n1 :: .slice A1 l1.length c1 :: cs) := ⟨[_, _, _], cs, rfl, ⟨_, _, _, _, _, rfl, h1⟩, h⟩
theorem fo.q {W : World} {x : Rat} {s1 : Int} {n1 : Bool} {A1 : Option Addr} {c1 : Nat} {l1 : List Nat} {s2 : Int} {n2 : Bool} {A2 : Option Addr} {c2 : Nat} {l2 : List Nat} {ls : List ji} {cs : List Value} (h1 : fq W s1 n1 A1 c1 l1 x.num) (h2 : fq W s2 n2 A2 c2 l2 (x.den : Int)) (h : fo W ls cs) : fo W (.q x :: ls) (.int .i64 s1 :: .bool n1 :: .slice A1 l1.length c1 :: .int .i64 s2 :: .bool n2 :: .slice A2 l2.length c2 :: cs) := ⟨[_, _, _, _, _, _], cs, rfl, ⟨_, _, _, _, _, _, _, _, _, _, rfl, h1, h2⟩, h⟩
theorem fo.r {W : World} {x : Rat} {A1 : Option Addr} {c1 : Nat} {l1 : List Nat} {m1 : Bool} {A2 : Option Addr} {c2 : Nat} {l2 : List Nat} {m2 : Bool} {ls : List ji} {cs : List Value} (h1 : QV W A1 c1 l1 m1 A2 c2 l2 m2 x) (h : fo W ls cs) : fo W (.r x :: ls) (.slice A1 l1.length c1 :: .bool m1 :: .slice A2 l2.length c2 :: .bool m2 :: cs) := ⟨[_, _, _, _], cs, rfl, ⟨_, _, _, _, _, _, _, _, rfl, h1⟩, h⟩
theorem fo.k {W : World} {κ : Kind} {c : List Value} {ls : List ji} {cs : List Value} (h1 : κ.ok W c) (h : fo W ls cs) : fo W (.k κ :: ls) (c ++ cs) := ⟨c, cs, rfl, h1, h⟩
theorem fo.alj {W : World} {x : Rat} {ls : List ji} {cs : List Value} (h : fo W (.r x :: ls) cs) : ∃ A1 c1 l1 m1 A2 c2 l2 m2 r, cs = .slice A1 (List.length l1) c1 :: .bool m1 :: .slice A2 (List.length l2) c2 :: .bool m2 :: r ∧ QV W A1 c1 l1 m1 A2 c2 l2 m2 x ∧ fo W ls r := by
 obtain ⟨c, r, rfl, ⟨A1, c1, l1, m1, A2, c2, l2, m2, rfl, h1⟩, h⟩ := h
 exact ⟨A1, c1, l1, m1, A2, c2, l2, m2, r, rfl, h1, h⟩
theorem fo.Ev {W : World} {u : Value} {ls : List ji} {cs : List Value} (h : fo W (.v u :: ls) cs) : ∃ r, cs = u :: r ∧ Kt u ∧ fo W ls r := by
 obtain ⟨c, r, rfl, ⟨rfl, hu⟩, h⟩ := h
 exact ⟨r, rfl, hu, h⟩
theorem fo.akl {W : World} {n : Int} {ls : List ji} {cs : List Value} (h : fo W (.z n :: ls) cs) : ∃ s1 n1 A1 c1 l1 r, cs = .int .i64 s1 :: .bool n1 :: .slice A1 (List.length l1) c1 :: r ∧ fq W s1 n1 A1 c1 l1 n ∧ fo W ls r := by
 obtain ⟨c, r, rfl, ⟨s1, n1, A1, c1, l1, rfl, h1⟩, h⟩ := h
 exact ⟨s1, n1, A1, c1, l1, r, rfl, h1, h⟩
theorem fo.aww {W : World} {x : Rat} {ls : List ji} {cs : List Value} (h : fo W (.q x :: ls) cs) : ∃ s1 n1 A1 c1 l1 s2 n2 A2 c2 l2 r, cs = .int .i64 s1 :: .bool n1 :: .slice A1 (List.length l1) c1 :: .int .i64 s2 :: .bool n2 :: .slice A2 (List.length l2) c2 :: r ∧ fq W s1 n1 A1 c1 l1 x.num ∧ fq W s2 n2 A2 c2 l2 (x.den : Int) ∧ fo W ls r := by
 obtain ⟨c, r, rfl, ⟨s1, n1, A1, c1, l1, s2, n2, A2, c2, l2, rfl, h1, h2⟩, h⟩ := h
 exact ⟨s1, n1, A1, c1, l1, s2, n2, A2, c2, l2, r, rfl, h1, h2, h⟩

def ax (ls : List ji) : World → Value → Prop := fun W v => ∃ cs : List Value, v = .agg cs.toArray ∧ fo W ls cs
theorem az (ls : List ji) : Rg.Fu eu (ax ls) := by
 rintro w w' v hb ⟨cs, rfl, h⟩
 exact ⟨cs, rfl, h.below hb⟩
def Jt (W : World) : List (World → Value → Prop) → List Value → Prop
 | [], vs => vs = []
 | t :: ts, vs => ∃ u r, vs = u :: r ∧ t W u ∧ Jt W ts r
def kz (ts : List (World → Value → Prop)) : World → Value → Prop := fun W v => ∃ vs : List Value, v = .tuple vs.toArray ∧ Jt W ts vs
theorem Jt.below {W W' : World} (hb : eu W W') : ∀ {ts : List (World → Value → Prop)} {vs : List Value}, Rg.dw eu ts → Jt W ts vs → Jt W' ts vs
 | [], _, _, h => h
 | _ :: ts, _, hs, ⟨u, r, e, h1, h2⟩ => ⟨u, r, e, hs.1 _ _ _ hb h1, Jt.below hb (ts := ts) hs.2 h2⟩
theorem jf {ts : List (World → Value → Prop)} (hs : Rg.dw eu ts) : Rg.Fu eu (kz ts) := by
 rintro w w' v hb ⟨vs, rfl, h⟩
 exact ⟨vs, rfl, Jt.below hb hs h⟩
theorem Jt.get {W : World} : ∀ {ts : List (World → Value → Prop)} {vs : List Value}, Jt W ts vs → ∀ i, i < ts.length → ∃ u, vs[i]? = some u ∧ Rg.pick ts i W u
 | [], _, _, i, hi => by simp at hi
 | t :: ts, _, ⟨u, r, e, h1, h2⟩, 0, _ => by subst e; exact ⟨u, rfl, h1⟩
 | t :: ts, _, ⟨u, r, e, h1, h2⟩, i + 1, hi => by
  subst e
  obtain ⟨u', h3, h4⟩ := Jt.get (ts := ts) h2 i (by simpa using hi)
  exact ⟨u', by simpa using h3, h4⟩

def yf (W : World) (b : Nat) (T : TypeId) (ls : List ji) : Prop := ∃ cs : List Value, W.heap[b]? = some (.cells cs.toArray T (0, 0)) ∧ fo W ls cs
theorem yf.lt {W : World} {b : Nat} {T : TypeId} {ls : List ji} (h : yf W b T ls) : b < W.heap.size := by obtain ⟨cs, h, _⟩ := h; exact lt_of_block h
theorem yf.below {W W' : World} {b : Nat} {T : TypeId} {ls : List ji} (h : yf W b T ls) (hb : Below W.heap.size W W') : yf W' b T ls := by
 obtain ⟨cs, h1, h2⟩ := h
 exact ⟨cs, (hb.block _ (lt_of_block h1)).trans h1, h2.below hb⟩
abbrev xh := Nat × TypeId × List ji
structure Own (w : World) (bs : List xh) (W : World) : Prop where
 bel : Below w.heap.size w W
 nd : (bs.map Prod.fst).Nodup
 box : ∀ b T ls, (b, T, ls) ∈ bs → w.heap.size ≤ b ∧ yf W b T ls
theorem Own.nil (w : World) : Own w [] w := ⟨Below.refl _ _, List.nodup_nil, fun b T ls h => by cases h⟩
theorem Own.step {w : World} {bs : List xh} : ∀ W W', Own w bs W → eu W W' → Own w bs W' := fun W W' h hb => ⟨bg h.bel hb, h.nd, fun b T ls hm => ⟨(h.box b T ls hm).1, (h.box b T ls hm).2.below hb⟩⟩
theorem Own.add {w W V : World} {bs : List xh} {b : Nat} {T : TypeId} {ls : List ji} (h : Own w bs V) (Ua : eu V W) (hb : V.heap.size ≤ b) (hq : yf W b T ls) : Own w ((b, T, ls) :: bs) W :=
 ⟨bg h.bel Ua, List.nodup_cons.2 ⟨fun hm => by
  obtain ⟨⟨b', T', ls'⟩, hp, he⟩ := List.mem_map.1 hm
  have := (h.box b' T' ls' hp).2.lt
  have : b' = b := he
  omega, h.nd⟩, fun b' T' ls' hm => by
  rcases List.mem_cons.1 hm with e | hm
  ·
   cases e; exact ⟨Nat.le_trans h.bel.size hb, hq⟩
  ·
   exact ((Own.step V W h Ua).box b' T' ls' hm)⟩
theorem Own.push {w W : World} {bs : List xh} {T : TypeId} {ls : List ji} {cs : List Value} (h : Own w bs W) (hv : fo W ls cs) (b : Nat) (hb : b = W.heap.size) : Own w ((b, T, ls) :: bs) (W.alloc (.cells cs.toArray T)) := by
 subst hb
 exact h.add ((Below.refl _ _).alloc (Nat.le_refl _) _) (Nat.le_refl _) ⟨cs, heap_alloc_new W _, hv.below ((Below.refl _ _).alloc (Nat.le_refl _) _)⟩
theorem Own.other {w W : World} {bs : List xh} (o : Obj) (h : Own w bs W) : Own w bs (W.alloc o) := Own.step _ _ h ((Below.refl _ _).alloc (Nat.le_refl _) _)
def setM (W : World) (b off : Nat) : List Value → World
 | [] => W
 | u :: r => setM (W.setCell ⟨b, off, none⟩ u) b (off + 1) r
theorem yh (b : Nat) : ∀ (us : List Value) (off : Nat) (W W' : World), W.grownBy W' (some b) → W.grownBy (setM W' b off us) (some b)
 | [], _, _, _, h => h
 | u :: r, off, W, W', h => yh b r (off + 1) W _ (ll h off u)
theorem aol {W : World} {b off : Nat} {u : Value} {T : TypeId} {cs : Array Value} (h : W.heap[b]? = some (.cells cs T (0, 0))) : (W.setCell ⟨b, off, none⟩ u).heap[b]? = some (.cells (cs.setIfInBounds off u) T (0, 0)) := by
 simp [World.setCell, Array.getElem?_modify, h]
theorem set_mid (c : List Value) (x u : Value) (d : List Value) : ((c ++ x :: d).toArray.setIfInBounds c.length u) = (c ++ u :: d).toArray := by
 simp
theorem Qh {b : Nat} {T : TypeId} : ∀ (us old : List Value) (c d : List Value) (W : World), us.length = old.length → W.heap[b]? = some (.cells (c ++ (old ++ d)).toArray T (0, 0)) → (setM W b c.length us).heap[b]? = some (.cells (c ++ (us ++ d)).toArray T (0, 0))
 | [], [], c, d, W, _, h => h
 | u :: us, o :: old, c, d, W, hl, h => by
  have h1 := aol (off := c.length) (u := u) h
  rw [List.cons_append, set_mid] at h1
  have h2 := Qh us old (c ++ [u]) d _ (by simpa using hl) (by simpa using h1)
  simpa [setM] using h2
 | [], _ :: _, _, _, _, hl, _ => by simp at hl
 | _ :: _, [], _, _, _, hl, _ => by simp at hl
theorem Own.set {w W : World} {xs ys : List xh} {b : Nat} {T : TypeId} {pre old new post : List ji} {us : List Value} {off : Nat} (h : Own w (xs ++ (b, T, pre ++ (old ++ post)) :: ys) W) (hv : fo W new us) (hl : qd new = qd old) (ho : off = qd pre) :
  Own w (xs ++ (b, T, pre ++ (new ++ post)) :: ys) (setM W b off us) := by
 obtain ⟨hge, cs, hb, hls⟩ := h.box b T _ (List.mem_append_right _ List.mem_cons_self)
 obtain ⟨c, cd, rfl, k1, k2⟩ := hls.cut
 obtain ⟨o, d, rfl, k3, k4⟩ := k2.cut
 have hg := yh b us off W W (qo _ _)
 have hnw : Ea (c ++ (o ++ d)) := hls.noW
 have hnd := h.nd
 rw [List.map_append, List.map_cons] at hnd
 have hn : ∀ b' T' q', (b', T', q') ∈ xs ++ ys → b' ≠ b := fun b' T' q' hm e => by
  subst e
  obtain ⟨_, h4, h5⟩ := List.nodup_append.1 hnd
  rcases List.mem_append.1 hm with hm | hm
  ·
   exact h5 b' (List.mem_map.2 ⟨_, hm, rfl⟩) b' List.mem_cons_self rfl
  ·
   exact (List.nodup_cons.1 h4).1 (List.mem_map.2 ⟨_, hm, rfl⟩)
 refine ⟨h.bel.grown hg h.bel.size (fun k hk => by injection hk with hk; omega), by rw [List.map_append, List.map_cons]; exact hnd, fun b' T' q' hm => ?_⟩
 have other : (b', T', q') ∈ xs ++ ys → (b', T', q') ∈ xs ++ (b, T, pre ++ (old ++ post)) :: ys → w.heap.size ≤ b' ∧ yf (setM W b off us) b' T' q' := fun h1 h2 => by
  obtain ⟨g1, cs', g2, g3⟩ := h.box b' T' q' h2
  exact ⟨g1, cs', (hg.block b' (lt_of_block g2) (fun e => hn _ _ _ h1 (by injection e))).trans g2, g3.upto hb hnw hg⟩
 rcases List.mem_append.1 hm with hm | hm
 ·
  exact other (List.mem_append_left _ hm) (List.mem_append_left _ hm)
 ·
  rcases List.mem_cons.1 hm with e | hm
  ·
   cases e
   refine ⟨hge, c ++ (us ++ d), ?_, (((k4.upto hb hnw hg).app (hv.upto hb hnw hg)).app (k1.upto hb hnw hg))⟩
   have := Qh (T := T) us o c d W (by rw [hv.len, hl, ← k3.len]) hb
   rwa [k1.len, ← ho] at this
  ·
   exact other (List.mem_append_right _ hm) (List.mem_append_right _ (List.mem_cons_of_mem _ hm))
theorem aas {W : World} {b off : Nat} {T : TypeId} {ls ks : List ji} {us : List Value} {v : Value} (h : yf W b T ls) (hv : ax ks W v) : ax ks (setM W b off us) v := by
 obtain ⟨cs, h1, h2⟩ := h
 obtain ⟨ds, e, h3⟩ := hv
 exact ⟨ds, e, h3.upto h1 h2.noW (yh b us off W W (qo _ _))⟩
def ay (w : World) (bs : List xh) (V : World) : World → Prop := fun W => Own w bs W ∧ eu V W
theorem ay.step {w V : World} {bs : List xh} : ∀ W W', ay w bs V W → eu W W' → ay w bs V W' := fun W W' h hb => ⟨Own.step W W' h.1 hb, bg h.2 hb⟩
theorem ay.size {w V : World} {bs : List xh} : ∀ W, ay w bs V W → V.heap.size ≤ W.heap.size := fun _ h => h.2.size
theorem ay.start {w V : World} {bs : List xh} (h : Own w bs V) : ay w bs V V.drew := ⟨Own.step _ _ h (eu.drew V), eu.drew V⟩
theorem ay.begin {w V : World} {bs : List xh} (h : Own w bs V) : ay w bs V V := ⟨h, Below.refl _ _⟩
theorem ay.box {w V W : World} {bs : List xh} {b : Nat} {T : TypeId} {ls : List ji} (hm : (b, T, ls) ∈ bs) (h : ay w bs V W) : yf W b T ls := (h.1.box b T ls hm).2
theorem ay.bel {w V W : World} {bs : List xh} (h : ay w bs V W) : Below w.heap.size w W := h.1.bel

def Em (P : Program) (T : TypeId) (n : Nat) : Prop := ∀ (ρ : Operand → Value) (w : World) (d : Option Tmp) (x : Operand) (b off : Nat) (us : List Value) (ty : TypeId) (pos : String) (af : Array Edge) (gd : Option (Nat × Bool)), us.length = n → (∀ i, i < n → w.cell? ⟨b, off + i, none⟩ = us[i]?) → ρ x = .pointer (some ⟨b, off, none⟩) →
 (execOp ρ { dst := d, op := .load T x, type := ty, pos := pos, after := af, guard := gd }).run P w = .ok (.value (.agg us.toArray)) w
theorem Nz {w : World} {b : Nat} {T : TypeId} {c m d : List Value} (h : w.heap[b]? = some (.cells (c ++ (m ++ d)).toArray T (0, 0))) (i : Nat) (hi : i < m.length) : w.cell? ⟨b, c.length + i, none⟩ = m[i]? := by
 rw [ag h]
 simp only [List.getElem?_toArray]
 rw [List.getElem?_append_right om, Nat.add_sub_cancel_left, List.getElem?_append_left hi]
theorem bcr {P : Program} {Q : Exit → Act → World → Prop} {l : List Oper} {n : Nat} {T : Nat → World → Value → Prop} {G : World → Prop} {al : List Nat} {a0 : Act} {k d b off m : Nat} {x : Operand} {TB TL : TypeId} {pre mid post : List ji} {ty : TypeId} {pos : String} {af : Array Edge} {gd : Option (Nat × Bool)}
  (hL : Em P TL m) (hal : al.contains k = false) (hx : Rg.ig l n T a0 k x (Rg.au (.pointer (some ⟨b, off, none⟩)))) (hb : ∀ W, G W → yf W b TB (pre ++ (mid ++ post))) (ho : qd pre = off) (hm : qd mid = m) (hT : T k = ax mid) :
  Rg.Step P Q l n T G eu al a0 k { dst := some d, op := .load TL x, type := ty, pos := pos, after := af, guard := gd } := by
 intro a w hG hO hN
 obtain ⟨cs, h1, h2⟩ := hb w hG
 obtain ⟨c, cd, rfl, k1, k2⟩ := h2.cut
 obtain ⟨o, e, rfl, k3, k4⟩ := k2.cut
 have hlen : o.length = m := by rw [k3.len, hm]
 have hr := hL a.eval w (some d) x b off o ty pos af gd hlen (fun i hi => by
  have := Nz h1 i om
  rwa [k1.len, ho] at this) (hx a w hO hN)
 exact je hr ⟨_, rfl, hG, Below.refl _ _, by rw [hT]; exact ⟨o, rfl, k3⟩, fun h => by rw [hal] at h; cases h⟩
def adh (P : Program) (T : TypeId) : Prop := ∀ (ρ : Operand → Value) (w : World) (d : Option Tmp) (x : Operand) (b off : Nat) (u : Value) (ty : TypeId) (pos : String) (af : Array Edge) (gd : Option (Nat × Bool)), w.cell? ⟨b, off, none⟩ = some u → ρ x = .pointer (some ⟨b, off, none⟩) →
 (execOp ρ { dst := d, op := .load T x, type := ty, pos := pos, after := af, guard := gd }).run P w = .ok (.value u) w
theorem azk {P : Program} {Q : Exit → Act → World → Prop} {l : List Oper} {n : Nat} {T : Nat → World → Value → Prop} {G : World → Prop} {al : List Nat} {a0 : Act} {k d b off : Nat} {x : Operand} {TB TL : TypeId} {pre post : List ji} {u : Value} {ty : TypeId} {pos : String} {af : Array Edge} {gd : Option (Nat × Bool)}
  (hL : adh P TL) (hal : al.contains k = false) (hx : Rg.ig l n T a0 k x (Rg.au (.pointer (some ⟨b, off, none⟩)))) (hb : ∀ W, G W → yf W b TB (pre ++ (.v u :: post))) (ho : qd pre = off) (hT : T k = Rg.au u) :
  Rg.Step P Q l n T G eu al a0 k { dst := some d, op := .load TL x, type := ty, pos := pos, after := af, guard := gd } := by
 intro a w hG hO hN
 obtain ⟨cs, h1, h2⟩ := hb w hG
 obtain ⟨c, cd, rfl, k1, k2⟩ := h2.cut
 obtain ⟨r, rfl, _, k4⟩ := k2.Ev
 have hr := hL a.eval w (some d) x b off u ty pos af gd (by
  have := Nz (m := [u]) (d := r) h1 0 (by simp)
  rw [k1.len, ho] at this; simpa using this) (hx a w hO hN)
 exact je hr ⟨_, rfl, hG, Below.refl _ _, by rw [hT]; rfl, fun h => by rw [hal] at h; cases h⟩
def Ai (P : Program) (T : TypeId) (n : Nat) : Prop := ∀ (ρ : Operand → Value) (w : World) (d : Option Tmp) (p x : Operand) (b off : Nat) (cs : List Value) (TB : TypeId) (us : List Value) (ty : TypeId) (pos : String) (af : Array Edge) (gd : Option (Nat × Bool)), us.length = n → (∀ u ∈ us, u.oneCell' = true) → w.heap[b]? = some (.cells cs.toArray TB (0, 0)) → off + n ≤ cs.length → ρ p = .pointer (some ⟨b, off, none⟩) → ρ x = .agg us.toArray →
 (execOp ρ { dst := d, op := .store T p x, type := ty, pos := pos, after := af, guard := gd }).run P w = .ok .skip (setM w b off us)
end Sb


namespace Sb
theorem Ew {W : World} {x : Rat} {v : Value} (h : ax [.q x] W v) : ∃ s1 n1 A1 c1 l1 s2 n2 A2 c2 l2, v = .agg #[.int .i64 s1, .bool n1, .slice A1 (List.length l1) c1, .int .i64 s2, .bool n2, .slice A2 (List.length l2) c2] ∧ fq W s1 n1 A1 c1 l1 x.num ∧ fq W s2 n2 A2 c2 l2 (x.den : Int) := by
 obtain ⟨cs, rfl, h⟩ := h
 obtain ⟨s1, n1, A1, c1, l1, s2, n2, A2, c2, l2, r, rfl, h1, h2, h3⟩ := h.aww
 cases h3
 exact ⟨_, _, _, _, _, _, _, _, _, _, rfl, h1, h2⟩
theorem Zm {W : World} {n : Int} {v : Value} (h : ax [.z n] W v) : ∃ s1 n1 A1 c1 l1, v = .agg #[.int .i64 s1, .bool n1, .slice A1 (List.length l1) c1] ∧ fq W s1 n1 A1 c1 l1 n := by
 obtain ⟨cs, rfl, h⟩ := h
 obtain ⟨s1, n1, A1, c1, l1, r, rfl, h1, h3⟩ := h.akl
 cases h3
 exact ⟨_, _, _, _, _, rfl, h1⟩
theorem Nb {W : World} {a b : Int} {v : Value} (h : ax [.z a, .z b] W v) : ∃ s1 n1 A1 c1 l1 s2 n2 A2 c2 l2, v = .agg #[.int .i64 s1, .bool n1, .slice A1 (List.length l1) c1, .int .i64 s2, .bool n2, .slice A2 (List.length l2) c2] ∧ fq W s1 n1 A1 c1 l1 a ∧ fq W s2 n2 A2 c2 l2 b := by
 obtain ⟨cs, rfl, h⟩ := h
 obtain ⟨s1, n1, A1, c1, l1, r, rfl, h1, h⟩ := h.akl
 obtain ⟨s2, n2, A2, c2, l2, r, rfl, h2, h⟩ := h.akl
 cases h
 exact ⟨_, _, _, _, _, _, _, _, _, _, rfl, h1, h2⟩
theorem bmb {W : World} {x : Rat} {v : Value} (h : ax [.q x] W v) : ax [.z x.num, .z (x.den : Int)] W v := by
 obtain ⟨s1, n1, A1, c1, l1, s2, n2, A2, c2, l2, rfl, f1, f2⟩ := Ew h
 exact ⟨_, rfl, fo.z f1 (fo.z f2 rfl)⟩
theorem Fs {W : World} {a b : Value} {v : Value} (h : ax [.v a, .v b] W v) : v = .agg #[a, b] := by
 obtain ⟨cs, rfl, h⟩ := h
 obtain ⟨r, rfl, _, h⟩ := h.Ev
 obtain ⟨r, rfl, _, h⟩ := h.Ev
 cases h; rfl
theorem bbk (W : World) {a b : Value} (ha : Kt a) (hb : Kt b) : ax [.v a, .v b] W (.agg #[a, b]) := ⟨[a, b], rfl, fo.v ha (fo.v hb rfl)⟩
theorem Ba (W : World) (a b : Int) : ax [.v (.int .i64 a), .v (.int .i64 b)] W (.agg #[.int .i64 a, .int .i64 b]) := bbk W (kg _) (kg _)
theorem Qr {w w' : World} {q : Rat} {e : Ending} (h : Gf w q.num (q.den : Int) e w') : ib (ax [.q q]) w e w' := by
 obtain ⟨s1, n1, A1, c1, l1, s2, n2, A2, c2, l2, rfl, h1, h2, hb⟩ := h
 exact ⟨_, rfl, hb, _, rfl, fo.q h1 h2 rfl⟩
theorem aam {w w' : World} {z : Int} {e : Ending} (h : Bq w z e w') : ib (ax [.z z]) w e w' := by
 obtain ⟨s1, n1, A1, c1, l1, rfl, h1, hb⟩ := h
 exact ⟨_, rfl, hb, _, rfl, fo.z h1 rfl⟩
theorem aps {w w' : World} {a b : Int} {e : Ending} (h : ib (ax [.z a, .z b]) w e w') : Gf w a b e w' := by
 obtain ⟨u, rfl, hb, h⟩ := h
 obtain ⟨s1, n1, A1, c1, l1, s2, n2, A2, c2, l2, rfl, f1, f2⟩ := Nb h
 exact ⟨_, _, _, _, _, _, _, _, _, _, rfl, f1, f2, hb⟩
theorem Ue {w w' : World} {u : Value} {e : Ending} (h : e = .returned u ∧ Below w.heap.size w w') : ib (Rg.au u) w e w' := ⟨u, h.1, h.2, rfl⟩
theorem ayf {F : Nat} {x q : Rat} {W : World} {v0 : Value} (h : Nf W F x q) (h0 : ax [.q x] W v0) : Calls Tryz.prog F #[v0] W (ib (ax [.q q]) W) := by
 obtain ⟨s1, n1, A1, c1, l1, s2, n2, A2, c2, l2, rfl, f1, f2⟩ := Ew h0
 exact (h _ _ _ _ _ _ _ _ _ _ W (Below.refl _ _) f1 f2).mono fun e w' h => Qr h
theorem aye {F : Nat} {x y q : Rat} {W : World} {v0 v1 : Value} (h : Fw W F x y q) (h0 : ax [.q x] W v0) (h1 : ax [.q y] W v1) : Calls Tryz.prog F #[v0, v1] W (ib (ax [.q q]) W) := by
 obtain ⟨s1, n1, A1, c1, l1, s2, n2, A2, c2, l2, rfl, f1, f2⟩ := Ew h0
 obtain ⟨s3, n3, A3, c3, l3, s4, n4, A4, c4, l4, rfl, f3, f4⟩ := Ew h1
 exact (h _ _ _ _ _ _ _ _ _ _ _ _ _ _ _ _ _ _ _ _ W (Below.refl _ _) f1 f2 f3 f4).mono fun e w' h => Qr h
theorem bfw {F : Nat} {x y q : Int} {W : World} {v0 v1 : Value} (h : Bl W F x y q) (h0 : ax [.z x] W v0) (h1 : ax [.z y] W v1) : Calls Tryz.prog F #[v0, v1] W (ib (ax [.z q]) W) := by
 obtain ⟨s1, n1, A1, c1, l1, rfl, f1⟩ := Zm h0
 obtain ⟨s2, n2, A2, c2, l2, rfl, f2⟩ := Zm h1
 exact (h _ _ _ _ _ _ _ _ _ _ W (Below.refl _ _) f1 f2).mono fun e w' h => aam h
theorem i2 {F : Nat} {x y q : Int} {w W : World} {v0 v1 : Value} (h : Bl w F x y q) (hb : Below w.heap.size w W) (h0 : ax [.z x] W v0) (h1 : ax [.z y] W v1) : Calls Tryz.prog F #[v0, v1] W (ib (ax [.z q]) W) := by
 obtain ⟨s1, n1, A1, c1, l1, rfl, f1⟩ := Zm h0
 obtain ⟨s2, n2, A2, c2, l2, rfl, f2⟩ := Zm h1
 exact (h _ _ _ _ _ _ _ _ _ _ W hb f1 f2).mono fun e w' h => aam h
end Sb

end Go.Proofs.YtfgeaakhlcaibaaGreatDoor
