/- Texts beneath a law of layer 1. -/
import Derived.Test.YtpjgoogeokbaaaaGreatDoorCk9
import Derived.Deep.DeepCutAuto
set_option maxRecDepth 100000
namespace Go.Proofs.YtpjgoogeokbaaaaGreatDoor
open Go.RowKit

set_option maxHeartbeats 1000000 in
theorem axy (A1 : Option Addr) (c1 : Nat) (l1 : List Nat) (m1 : Bool) (A2 : Option Addr) (c2 : Nat) (l2 : List Nat) (m2 : Bool) (d : Int) (w : World) (h2 : bg w A2 c2 l2 m2 d) (hd : d ≠ 0) :
  Calls Tryz.prog 95 #[.agg #[.slice A1 l1.length c1, .bool m1, .slice A2 l2.length c2, .bool m2]] w fun e w' => e = .returned (.agg #[.slice A2 l2.length c2, .bool m2]) ∧ Below w.heap.size w w' := by
 have hl : ¬ l2.length = 0 := fun e => by have := h2.nat.Gm.2 e; omega
 have HI := hide (fun W => Si A2 c2 l2.length m2 W)
 rw [decide_eq_false hl] at HI
 clear h2 hd
 go_enter Tryz.func95, Tryz.ntmps95
 go_wp2_with fail
 obtain ⟨n0, n1, hsz, hw0⟩ := jm w (.cells #[.slice A1 l1.length c1, .bool m1, .slice A2 l2.length c2, .bool m2] 52) (.cells #[.slice none 0 0, .bool false] 50)
 generalize ((w.alloc (.cells #[.slice A1 l1.length c1, .bool m1, .slice A2 l2.length c2, .bool m2] 52)).alloc (.cells #[.slice none 0 0, .bool false] 50)) = W0 at *
 have k2 : W0.cell? ⟨w.heap.size, 2, none⟩ = some (.slice A2 l2.length c2) := ag n0 2
 have k3 : W0.cell? ⟨w.heap.size, 3, none⟩ = some (.bool m2) := ag n0 3
 have q0 : w.heap.size < W0.heap.size := by omega
 have q1 : w.heap.size + 1 < W0.heap.size := by omega
 have r0 : W0.cell? ⟨w.heap.size + 1, 0, none⟩ = some (.slice none 0 0) := ag n1 0
 have r1 : W0.cell? ⟨w.heap.size + 1, 1, none⟩ = some (.bool false) := ag n1 1
 have f0 := ah n1 0
 have f1 := ah n1 1
 clear n0 n1 hsz
 refine ((aa HI) _).mono ?_
 rintro e w' ⟨rfl, hb⟩
 obtain ⟨hc, hfz⟩ := az hb
 have gp : Below w.heap.size w w' := au hw0 hb
 go_wp2_with fail
 exact bodyPost_ret (v := .agg #[.slice A2 l2.length c2, .bool m2]) (by simp [results, Tryz.results95, go_sem, hc, k2, k3, r0, r1, q1]) rfl
  ⟨rfl, gp.grown (fq _ _ _ _) gp.size (fun k hk => by injection hk with hk; omega)⟩

def blr (w : World) (z : Int) (e : Ending) (w' : World) : Prop := ∃ (v : Int) (ok : Bool), e = .returned (.tuple #[.int .i64 v, .bool ok]) ∧ ok = decide (-9223372036854775808 ≤ z ∧ z ≤ 9223372036854775807) ∧ (ok = true → v = z) ∧ Below w.heap.size w w'

theorem Ub (l : List Nat) (h : 0 < l.length) : Wd.val di (l.take 1) = Wd.g l 0 := by
 cases l with
 | nil => simp at h
 | cons a l => simp [Wd.val, Wd.ry, List.getD]
theorem age (l : List Nat) (h : 1 < l.length) : Wd.val di (l.take 2) = Wd.g l 0 + Wd.g l 1 * 2 ^ 32 := by
 cases l with
 | nil => simp at h
 | cons a l => cases l with
  | nil => simp at h
  | cons b l => simp [Wd.val, Wd.ry, List.getD, fo]; omega

set_option maxHeartbeats 1000000 in
theorem Sd (A : Option Addr) (cap : Nat) (l : List Nat) (m : Bool) (z : Int) (w : World) (h : bg w A cap l m z) :
  Calls Tryz.prog 108 #[.agg #[.slice A l.length cap, .bool m]] w fun e w' => blr w z e w' := by
 have hc1 := h.nat.uk; have hc2 := h.nat.cap2
 have hba : Below w.heap.size w (w.alloc (.cells #[.slice A l.length cap, .bool m] 50)) := (Below.refl _ _).alloc (Nat.le_refl _) _
 by_cases hl : l.length ≤ 2
 ·
  have d1 : decide ((2 : Int) < (l.length : Int)) = false := decide_eq_false om
  have hsg := h.sign
  have hn := (h.nat.below hba)
  have hbl := h.nat.Mk
  obtain ⟨n0, hsz, hw0⟩ := Db w (.cells #[.slice A l.length cap, .bool m] 50)
  have HN := hide hn; have HBL := hide hbl; have Gd := Lib.hid hsg; have HW0 := hide hw0
  clear hba hn hbl hsg h hw0
  go_enter Tryz.func108, Tryz.ntmps108
  go_wp2_with fail
  all_goals first | omega | skip
  generalize (w.alloc (.cells #[.slice A l.length cap, .bool m] 50)) = W0 at *
  have k0 : W0.cell? ⟨w.heap.size, 0, none⟩ = some (.slice A l.length cap) := ag n0 0
  have k1 : W0.cell? ⟨w.heap.size, 1, none⟩ = some (.bool m) := ag n0 1
  clear n0 hsz
  go_loop [4, 5] (fun uv iv => ∃ i : Nat, i ≤ l.length ∧ iv = .int .i64 ((i : Nat) : Int) ∧ uv = .int .u64 ((Wd.val di (l.take i) : Nat) : Int)) (fun _ iv => l.length - (intOf iv).toNat)
  case atStart => exact ⟨0, Nat.zero_le _, rfl, rfl⟩
  case round =>
   obtain ⟨i, hi, rfl, rfl⟩ := hrel
   by_cases hlt : i < l.length
   ·
    obtain ⟨b, o, rfl, hbb, hcell⟩ := (aa HN).ws om
    have hx := hcell i hlt
    clear hcell
    obtain ⟨x, Gj⟩ : ∃ x, x = Wd.g l i := ⟨_, rfl⟩
    rw [← Gj] at hx
    have zo : x < di := by rw [Gj]; exact Wd.getD_lt (by rw [fo]; omega) _ (aa HN).lt i
    have e0 : IntKind.u64.wrap (x : Int) = (x : Int) := jf rfl (by rw [fo] at zo; rw [gu]; omega)
    have hi2 : i = 0 ∨ i = 1 := by omega
    rcases hi2 with rfl | rfl
    ·
     have hv : Wd.val di (l.take 1) = x := by rw [Ub l hlt, Gj]
     have hv0 : Wd.val di (l.take 0) = 0 := rfl
     rw [Nat.add_zero] at hx
     rw [hv0]
     have g1 : Go.bits .or .u64 0 (x : Int) = (x : Int) := by
      have := bits_or_u64_nat 0 x om (by rw [fo] at zo; omega)
      simpa using this
     have HV := Lib.hid hv
     clear hv Gj hv0
     go_wp2_with fail
     go_round
     case rel => exact ⟨1, by omega, rfl, by rw [HV.out]⟩
     case measure => simp [intOf] <;> omega
    ·
     have hv : Wd.val di (l.take 2) = Wd.g l 0 + x * 2 ^ 32 := by rw [age l hlt, Gj]
     have hv0 : Wd.val di (l.take 1) = Wd.g l 0 := Ub l om
     have Df : Wd.g l 0 < di := Wd.getD_lt (by rw [fo]; omega) _ (aa HN).lt 0
     obtain ⟨y, Mq⟩ : ∃ x, x = Wd.g l 0 := ⟨_, rfl⟩
     rw [← Mq] at hv hv0 Df
     rw [hv0]
     obtain ⟨p, hp⟩ : ∃ p, p = x * 2 ^ 32 := ⟨_, rfl⟩
     obtain ⟨s, hs⟩ : ∃ s, s = y + p := ⟨_, rfl⟩
     have g0 : IntKind.u64.wrap ((x : Int) * 2 ^ 32) = (p : Int) := jf (by rw [hp]; simp) (by rw [hp]; rw [fo] at zo; rw [gu]; omega)
     have g0' : IntKind.u64.wrap ((x : Int) * 4294967296) = (p : Int) := jf (by rw [hp]; simp) (by rw [hp]; rw [fo] at zo; rw [gu]; omega)
     have g1 : Go.bits .or .u64 (y : Int) (p : Int) = (s : Int) := by
      rw [bits_or_u64_nat y p (by rw [fo] at Df; omega) (by rw [hp]; rw [fo] at zo; omega), hs, hp, Nr (by rw [fo] at Df; omega)]
     rw [← hp, ← hs] at hv
     have HV := Lib.hid hv
     clear hv Gj hv0 Mq hp hs
     go_wp2_with fail
     go_round
     case rel => exact ⟨2, by omega, rfl, by rw [HV.out]⟩
     case measure => simp [intOf] <;> omega
   ·
    have e : i = l.length := by omega
    subst e
    have hv : Wd.val di (l.take l.length) = z.natAbs := by rw [List.take_length]; exact (aa HN).val
    rw [hv]
    obtain ⟨a, ha⟩ : ∃ a, a = z.natAbs := ⟨_, rfl⟩
    have haB : a < dm := by
     have := aa HBL
     have h2 : di ^ l.length ≤ di ^ 2 := Nat.pow_le_pow_right (by rw [fo]; omega) hl
     rw [← ha] at this; rw [gu]; rw [fo] at *; omega
    rw [← ha]
    clear hv hlt
    go_wp2_with fail
    ·
     have hm : m = true := by assumption
     have hz : z < 0 := of_decide_eq_true (Gd.out.symm.trans hm)
     go_ret2
     refine ⟨_, _, rfl, decide_eq_decide.2 om, fun h => ?_, aa HW0⟩
     have h2 := of_decide_eq_true h
     simp only [wrap64, IntKind.wrap_u64]
     omega
    ·
     have hm : ¬ m = true := by rw [show m = false by assumption]; exact Bool.false_ne_true
     have hz : ¬ z < 0 := fun h => hm (Gd.out.trans (decide_eq_true h))
     go_ret2
     refine ⟨_, _, rfl, decide_eq_decide.2 om, fun h => ?_, aa HW0⟩
     have h2 := of_decide_eq_true h
     rw [IntWalk.wrap64_in _ om]
     omega
 ·
  have d1 : decide ((2 : Int) < (l.length : Int)) = true := decide_eq_true om
  have hnot : ¬ (-9223372036854775808 ≤ z ∧ z ≤ 9223372036854775807) := by
   intro hz
   have := h.nat.len (k := 2) (by rw [fo]; omega)
   omega
  have HNO := hide hnot
  clear h hnot
  go_enter Tryz.func108, Tryz.ntmps108
  go_wp2_with fail
  all_goals first | omega | skip
  go_ret2
  exact ⟨0, false, rfl, (decide_eq_false (aa HNO)).symm, (fun h => Bool.noConfusion h), hba⟩
end Go.Proofs.YtpjgoogeokbaaaaGreatDoor
namespace Go.Proofs.YtpjgoogeokbaaaaGreatDoor
open Go.RowKit

set_option maxHeartbeats 1000000 in
theorem Cc (n d : Int) (w : World) :
  Calls Tryz.prog 53 #[.agg #[.int .i64 n, .int .i64 d]] w fun e w' => e = .returned (.bool (decide (Wd.nu n d))) ∧ Below w.heap.size w w' := by
 have hba : Below w.heap.size w (w.alloc (.cells #[.int .i64 n, .int .i64 d] 23)) := (Below.refl _ _).alloc (Nat.le_refl _) _
 have HB := hide hba
 by_cases hr : 1 ≤ d ∧ d ≤ 1000000000000 ∧ -1000000000000 ≤ n ∧ n ≤ 1000000000000
 ·
  obtain ⟨r1, r2, r3, r4⟩ := hr
  have hok : decide (n.natAbs.gcd d.natAbs = 1) = decide (Wd.nu n d) := decide_eq_decide.2 (by
   unfold Wd.nu
   constructor
   ·
    intro h; refine ⟨?_, ?_, ?_, ?_, ?_⟩ <;> first | omega | exact h
   ·
    rintro ⟨_, _, _, _, h⟩; exact h)
  rw [← hok]
  obtain ⟨rb, hrb⟩ : ∃ b, b = decide (n.natAbs.gcd d.natAbs = 1) := ⟨_, rfl⟩
  rw [← hrb]
  have HRB := Lib.hid hrb
  clear hok hba hrb
  have d1 : decide (d < 1) = false := decide_eq_false om
  have d2 : decide (1000000000000 < d) = false := decide_eq_false om
  have d3 : decide (n < -1000000000000) = false := decide_eq_false om
  have d4 : decide (1000000000000 < n) = false := decide_eq_false om
  have en : IntKind.i64.wrap (-n) = -n := IntWalk.i64_in _ om
  obtain ⟨a, ha⟩ : ∃ a, a = n.natAbs := ⟨_, rfl⟩
  obtain ⟨b, hb⟩ : ∃ b, b = d.natAbs := ⟨_, rfl⟩
  go_enter Tryz.func53, Tryz.ntmps53
  go_wp2_with fail
  all_goals first | omega | skip
  all_goals go_quiet (fail)
  all_goals go_wp2_with fail
  all_goals
   have HRR := hide (And.intro r1 (And.intro r2 (And.intro r3 r4)))
   go_loopw [3, 4] (fun av bv wr => ∃ (a b : Nat), av = .int .i64 ((a : Nat) : Int) ∧ bv = .int .i64 ((b : Nat) : Int) ∧ a ≤ 1000000000000 ∧ b ≤ 1000000000000 ∧ Hid (a.gcd b = n.natAbs.gcd d.natAbs) ∧ Below w.heap.size w wr) (fun _ bv _ => (intOf bv).toNat)
   case atStart =>
    refine ⟨n.natAbs, d.natAbs, ?_, ?_, by omega, by omega, rfl, by first | exact aa HB | exact (aa HB).drew | exact qd (aa HB) _⟩
    ·
     show Value.int .i64 _ = Value.int .i64 _
     congr 1; omega
    ·
     show Value.int .i64 _ = Value.int .i64 _
     congr 1; omega
   case round =>
    obtain ⟨a, b, rfl, rfl, ha, hb, HG, hbl⟩ := hrel
    by_cases h0 : b = 0
    ·
     subst h0
     have hg := HG.out
     rw [Nat.gcd_zero_right] at hg
     have hres : ((a : Int) == 1) = rb := by
      rw [HRB.out]
      by_cases h : a = 1
      ·
       exact (show ((a : Int) == 1) = true by rw [h]; rfl).trans (decide_eq_true (hg.symm.trans h)).symm
      ·
       exact (show ((a : Int) == 1) = false from beq_eq_false_iff_ne.2 om).trans (decide_eq_false (fun e => h (hg.trans e))).symm
     have aeb := Lib.hid hres
     clear hg hres
     go_wp2_with fail
     all_goals first | omega | skip
     go_ret
     exact ⟨by rw [← aeb.out]; rfl, hbl⟩
    ·
     have dp : decide ((0 : Int) < (b : Int)) = true := decide_eq_true om
     have dp' : decide (0 < b) = true := decide_eq_true om
     have e1 : ((a : Int)).tmod (b : Int) = ((a % b : Nat) : Int) := (Int.ofNat_tmod _ _).symm
     have e2 : ((b : Int) == 0) = false := beq_eq_false_iff_ne.2 om
     have e3 : ¬ ((b : Int) = 0) := by omega
     have hm := Nat.mod_lt a (Nat.pos_of_ne_zero h0)
     obtain ⟨r, hr⟩ : ∃ r, r = a % b := ⟨_, rfl⟩
     rw [← hr] at e1 hm
     have e4 : IntKind.i64.wrap (r : Int) = (r : Int) := IntWalk.i64_in _ om
     have hgg : b.gcd r = n.natAbs.gcd d.natAbs := by
      rw [← HG.out, hr, Nat.gcd_comm b (a % b), ← Nat.gcd_rec b a, Nat.gcd_comm]
     have HGG := Lib.hid hgg
     clear hgg hr HG
     go_wp2_with fail
     all_goals first | omega | skip
     go_quiet (fail)
     go_wp2_with fail
     go_roundw
     case rel => exact ⟨b, r, by go_num, by go_num, by omega, by omega, HGG, by first | exact hbl | exact hbl.drew | exact qd hbl _⟩
     case measure => simp [intOf] <;> omega
 ·
  have hok : decide (Wd.nu n d) = false := decide_eq_false (by
   unfold Wd.nu
   rintro ⟨a1, a2, a3, a4, _⟩
   exact hr ⟨by omega, by omega, by omega, by omega⟩)
  rw [hok]
  clear hok hba
  go_enter Tryz.func53, Tryz.ntmps53
  go_wp2_with fail
  all_goals first | omega | skip
  all_goals
   go_ret
   exact ⟨rfl, aa HB⟩
end Go.Proofs.YtpjgoogeokbaaaaGreatDoor
namespace Go.Proofs.YtpjgoogeokbaaaaGreatDoor
open Go.RowKit

end Go.Proofs.YtpjgoogeokbaaaaGreatDoor
namespace Go.Proofs.YtpjgoogeokbaaaaGreatDoor
open Go.RowKit

def xx (w : World) (b : Nat) (z : Int) : Prop := ∃ A cap l m, w.heap[b]? = some (.cells #[.slice A (List.length l) cap, .bool m] 50 (0, 0)) ∧ bg w A cap l m z
theorem xx.below {w w' : World} {b : Nat} {z : Int} (h : xx w b z) (hb : Below w.heap.size w w') : xx w' b z := by
 obtain ⟨A, cap, l, m, h1, h2⟩ := h
 exact ⟨A, cap, l, m, (hb.block _ (lt_of_block h1)).trans h1, h2.below hb⟩
theorem xx.lt {w : World} {b : Nat} {z : Int} (h : xx w b z) : b < w.heap.size := by
 obtain ⟨A, cap, l, m, h1, _⟩ := h; exact lt_of_block h1
theorem xx.put {w : World} {b : Nat} {z0 z : Int} {A : Option Addr} {cap : Nat} {l : List Nat} {m : Bool} (h : xx w b z0) (hf : bg w A cap l m z) :
  xx ((w.setCell ⟨b, 0, none⟩ (.slice A l.length cap)).setCell ⟨b, 1, none⟩ (.bool m)) b z := by
 obtain ⟨A0, c0, l0, m0, h1, _⟩ := h
 exact ⟨A, cap, l, m, Ea h1, hf.upto h1 (Ck _ _ _ _) (fq _ _ _ _)⟩
theorem xx.other {w : World} {b b' : Nat} {z z' : Int} (u0 u1 : Value) (h : xx w b z) (hb : xx w b' z') (hne : b ≠ b') : xx ((w.setCell ⟨b', 0, none⟩ u0).setCell ⟨b', 1, none⟩ u1) b z := by
 obtain ⟨A, cap, l, m, h1, h2⟩ := h
 obtain ⟨A0, c0, l0, m0, h3, _⟩ := hb
 have hg := fq w b' u0 u1
 exact ⟨A, cap, l, m, (hg.block b (lt_of_block h1) (fun e => hne (by injection e))).trans h1, h2.upto h3 (Ck _ _ _ _) hg⟩
theorem bg.put {w : World} {b : Nat} {z z' : Int} {A : Option Addr} {cap : Nat} {l : List Nat} {m : Bool} (u0 u1 : Value) (hf : bg w A cap l m z) (hb : xx w b z') : bg ((w.setCell ⟨b, 0, none⟩ u0).setCell ⟨b, 1, none⟩ u1) A cap l m z := by
 obtain ⟨A0, c0, l0, m0, h1, _⟩ := hb
 exact hf.upto h1 (Ck _ _ _ _) (fq _ _ _ _)

structure Uw (w W : World) (n d : Int) : Prop where
 bn : xx W w.heap.size n
 bd : xx W (w.heap.size + 1) d
 bq : W.heap[w.heap.size + 1 + 1]? = some (.cells #[.slice none 0 0, .bool false, .slice none 0 0, .bool false] 52 (0, 0))
 hb : Below w.heap.size w W
theorem Uw.below {w W W' : World} {n d : Int} (h : Uw w W n d) (hb : Below W.heap.size W W') : Uw w W' n d :=
 ⟨h.bn.below hb, h.bd.below hb, (hb.block _ (lt_of_block h.bq)).trans h.bq, au h.hb hb⟩
theorem Uw.put {w W : World} {n d n' d' : Int} {A1 : Option Addr} {c1 : Nat} {l1 : List Nat} {m1 : Bool} {A2 : Option Addr} {c2 : Nat} {l2 : List Nat} {m2 : Bool} (h : Uw w W n d) (h1 : bg W A1 c1 l1 m1 n') (h2 : bg W A2 c2 l2 m2 d') :
  Uw w ((((W.setCell ⟨w.heap.size, 0, none⟩ (.slice A1 l1.length c1)).setCell ⟨w.heap.size, 1, none⟩ (.bool m1)).setCell ⟨w.heap.size + 1, 0, none⟩ (.slice A2 l2.length c2)).setCell ⟨w.heap.size + 1, 1, none⟩ (.bool m2)) n' d' := by
 have a1 := h.bn.put h1
 have a2 := h.bd.other (.slice A1 l1.length c1) (.bool m1) h.bn om
 have a3 := h2.put (.slice A1 l1.length c1) (.bool m1) h.bn
 have g1 := fq W w.heap.size (.slice A1 l1.length c1) (.bool m1)
 generalize ((W.setCell ⟨w.heap.size, 0, none⟩ (.slice A1 l1.length c1)).setCell ⟨w.heap.size, 1, none⟩ (.bool m1)) = W1 at *
 have b1 := a2.put a3
 have b2 := a1.other (.slice A2 l2.length c2) (.bool m2) a2 om
 have g2 := fq W1 (w.heap.size + 1) (.slice A2 l2.length c2) (.bool m2)
 have q1 := (g1.block _ (lt_of_block h.bq) (fun e => by injection e with e; omega)).trans h.bq
 exact ⟨b2, b1, (g2.block _ (lt_of_block q1) (fun e => by injection e with e; omega)).trans q1,
  (h.hb.grown g1 h.hb.size (fun k hk => by injection hk with hk; omega)).grown g2 (by have := g1.size; have := h.hb.size; omega) (fun k hk => by injection hk with hk; omega)⟩

theorem Uw.keep {w W : World} {n d : Int} (u0 u1 u2 u3 : Value) {A : Option Addr} {cap : Nat} {l : List Nat} {m : Bool} {z : Int} (h : Uw w W n d) (x : bg W A cap l m z) :
  bg ((((W.setCell ⟨w.heap.size, 0, none⟩ u0).setCell ⟨w.heap.size, 1, none⟩ u1).setCell ⟨w.heap.size + 1, 0, none⟩ u2).setCell ⟨w.heap.size + 1, 1, none⟩ u3) A cap l m z :=
 (x.put u0 u1 h.bn).put u2 u3 (h.bd.other u0 u1 h.bn om)

def QR (w : World) (q : Rat) (e : Ending) (w' : World) : Prop := ∃ A1 c1 l1 m1 A2 c2 l2 m2, e = .returned (.agg #[.slice A1 (List.length l1) c1, .bool m1, .slice A2 (List.length l2) c2, .bool m2]) ∧ bg w' A1 c1 l1 m1 q.num ∧ bg w' A2 c2 l2 m2 (q.den : Int) ∧ Below w.heap.size w w'

theorem aqf (n d : Int) (hd : 0 < d) : (Rat.divInt n d).num = (if decide (n < 0) = true then -((n.natAbs / (n.natAbs.gcd d.natAbs) : Nat) : Int) else ((n.natAbs / (n.natAbs.gcd d.natAbs) : Nat) : Int)) ∧ ((Rat.divInt n d).den : Int) = ((d.natAbs / (n.natAbs.gcd d.natAbs) : Nat) : Int) := by
 obtain ⟨h1, h2⟩ := Wd.Hw n d om
 rw [Int.sign_eq_one_of_pos hd, Int.one_mul] at h1 h2
 rw [h1, h2]
 generalize n.natAbs.gcd d.natAbs = g
 constructor
 ·
  by_cases hn : n < 0
  ·
   rw [if_pos (decide_eq_true hn)]
   obtain ⟨k, hk⟩ : ∃ k : Nat, n = -(k : Int) := ⟨n.natAbs, by omega⟩
   subst hk
   rw [Int.neg_tdiv, Int.natAbs_neg, Int.natAbs_natCast, Int.ofNat_tdiv]
  ·
   rw [if_neg (by simpa using hn)]
   obtain ⟨k, hk⟩ : ∃ k : Nat, n = (k : Int) := ⟨n.natAbs, by omega⟩
   subst hk
   rw [Int.natAbs_natCast, Int.ofNat_tdiv]
 ·
  obtain ⟨k, hk⟩ : ∃ k : Nat, d = (k : Int) := ⟨d.natAbs, by omega⟩
  subst hk
  rw [Int.natAbs_natCast, Int.ofNat_tdiv]
theorem afv (n d : Int) (hd : d ≠ 0) : Rat.divInt (-n) (-d) = Rat.divInt n d := by
 rw [Rat.divInt_eq_divInt_iff om hd, Int.neg_mul, Int.mul_neg]
end Go.Proofs.YtpjgoogeokbaaaaGreatDoor
namespace Go.Proofs.YtpjgoogeokbaaaaGreatDoor
open Go.RowKit

set_option maxHeartbeats 8000000 in
theorem Sg (A1 : Option Addr) (c1 : Nat) (l1 : List Nat) (m1 : Bool) (n : Int) (A2 : Option Addr) (c2 : Nat) (l2 : List Nat) (m2 : Bool) (d : Int) (K : Nat) (w : World) (h1 : bg w A1 c1 l1 m1 n) (h2 : bg w A2 c2 l2 m2 d) (hd : d ≠ 0) (hn : n.natAbs < di ^ K) (hdK : d.natAbs < di ^ K) (hK : K + 1 ≤ 35184372088832) :
  Calls Tryz.prog 92 #[.agg #[.slice A1 l1.length c1, .bool m1], .agg #[.slice A2 l2.length c2, .bool m2]] w fun e w' => QR w (Rat.divInt n d) e w' := by
 have hl : ¬ l2.length = 0 := fun e => by have := h2.nat.Gm.2 e; omega
 have HI := hide (fun W => Si A2 c2 l2.length m2 W)
 rw [decide_eq_false hl] at HI
 obtain ⟨n', d', q, hq, hq2, hd', hn', bkm, hneg⟩ : ∃ (n' d' : Int) (q : Rat), q = Rat.divInt n d ∧ q = Rat.divInt n' d' ∧ 0 < d' ∧ n'.natAbs < di ^ K ∧ d'.natAbs < di ^ K ∧ ((m2 = true ∧ n' = -n ∧ d' = -d) ∨ (m2 = false ∧ n' = n ∧ d' = d)) := by
  by_cases h : d < 0
  ·
   exact ⟨-n, -d, _, rfl, (afv n d hd).symm, by omega, by rw [Int.natAbs_neg]; exact hn, by rw [Int.natAbs_neg]; exact hdK, .inl ⟨by rw [h2.sign]; exact decide_eq_true h, rfl, rfl⟩⟩
  ·
   exact ⟨n, d, _, rfl, rfl, by omega, hn, hdK, .inr ⟨by rw [h2.sign]; exact decide_eq_false h, rfl, rfl⟩⟩
 rw [← hq]
 have HQ2 := Lib.hid hq2
 have HDP := hide hd'; have HNK := hide hn'; have HDK := hide bkm; have aqz := hide hneg; have HK := hide hK
 have H1 := hide h1; have H2 := hide h2
 have HN1 := hide (fun W (hW : Below w.heap.size w W) => Xe A1 c1 l1 m1 n W (h1.below hW))
 have HN2 := hide (fun W (hW : Below w.heap.size w W) => Xe A2 c2 l2 m2 d W (h2.below hW))
 clear h1 h2 hd hn hdK hl hq hq2 hd' hn' bkm hneg hK
 go_enter Tryz.func92, Tryz.ntmps92
 go_wp2_with fail
 obtain ⟨n0, n1, n2, hsz, hw0⟩ := ll w (.cells #[.slice A1 l1.length c1, .bool m1] 50) (.cells #[.slice A2 l2.length c2, .bool m2] 50) (.cells #[.slice none 0 0, .bool false, .slice none 0 0, .bool false] 52)
 generalize (((w.alloc (.cells #[.slice A1 l1.length c1, .bool m1] 50)).alloc (.cells #[.slice A2 l2.length c2, .bool m2] 50)).alloc (.cells #[.slice none 0 0, .bool false, .slice none 0 0, .bool false] 52)) = W0 at *
 have hS0 : Uw w W0 n d := ⟨⟨_, _, _, _, n0, (aa H1).below hw0⟩, ⟨_, _, _, _, n1, (aa H2).below hw0⟩, n2, hw0⟩
 refine ((aa HI) _).mono ?_
 rintro e W1 ⟨rfl, hb⟩
 have hS1 := hS0.below hb
 have j0 := (hb.block _ (lt_of_block n0)).trans n0
 have j1 := (hb.block _ (lt_of_block n1)).trans n1
 have hw1 := au hw0 hb
 clear hS0 hb n0 n1 n2 hw0 hsz HI
 have k0 : W1.cell? ⟨w.heap.size, 0, none⟩ = some (.slice A1 l1.length c1) := ag j0 0
 have k1 : W1.cell? ⟨w.heap.size, 1, none⟩ = some (.bool m1) := ag j0 1
 have k2 : W1.cell? ⟨w.heap.size + 1, 0, none⟩ = some (.slice A2 l2.length c2) := ag j1 0
 have k3 : W1.cell? ⟨w.heap.size + 1, 1, none⟩ = some (.bool m2) := ag j1 1
 have HS := hide hS1; have J := hide (And.intro j0 j1); have HW1 := Lib.hid hw1
 clear hS1 hw1 j0 j1
 go_upto_if 14 with (fail)
 go_cut [] (fun wx => Uw w wx n' d')
 case first =>
  rcases aa aqz with ⟨e1, e2, e3⟩ | ⟨e1, e2, e3⟩
  ·
   subst e1 e2 e3
   have q0 : w.heap.size < W1.heap.size := lt_of_block (aa J).1
   have q1 : w.heap.size + 1 < W1.heap.size := lt_of_block (aa J).2
   have KEEP : ∀ X, Below W1.heap.size W1 X → (fun w' => w'.cell? ⟨w.heap.size, 0, none⟩ = some (.slice A1 l1.length c1) ∧ w'.cell? ⟨w.heap.size, 1, none⟩ = some (.bool m1) ∧ w'.cell? ⟨w.heap.size + 1, 0, none⟩ = some (.slice A2 l2.length c2) ∧ w'.cell? ⟨w.heap.size + 1, 1, none⟩ = some (.bool true)) X := fun X hX => ⟨(hX.cell (p := ⟨w.heap.size, 0, none⟩) q0).trans k0, (hX.cell (p := ⟨w.heap.size, 1, none⟩) q0).trans k1, (hX.cell (p := ⟨w.heap.size + 1, 0, none⟩) q1).trans k2, (hX.cell (p := ⟨w.heap.size + 1, 1, none⟩) q1).trans k3⟩
   have HKE := hide KEEP
   have f0 := ah (aa J).1 0
   have f1 := ah (aa J).1 1
   have f2 := ah (aa J).2 0
   have f3 := ah (aa J).2 1
   clear aqz KEEP
   go_wp2_with fail
   go_region_with (first | (go_at_call_of 138 (Value.agg #[.slice A1 l1.length c1, .bool m1]); refine ((aa HN1) _ (au HW1.out (by (first | with_reducible assumption | (repeat (first | with_reducible exact Below.refl _ _ | with_reducible assumption | refine Below.drew ?_ | (refine Below.alloc ?_ (by simp <;> omega) _))))))).mono ?_; rintro e w' ⟨A5, c5, l5, m5, rfl, bki, hb⟩; (try (first | replace kz := bg.below kz hb | replace kz := (bg.below kz (Below.drew (Below.refl _ _))).below hb)); (try (first | replace og := bg.below og hb | replace og := (bg.below og (Below.drew (Below.refl _ _))).below hb)); have kz := bki; clear bki; have hbw := ay (w := W1) (by (first | with_reducible assumption | (repeat (first | with_reducible exact Below.refl _ _ | with_reducible assumption | refine Below.drew ?_ | (refine Below.alloc ?_ (by simp <;> omega) _))))) hb; obtain ⟨hc, hfz⟩ := az hbw) | (go_at_call_of 138 (Value.agg #[.slice A2 l2.length c2, .bool true]); refine ((aa HN2) _ (au HW1.out (by (first | with_reducible assumption | (repeat (first | with_reducible exact Below.refl _ _ | with_reducible assumption | refine Below.drew ?_ | (refine Below.alloc ?_ (by simp <;> omega) _))))))).mono ?_; rintro e w' ⟨A6, c6, l6, m6, rfl, bkh, hb⟩; (try (first | replace kz := bg.below kz hb | replace kz := (bg.below kz (Below.drew (Below.refl _ _))).below hb)); (try (first | replace og := bg.below og hb | replace og := (bg.below og (Below.drew (Below.refl _ _))).below hb)); have og := bkh; clear bkh; have hbw := ay (w := W1) (by (first | with_reducible assumption | (repeat (first | with_reducible exact Below.refl _ _ | with_reducible assumption | refine Below.drew ?_ | (refine Below.alloc ?_ (by simp <;> omega) _))))) hb; obtain ⟨hc, hfz⟩ := az hbw))
   all_goals
    go_wp2_with fail
    go_meet
    case rel =>
     have HS9 := (aa HS).below hbw
     exact HS9.put kz og
  ·
   subst e1 e2 e3
   clear aqz
   go_wp2_with fail
   go_meet
   case rel => exact aa HS
 case rest =>
  clear aqz k0 k1 k2 k3 HS J HW1 HN1 HN2 H1 H2
  obtain ⟨⟨A3, c3, l3, m3, kn, fn⟩, ⟨A4, c4, l4, m4, kd, fd⟩, kq, hb⟩ := hcut
  have w0 : wc.cell? ⟨w.heap.size, 0, none⟩ = some (.slice A3 l3.length c3) := ag kn 0
  have w1 : wc.cell? ⟨w.heap.size, 1, none⟩ = some (.bool m3) := ag kn 1
  have w2 : wc.cell? ⟨w.heap.size + 1, 0, none⟩ = some (.slice A4 l4.length c4) := ag kd 0
  have w3 : wc.cell? ⟨w.heap.size + 1, 1, none⟩ = some (.bool m4) := ag kd 1
  have p0 : wc.cell? ⟨w.heap.size + 1 + 1, 0, none⟩ = some (.slice none 0 0) := ag kq 0
  have p1 : wc.cell? ⟨w.heap.size + 1 + 1, 1, none⟩ = some (.bool false) := ag kq 1
  have p2 : wc.cell? ⟨w.heap.size + 1 + 1, 2, none⟩ = some (.slice none 0 0) := ag kq 2
  have p3 : wc.cell? ⟨w.heap.size + 1 + 1, 3, none⟩ = some (.bool false) := ag kq 3
  have u0 := ah kn 0; have u1 := ah kn 1; have u2 := ah kd 0; have u3 := ah kd 1
  have v0 := ah kq 0; have v1 := ah kq 1; have v2 := ah kq 2; have v3 := ah kq 3
  have q0 := lt_of_block kn; have q1 := lt_of_block kd; have q2 := lt_of_block kq
  have hSW : Uw w wc n' d' := ⟨⟨A3, c3, l3, m3, kn, fn⟩, ⟨A4, c4, l4, m4, kd, fd⟩, kq, hb⟩
  have ho := Yv A4 c4 l4 m4 d' wc fd
  have FN := hide fn; have FD := hide fd; have KQ := Lib.hid kq; have HB := hide hb; have HSW := hide hSW
  obtain ⟨Dp, hden⟩ := aqf n' d' (aa HDP)
  rw [← HQ2.out] at Dp hden
  obtain ⟨g, hg⟩ : ∃ g, g = n'.natAbs.gcd d'.natAbs := ⟨_, rfl⟩
  rw [← hg] at Dp hden
  have aqy := Lib.hid Dp.symm; have arb := Lib.hid hden.symm; have HGG := Lib.hid hg
  clear kn kd kq fn fd hb hSW Dp hden
  by_cases hd1 : d' = 1
  ·
   rw [decide_eq_true hd1] at ho
   have HO := hide ho
   have hg1 : g = 1 := by rw [hg, hd1]; simp
   have e1 : q.num = n' := by
    rw [← aqy.out, hg1, Nat.div_one]
    by_cases h : n' < 0
    ·
     rw [if_pos (decide_eq_true h)]; omega
    ·
     rw [if_neg (by simpa using h)]; omega
   have e2 : (q.den : Int) = d' := by
    rw [← arb.out, hg1, Nat.div_one]; have := aa HDP; omega
   have E := hide (And.intro e1 e2)
   clear ho hg hg1 hd1 e1 e2
   go_wp2_with fail
   refine (aa HO).mono ?_
   rintro e W2 ⟨rfl, hb2⟩
   obtain ⟨hc, hfz⟩ := az hb2
   have hblk := (hb2.block _ q2).trans KQ.out
   have jd := Lib.hid hblk; have HB2 := hide hb2
   clear hblk hb2
   go_wp2_with fail
   exact bodyPost_ret (v := .agg #[.slice A3 l3.length c3, .bool m3, .slice A4 l4.length c4, .bool m4]) (by simp [results, Tryz.results92, go_sem, hc, p0, p1, p2, p3, q2]) rfl
    ⟨A3, c3, l3, m3, A4, c4, l4, m4, rfl, by rw [(aa E).1]; exact ((aa FN).below (aa HB2)).upto jd.out (qy _ _ _ _ _ _ _ _) (ig _ _ _ _ _ _), by rw [(aa E).2]; exact ((aa FD).below (aa HB2)).upto jd.out (qy _ _ _ _ _ _ _ _) (ig _ _ _ _ _ _), (au (aa HB) (aa HB2)).grown (ig _ _ _ _ _ _) (au (aa HB) (aa HB2)).size (fun k hk => by injection hk with hk; omega)⟩
  ·
   rw [decide_eq_false hd1] at ho
   have hdv := fun W (hW : Below wc.heap.size wc W) => alx A3 A4 c3 c4 l3 l4 n'.natAbs d'.natAbs K W ((aa FN).nat.below hW) ((aa FD).nat.below hW) (aa HNK) (aa HDK) (aa HK)
   rw [← hg] at hdv
   have HO := hide ho; have HDV := hide hdv
   have hg0 : 0 < g := by rw [hg]; exact Nat.gcd_pos_of_pos_right _ (by have := aa HDP; omega)
   have hgl : g ≤ d'.natAbs := by rw [hg]; exact Nat.gcd_le_right _ (by have := aa HDP; omega)
   have HG0 := hide hg0; have HGL := hide hgl
   have hln := (aa FN).nat.len (aa HNK); have hld := (aa FD).nat.len (aa HDK)
   have HLN := hide hln; have HLD := hide hld
   clear ho hdv hg hg0 hgl hd1 hln hld
   go_wp2_with fail
   refine (aa HO).mono ?_
   rintro e W2 ⟨rfl, hb2⟩
   obtain ⟨hc2, hf2⟩ := az hb2
   have HB2 := hide hb2
   clear hb2
   go_wp2_with fail
   refine ((aa HDV) _ (aa HB2)).mono ?_
   rintro e W3 ⟨A5, c5, l5, rfl, h5, hb3⟩
   have Oq := au (aa HB2) hb3
   replace hb3 := Oq
   obtain ⟨hc3, hf3⟩ := az hb3
   have hlg := h5.len (Nat.lt_of_le_of_lt (aa HGL) (aa HDK))
   have H5 := hide h5; have HLG := hide hlg; have HB3 := hide hb3
   clear hc2 hf2 Oq hlg HDV HO HB2
   by_cases hl5 : l5.length = 1
   ·
    obtain ⟨b5, o5, rfl, hb5, hc5⟩ := h5.ws om
    have hcell := hc5 0 om
    rw [Nat.add_zero, show Wd.g l5 0 = g by rw [Sn di l5 hl5]; exact h5.val] at hcell
    have bui : ((l5.length : Int) != 1) = false := by rw [hl5]; rfl
    have cfr : 0 < l5.length := by omega
    have hcap := h5.uk; have hcap2 := h5.cap2
    by_cases hg1 : g = 1
    ·
     have e1 : q.num = n' := by
      rw [← aqy.out, hg1, Nat.div_one]
      by_cases h : n' < 0
      ·
       rw [if_pos (decide_eq_true h)]; omega
      ·
       rw [if_neg (by simpa using h)]; omega
     have e2 : (q.den : Int) = d' := by
      rw [← arb.out, hg1, Nat.div_one]; have := aa HDP; omega
     have E := hide (And.intro e1 e2)
     have hblk := (hb3.block _ q2).trans KQ.out
     have jd := Lib.hid hblk
     rw [hg1] at hcell
     clear hblk hg1 e1 e2 h5 hc5 hb3 hl5 hb5
     go_wp2_with fail
     exact bodyPost_ret (v := .agg #[.slice A3 l3.length c3, .bool m3, .slice A4 l4.length c4, .bool m4]) (by simp [results, Tryz.results92, go_sem, hc3, p0, p1, p2, p3, q2]) rfl
      ⟨A3, c3, l3, m3, A4, c4, l4, m4, rfl, by rw [(aa E).1]; exact ((aa FN).below (aa HB3)).upto jd.out (qy _ _ _ _ _ _ _ _) (ig _ _ _ _ _ _), by rw [(aa E).2]; exact ((aa FD).below (aa HB3)).upto jd.out (qy _ _ _ _ _ _ _ _) (ig _ _ _ _ _ _), (au (aa HB) (aa HB3)).grown (ig _ _ _ _ _ _) (au (aa HB) (aa HB3)).size (fun k hk => by injection hk with hk; omega)⟩
    ·
     have hgb : ((g : Int) == 1) = false := beq_eq_false_iff_ne.2 om
     have cfw : ((g : Int) != 1) = true := by simp; omega
     obtain ⟨AG, hAG⟩ : ∃ A : Option Addr, A = some ⟨b5, o5, none⟩ := ⟨_, rfl⟩
     have hp1 := Gi A3 (some ⟨b5, o5, none⟩) c3 c5 l3 l5 n'.natAbs g W3 ((aa FN).nat.below hb3) (aa H5) (aa HG0) (by have := aa HLN; have := aa HK; omega) (by have := aa HLG; have := aa HK; omega)
     have HP1 := hide hp1
     clear hg1 h5 hc5 hb3 hl5 hb5 hp1 hAG AG
     go_wp2_with fail
     refine (aa HP1).mono ?_
     rintro e W4 ⟨A6, c6, l6, A7, c7, l7, rfl, h6, h7, hb4⟩
     have Tn := au (aa HB3) hb4
     have h5' := (aa H5).below hb4
     obtain ⟨hc4, hf4⟩ := az Tn
     have hp2 := Gi A4 (some ⟨b5, o5, none⟩) c4 c5 l4 l5 d'.natAbs g W4 ((aa FD).nat.below Tn) h5' (aa HG0) (by have := aa HLD; have := aa HK; omega) (by have := aa HLG; have := aa HK; omega)
     have HP2 := hide hp2; have H6 := hide h6; have HB4 := hide Tn
     clear hp2 h6 h7 hb4 Tn h5' hc3 hf3 HP1
     go_wp2_with fail
     refine (aa HP2).mono ?_
     rintro e W5 ⟨A8, c8, l8, A9, c9, l9, rfl, h8, h9, hb5⟩
     have Yb := au (aa HB4) hb5
     obtain ⟨hc5, kz⟩ := az Yb
     have hs1 := Bf A6 c6 l6 (n'.natAbs / g) m3 W5 ((aa H6).below hb5)
     have Jg : (if m3 = true then -((n'.natAbs / g : Nat) : Int) else ((n'.natAbs / g : Nat) : Int)) = q.num := by rw [(aa FN).sign]; exact aqy.out
     rw [Jg] at hs1
     have pz := hide hs1; have H8 := hide h8; have HB5 := hide Yb
     clear hs1 h8 h9 hb5 Yb hc4 hf4 Jg HP2
     go_wp2_with fail
     refine (aa pz).mono ?_
     rintro e W6 ⟨Ae, c10, l10, m10, rfl, h10, hb6⟩
     have Ya := au (aa HB5) hb6
     obtain ⟨hc6, og⟩ := az Ya
     have hs2 := Bf A8 c8 l8 (d'.natAbs / g) false W6 ((aa H8).below hb6)
     rw [if_neg Bool.false_ne_true, arb.out] at hs2
     have HS2 := hide hs2; have Gg := hide h10; have HB6 := hide Ya
     clear hs2 h10 hb6 Ya hc5 kz pz
     go_wp2_with fail
     refine (aa HS2).mono ?_
     rintro e W7 ⟨Fv, c11, Fq, m11, rfl, h11, yf⟩
     have Xz := au (aa HB6) yf
     obtain ⟨hc7, Au⟩ := az Xz
     have ajo := (aa HSW).below Xz
     have Yi := hide ajo
     have alf := hide ((aa Gg).below yf); have Vf := hide h11
     clear h11 yf Xz hc6 og ajo HS2
     go_wp2_with fail
     have hS9 := (aa Yi).put (aa alf) (aa Vf)
     have hk1 := (aa Yi).keep (.slice Ae l10.length c10) (.bool m10) (.slice Fv Fq.length c11) (.bool m11) (aa alf)
     have hk2 := (aa Yi).keep (.slice Ae l10.length c10) (.bool m10) (.slice Fv Fq.length c11) (.bool m11) (aa Vf)
     exact bodyPost_ret (v := .agg #[.slice Ae l10.length c10, .bool m10, .slice Fv Fq.length c11, .bool m11]) (by simp [results, Tryz.results92, go_sem, hc7, p0, p1, p2, p3, q2]) rfl
      ⟨Ae, c10, l10, m10, Fv, c11, Fq, m11, rfl, hk1.upto hS9.bq (qy _ _ _ _ _ _ _ _) (ig _ _ _ _ _ _), hk2.upto hS9.bq (qy _ _ _ _ _ _ _ _) (ig _ _ _ _ _ _), hS9.hb.grown (ig _ _ _ _ _ _) hS9.hb.size (fun k hk => by injection hk with hk; omega)⟩
   ·
    have bui : ((l5.length : Int) != 1) = true := by simp; omega
    have cfq : ((l5.length : Int) == 1) = false := beq_eq_false_iff_ne.2 om
    have hcap := h5.uk; have hcap2 := h5.cap2
    have hp1 := Gi A3 A5 c3 c5 l3 l5 n'.natAbs g W3 ((aa FN).nat.below hb3) (aa H5) (aa HG0) (by have := aa HLN; have := aa HK; omega) (by have := aa HLG; have := aa HK; omega)
    have HP1 := hide hp1
    clear h5 hb3 hl5 hp1
    go_wp2_with fail
    refine (aa HP1).mono ?_
    rintro e W4 ⟨A6, c6, l6, A7, c7, l7, rfl, h6, h7, hb4⟩
    have Tn := au (aa HB3) hb4
    have h5' := (aa H5).below hb4
    obtain ⟨hc4, hf4⟩ := az Tn
    have hp2 := Gi A4 A5 c4 c5 l4 l5 d'.natAbs g W4 ((aa FD).nat.below Tn) h5' (aa HG0) (by have := aa HLD; have := aa HK; omega) (by have := aa HLG; have := aa HK; omega)
    have HP2 := hide hp2; have H6 := hide h6; have HB4 := hide Tn
    clear hp2 h6 h7 hb4 Tn h5' hc3 hf3 HP1
    go_wp2_with fail
    refine (aa HP2).mono ?_
    rintro e W5 ⟨A8, c8, l8, A9, c9, l9, rfl, h8, h9, hb5⟩
    have Yb := au (aa HB4) hb5
    obtain ⟨hc5, kz⟩ := az Yb
    have hs1 := Bf A6 c6 l6 (n'.natAbs / g) m3 W5 ((aa H6).below hb5)
    have Jg : (if m3 = true then -((n'.natAbs / g : Nat) : Int) else ((n'.natAbs / g : Nat) : Int)) = q.num := by rw [(aa FN).sign]; exact aqy.out
    rw [Jg] at hs1
    have pz := hide hs1; have H8 := hide h8; have HB5 := hide Yb
    clear hs1 h8 h9 hb5 Yb hc4 hf4 Jg HP2
    go_wp2_with fail
    refine (aa pz).mono ?_
    rintro e W6 ⟨Ae, c10, l10, m10, rfl, h10, hb6⟩
    have Ya := au (aa HB5) hb6
    obtain ⟨hc6, og⟩ := az Ya
    have hs2 := Bf A8 c8 l8 (d'.natAbs / g) false W6 ((aa H8).below hb6)
    rw [if_neg Bool.false_ne_true, arb.out] at hs2
    have HS2 := hide hs2; have Gg := hide h10; have HB6 := hide Ya
    clear hs2 h10 hb6 Ya hc5 kz pz
    go_wp2_with fail
    refine (aa HS2).mono ?_
    rintro e W7 ⟨Fv, c11, Fq, m11, rfl, h11, yf⟩
    have Xz := au (aa HB6) yf
    obtain ⟨hc7, Au⟩ := az Xz
    have ajo := (aa HSW).below Xz
    have Yi := hide ajo
    have alf := hide ((aa Gg).below yf); have Vf := hide h11
    clear h11 yf Xz hc6 og ajo HS2
    go_wp2_with fail
    have hS9 := (aa Yi).put (aa alf) (aa Vf)
    have hk1 := (aa Yi).keep (.slice Ae l10.length c10) (.bool m10) (.slice Fv Fq.length c11) (.bool m11) (aa alf)
    have hk2 := (aa Yi).keep (.slice Ae l10.length c10) (.bool m10) (.slice Fv Fq.length c11) (.bool m11) (aa Vf)
    exact bodyPost_ret (v := .agg #[.slice Ae l10.length c10, .bool m10, .slice Fv Fq.length c11, .bool m11]) (by simp [results, Tryz.results92, go_sem, hc7, p0, p1, p2, p3, q2]) rfl
     ⟨Ae, c10, l10, m10, Fv, c11, Fq, m11, rfl, hk1.upto hS9.bq (qy _ _ _ _ _ _ _ _) (ig _ _ _ _ _ _), hk2.upto hS9.bq (qy _ _ _ _ _ _ _ _) (ig _ _ _ _ _ _), hS9.hb.grown (ig _ _ _ _ _ _) hS9.hb.size (fun k hk => by injection hk with hk; omega)⟩
end Go.Proofs.YtpjgoogeokbaaaaGreatDoor
namespace Go.Proofs.YtpjgoogeokbaaaaGreatDoor
open Go.RowKit

set_option maxHeartbeats 2000000 in
theorem asn (n d : Int) (w : World) (b1 : -9223372036854775808 ≤ n) (b2 : n ≤ 9223372036854775807) (b3 : -9223372036854775808 ≤ d) (b4 : d ≤ 9223372036854775807) (hd : d ≠ 0) :
  Calls Tryz.prog 110 #[.int .i64 n, .int .i64 d] w fun e w' => QR w (Rat.divInt n d) e w' := by
 have Gf := hide (fun W => (Kh n W b1 b2).mono (fun e w' h => h.1))
 have Pf := hide (fun W => (Kh d W b3 b4).mono (fun e w' h => h.1))
 have k1 : n.natAbs < di ^ 2 := by rw [fo]; omega
 have k2 : d.natAbs < di ^ 2 := by rw [fo]; omega
 obtain ⟨q, hq⟩ : ∃ q, q = Rat.divInt n d := ⟨_, rfl⟩
 have HR := hide (fun (A1 : Option Addr) (c1 : Nat) (l1 : List Nat) (m1 : Bool) (A2 : Option Addr) (c2 : Nat) (l2 : List Nat) (m2 : Bool) (W : World) (f1 : bg W A1 c1 l1 m1 n) (f2 : bg W A2 c2 l2 m2 d) => Sg A1 c1 l1 m1 n A2 c2 l2 m2 d 2 W f1 f2 hd k1 k2 om)
 rw [← hq] at HR ⊢
 clear b1 b2 b3 b4 hd k1 k2 hq
 go_enter Tryz.func110, Tryz.ntmps110
 go_wp2_with fail
 obtain ⟨n0, hsz, hw0⟩ := Db w (.cells #[.slice none 0 0, .bool false, .slice none 0 0, .bool false] 52)
 generalize (w.alloc (.cells #[.slice none 0 0, .bool false, .slice none 0 0, .bool false] 52)) = W0 at *
 have p0 : W0.cell? ⟨w.heap.size, 0, none⟩ = some (.slice none 0 0) := ag n0 0
 have p1 : W0.cell? ⟨w.heap.size, 1, none⟩ = some (.bool false) := ag n0 1
 have p2 : W0.cell? ⟨w.heap.size, 2, none⟩ = some (.slice none 0 0) := ag n0 2
 have p3 : W0.cell? ⟨w.heap.size, 3, none⟩ = some (.bool false) := ag n0 3
 have v0 := ah n0 0; have v1 := ah n0 1; have v2 := ah n0 2; have v3 := ah n0 3
 have q0 := lt_of_block n0
 have NR := Lib.hid n0
 clear n0 hsz
 refine ((aa Gf) _).mono ?_
 rintro e W1 ⟨A1, c1, l1, m1, rfl, f1, hb1⟩
 have F1 := hide f1; have HB1 := hide hb1
 clear f1 hb1
 go_wp2_with fail
 refine ((aa Pf) _).mono ?_
 rintro e W2 ⟨A2, c2, l2, m2, rfl, f2, hb2⟩
 have Pt := (aa F1).below hb2
 have hr := (aa HR) A1 c1 l1 m1 A2 c2 l2 m2 W2 Pt f2
 have HRR := hide hr
 have hb2' := au (aa HB1) hb2
 have HB2 := hide hb2'
 clear Pt f2 hb2 hr hb2'
 go_wp2_with fail
 refine (aa HRR).mono ?_
 rintro e W3 ⟨A3, c3, l3, m3, A4, c4, l4, m4, rfl, f3, f4, hb3⟩
 have Oq := au (aa HB2) hb3
 obtain ⟨hc, hfz⟩ := az Oq
 have hblk := (Oq.block _ q0).trans NR.out
 have jd := Lib.hid hblk
 have F3 := hide f3; have F4 := hide f4; have gp := au hw0 Oq
 have HB9 := hide gp
 clear f3 f4 hb3 Oq hblk gp
 go_wp2_with fail
 exact bodyPost_ret (v := .agg #[.slice A3 l3.length c3, .bool m3, .slice A4 l4.length c4, .bool m4]) (by simp [results, Tryz.results110, go_sem, hc, p0, p1, p2, p3, q0]) rfl
  ⟨A3, c3, l3, m3, A4, c4, l4, m4, rfl, (aa F3).upto jd.out (qy _ _ _ _ _ _ _ _) (ig _ _ _ _ _ _), (aa F4).upto jd.out (qy _ _ _ _ _ _ _ _) (ig _ _ _ _ _ _), (aa HB9).grown (ig _ _ _ _ _ _) (aa HB9).size (fun k hk => by injection hk with hk; omega)⟩
end Go.Proofs.YtpjgoogeokbaaaaGreatDoor
namespace Go.Proofs.YtpjgoogeokbaaaaGreatDoor
open Go.RowKit

def bvb (w : World) (q : Rat) (e : Ending) (w' : World) : Prop := ∃ (n d : Int) (ok : Bool), e = .returned (.tuple #[.agg #[.int .i64 n, .int .i64 d], .bool ok]) ∧ Below w.heap.size w w' ∧ ((ok = true ∧ Wd.told q = ⟨n, d, 0⟩) ∨ (ok = false ∧ Wd.told q = ⟨0, 0, 3⟩))

end Go.Proofs.YtpjgoogeokbaaaaGreatDoor
namespace Go.Proofs.YtpjgoogeokbaaaaGreatDoor
open Go.RowKit

end Go.Proofs.YtpjgoogeokbaaaaGreatDoor
namespace Go.Proofs.YtpjgoogeokbaaaaGreatDoor
open Go.RowKit

set_option maxHeartbeats 2000000 in
theorem bfq (n d : Int) (w : World) (b1 : -9223372036854775808 ≤ n) (b2 : n ≤ 9223372036854775807) (b3 : -9223372036854775808 ≤ d) (b4 : d ≤ 9223372036854775807) (hd : d ≠ 0) :
  Calls Tryz.prog 41 #[.agg #[.int .i64 n, .int .i64 d]] w fun e w' => QR w (Rat.divInt n d) e w' := by
 have Gf := hide (fun W => (Kh n W b1 b2).mono (fun e w' h => h.1))
 have Pf := hide (fun W => (Kh d W b3 b4).mono (fun e w' h => h.1))
 have k1 : n.natAbs < di ^ 2 := by rw [fo]; omega
 have k2 : d.natAbs < di ^ 2 := by rw [fo]; omega
 obtain ⟨q, hq⟩ : ∃ q, q = Rat.divInt n d := ⟨_, rfl⟩
 have HR := hide (fun (A1 : Option Addr) (c1 : Nat) (l1 : List Nat) (m1 : Bool) (A2 : Option Addr) (c2 : Nat) (l2 : List Nat) (m2 : Bool) (W : World) (f1 : bg W A1 c1 l1 m1 n) (f2 : bg W A2 c2 l2 m2 d) => Sg A1 c1 l1 m1 n A2 c2 l2 m2 d 2 W f1 f2 hd k1 k2 om)
 rw [← hq] at HR ⊢
 clear b1 b2 b3 b4 hd k1 k2 hq
 go_enter Tryz.func41, Tryz.ntmps41
 go_wp2_with fail
 obtain ⟨nx, n0, hsz, hw0⟩ := jm w (.cells #[.int .i64 n, .int .i64 d] 23) (.cells #[.slice none 0 0, .bool false, .slice none 0 0, .bool false] 52)
 generalize ((w.alloc (.cells #[.int .i64 n, .int .i64 d] 23)).alloc (.cells #[.slice none 0 0, .bool false, .slice none 0 0, .bool false] 52)) = W0 at *
 have x0 : W0.cell? ⟨w.heap.size, 0, none⟩ = some (.int .i64 n) := ag nx 0
 have x1 : W0.cell? ⟨w.heap.size, 1, none⟩ = some (.int .i64 d) := ag nx 1
 have qx := lt_of_block nx
 clear nx
 have p0 : W0.cell? ⟨w.heap.size + 1, 0, none⟩ = some (.slice none 0 0) := ag n0 0
 have p1 : W0.cell? ⟨w.heap.size + 1, 1, none⟩ = some (.bool false) := ag n0 1
 have p2 : W0.cell? ⟨w.heap.size + 1, 2, none⟩ = some (.slice none 0 0) := ag n0 2
 have p3 : W0.cell? ⟨w.heap.size + 1, 3, none⟩ = some (.bool false) := ag n0 3
 have v0 := ah n0 0; have v1 := ah n0 1; have v2 := ah n0 2; have v3 := ah n0 3
 have q0 := lt_of_block n0
 have NR := Lib.hid n0
 clear n0 hsz
 go_region_with (first | (go_at_call_of 93 (Value.int .i64 n); refine ((aa Gf) _).mono ?_; rintro e w' ⟨A1, c1, l1, m1, rfl, f1n, hb⟩; (try (first | replace f2 := bg.below f2 hb | replace f2 := (bg.below f2 (Below.drew (Below.refl _ _))).below hb)); have f1 := f1n; clear f1n; have hbw := ay (w := W0) (by (first | with_reducible assumption | (repeat (first | with_reducible exact Below.refl _ _ | with_reducible assumption | refine Below.drew ?_ | (refine Below.alloc ?_ (by simp <;> omega) _))))) hb; obtain ⟨hc, hf⟩ := az hbw) | (go_at_call_of 93 (Value.int .i64 d); refine ((aa Pf) _).mono ?_; rintro e w' ⟨A2, c2, l2, m2, rfl, f2n, hb⟩; (try (first | replace f1 := bg.below f1 hb | replace f1 := (bg.below f1 (Below.drew (Below.refl _ _))).below hb)); have f2 := f2n; clear f2n; have hbw := ay (w := W0) (by (first | with_reducible assumption | (repeat (first | with_reducible exact Below.refl _ _ | with_reducible assumption | refine Below.drew ?_ | (refine Below.alloc ?_ (by simp <;> omega) _))))) hb; obtain ⟨hc, hf⟩ := az hbw) | (go_at_call 92; refine ((aa HR) A1 c1 l1 m1 A2 c2 l2 m2 _ (by first | exact f1 | exact bg.below f1 (Below.drew (Below.refl _ _))) (by first | exact f2 | exact bg.below f2 (Below.drew (Below.refl _ _)))).mono ?_; rintro e w' ⟨A3, c3, l3, m3, A4, c4, l4, m4, rfl, f3, f4, hb⟩; have hbw := ay (w := W0) (by (first | with_reducible assumption | (repeat (first | with_reducible exact Below.refl _ _ | with_reducible assumption | refine Below.drew ?_ | (refine Below.alloc ?_ (by simp <;> omega) _))))) hb; obtain ⟨hc, hf⟩ := az hbw))
 all_goals
  have hblk := (hbw.block _ q0).trans NR.out
  have gp := au hw0 hbw
  have jd := Lib.hid hblk; have F3 := hide f3; have F4 := hide f4; have HB9 := hide gp
  clear f3 f4 hblk gp
  go_wp2_with fail
  exact bodyPost_ret (v := .agg #[.slice A3 l3.length c3, .bool m3, .slice A4 l4.length c4, .bool m4]) (by simp [results, Tryz.results41, go_sem, hc, p0, p1, p2, p3, q0]) rfl
   ⟨A3, c3, l3, m3, A4, c4, l4, m4, rfl, (aa F3).upto jd.out (qy _ _ _ _ _ _ _ _) (ig _ _ _ _ _ _), (aa F4).upto jd.out (qy _ _ _ _ _ _ _ _) (ig _ _ _ _ _ _), (aa HB9).grown (ig _ _ _ _ _ _) (aa HB9).size (fun k hk => by injection hk with hk; omega)⟩
end Go.Proofs.YtpjgoogeokbaaaaGreatDoor
namespace Go.Proofs.YtpjgoogeokbaaaaGreatDoor
open Go.RowKit

structure QV (w : World) (A1 : Option Addr) (c1 : Nat) (l1 : List Nat) (m1 : Bool) (A2 : Option Addr) (c2 : Nat) (l2 : List Nat) (m2 : Bool) (q : Rat) : Prop where
 num : bg w A1 c1 l1 m1 q.num
 den : ∃ d : Int, bg w A2 c2 l2 m2 d ∧ (d = (q.den : Int) ∨ (d = 0 ∧ q.den = 1))
theorem QV.below {w w' : World} {A1 : Option Addr} {c1 : Nat} {l1 : List Nat} {m1 : Bool} {A2 : Option Addr} {c2 : Nat} {l2 : List Nat} {m2 : Bool} {q : Rat} (h : QV w A1 c1 l1 m1 A2 c2 l2 m2 q) (hb : Below w.heap.size w w') : QV w' A1 c1 l1 m1 A2 c2 l2 m2 q := by
 obtain ⟨d, h2, h3⟩ := h.den
 exact ⟨h.num.below hb, d, h2.below hb, h3⟩
theorem QV.of {w : World} {A1 : Option Addr} {c1 : Nat} {l1 : List Nat} {m1 : Bool} {A2 : Option Addr} {c2 : Nat} {l2 : List Nat} {m2 : Bool} {q : Rat} (h1 : bg w A1 c1 l1 m1 q.num) (h2 : bg w A2 c2 l2 m2 (q.den : Int)) : QV w A1 c1 l1 m1 A2 c2 l2 m2 q :=
 ⟨h1, _, h2, .inl rfl⟩
theorem bg.len {w : World} {A : Option Addr} {cap : Nat} {l : List Nat} {m : Bool} {z : Int} {K : Nat} (h : bg w A cap l m z) (hz : z.natAbs < di ^ K) : l.length ≤ K := h.nat.len hz

set_option maxHeartbeats 1000000 in
theorem Nu (w : World) :
  Calls Tryz.prog 107 #[] w fun e w' => uq w 1 e w' := by
 go_enter Tryz.func107, Tryz.ntmps107
 go_wp2_with fail
 obtain ⟨n0, n1, hsz, hw0⟩ := jm w (.cells #[.slice (some ⟨w.heap.size + 1, 0, none⟩) 1 1, .bool false] 50) (.cells #[.int .u32 1] 136)
 generalize ((w.alloc (.cells #[.slice (some ⟨w.heap.size + 1, 0, none⟩) 1 1, .bool false] 50)).alloc (.cells #[.int .u32 1] 136)) = W0 at *
 have hz : ZB .u32 W0 (w.heap.size + 1) 136 [1] := n1
 have hn : rq W0 (some ⟨w.heap.size + 1, 0, none⟩) 1 [1] 1 := ⟨hz.Fx _ hz.lt, by simp, by omega, by intro x hx; rw [List.mem_singleton] at hx; subst hx; exact zx, .inr (by simp), by simp [Wd.val]⟩
 have k0 : W0.cell? ⟨w.heap.size, 0, none⟩ = some (.slice (some ⟨w.heap.size + 1, 0, none⟩) 1 1) := ag n0 0
 have k1 : W0.cell? ⟨w.heap.size, 1, none⟩ = some (.bool false) := ag n0 1
 exact bodyPost_ret (v := .agg #[.slice (some ⟨w.heap.size + 1, 0, none⟩) 1 1, .bool false]) (by simp [results, Tryz.results107, go_sem, k0, k1]) rfl
  ⟨_, 1, [1], false, rfl, ⟨hn, rfl⟩, hw0⟩

set_option maxHeartbeats 1000000 in
theorem ahv (A1 : Option Addr) (c1 : Nat) (l1 : List Nat) (m1 : Bool) (A2 : Option Addr) (c2 : Nat) (l2 : List Nat) (m2 : Bool) (w : World) (h2 : bg w A2 c2 l2 m2 0) :
  Calls Tryz.prog 95 #[.agg #[.slice A1 l1.length c1, .bool m1, .slice A2 l2.length c2, .bool m2]] w fun e w' => uq w 1 e w' := by
 have hl : l2.length = 0 := h2.nat.Gm.1 rfl
 have HI := hide (fun W => Si A2 c2 l2.length m2 W)
 rw [decide_eq_true hl] at HI
 have HO := hide Nu
 clear h2 hl
 go_enter Tryz.func95, Tryz.ntmps95
 go_wp2_with fail
 obtain ⟨n0, n1, hsz, hw0⟩ := jm w (.cells #[.slice A1 l1.length c1, .bool m1, .slice A2 l2.length c2, .bool m2] 52) (.cells #[.slice none 0 0, .bool false] 50)
 generalize ((w.alloc (.cells #[.slice A1 l1.length c1, .bool m1, .slice A2 l2.length c2, .bool m2] 52)).alloc (.cells #[.slice none 0 0, .bool false] 50)) = W0 at *
 have q1 : w.heap.size + 1 < W0.heap.size := by omega
 have r0 : W0.cell? ⟨w.heap.size + 1, 0, none⟩ = some (.slice none 0 0) := ag n1 0
 have r1 : W0.cell? ⟨w.heap.size + 1, 1, none⟩ = some (.bool false) := ag n1 1
 have f0 := ah n1 0
 have f1 := ah n1 1
 have NR := Lib.hid n1
 clear n0 n1 hsz
 refine ((aa HI) _).mono ?_
 rintro e W1 ⟨rfl, hb⟩
 have HB := hide hb
 clear hb
 go_wp2_with fail
 refine ((aa HO) _).mono ?_
 rintro e w' ⟨A5, c5, l5, m5, rfl, kz, hb2⟩
 have hb := au (aa HB) hb2
 obtain ⟨hc, hfz⟩ := az hb
 have hblk : w'.heap[w.heap.size + 1]? = some (.cells #[.slice none 0 0, .bool false] 50 (0, 0)) := (hb.block _ q1).trans NR.out
 have jd := Lib.hid hblk
 have gp : Below w.heap.size w w' := au hw0 hb
 clear hblk hb2
 go_wp2_with fail
 exact bodyPost_ret (v := .agg #[.slice A5 l5.length c5, .bool m5]) (by simp [results, Tryz.results95, go_sem, hc, r0, r1, q1]) rfl
  ⟨A5, c5, l5, m5, rfl, kz.upto jd.out (Ck _ _ _ _) (fq _ _ _ _), gp.grown (fq _ _ _ _) gp.size (fun k hk => by injection hk with hk; omega)⟩

theorem Dm (A1 : Option Addr) (c1 : Nat) (l1 : List Nat) (m1 : Bool) (A2 : Option Addr) (c2 : Nat) (l2 : List Nat) (m2 : Bool) (q : Rat) (w : World) (h : QV w A1 c1 l1 m1 A2 c2 l2 m2 q) :
  Calls Tryz.prog 95 #[.agg #[.slice A1 l1.length c1, .bool m1, .slice A2 l2.length c2, .bool m2]] w fun e w' => uq w (q.den : Int) e w' := by
 obtain ⟨d, h2, rfl | ⟨rfl, h1⟩⟩ := h.den
 ·
  refine (axy A1 c1 l1 m1 A2 c2 l2 m2 _ w h2 (by have := q.den_nz; omega)).mono ?_
  rintro e w' ⟨rfl, hb⟩
  exact ⟨A2, c2, l2, m2, rfl, h2.below hb, hb⟩
 ·
  rw [h1]
  exact ahv A1 c1 l1 m1 A2 c2 l2 m2 w h2
end Go.Proofs.YtpjgoogeokbaaaaGreatDoor
namespace Go.Proofs.YtpjgoogeokbaaaaGreatDoor
open Go.RowKit

namespace Wd
structure Im (B : Nat) (xl yl l : List Nat) (i c : Nat) : Prop where
 len : l.length = i
 lt : ∀ x ∈ l, x < B
 c1 : c ≤ 1
 eq : Wd.val B l + B ^ i * c = Wd.val B (xl.take i) + Wd.val B (yl.take i)
theorem Im.start (B : Nat) (xl yl : List Nat) : Im B xl yl [] 0 0 := ⟨rfl, by simp, by omega, by simp [val]⟩
theorem Xm {B : Nat} {l : List Nat} {d : Nat} (h : ∀ x ∈ l, x < B) (hd : d < B) : ∀ x ∈ l ++ [d], x < B := by
 intro t ht
 rw [List.mem_append] at ht
 rcases ht with h1 | h1
 ·
  exact h t h1
 ·
  rw [List.mem_singleton] at h1; subst h1; exact hd
theorem Im.step {B : Nat} {xl yl l : List Nat} {i c x y s : Nat} (hB : 1 < B) (h : Im B xl yl l i c) (hx : x = xl.getD i 0) (zo : x < B) (hy : y = yl.getD i 0) (Df : y < B) (hs : s = c + x + y) :
  Im B xl yl (l ++ [s % B]) (i + 1) (s / B) := by
 have hc := h.c1
 refine ⟨by simp [h.len], Xm h.lt (Nat.mod_lt _ om), ?_, ?_⟩
 ·
  exact Nat.lt_succ_iff.1 ((Nat.div_lt_iff_lt_mul om).2 om)
 ·
  rw [Ci, h.len, Nat.pow_succ, ou, ou, ← hx, ← hy]
  have e := Nat.mod_add_div s B
  have h1 := h.eq
  have e2 : B ^ i * (s % B) + B ^ i * B * (s / B) = B ^ i * c + B ^ i * x + B ^ i * y := by
   rw [Nat.mul_assoc, ← Nat.mul_add, e, hs, Nat.mul_add, Nat.mul_add]
  omega
theorem Im.done {B : Nat} {xl yl l : List Nat} {i c : Nat} (h : Im B xl yl l i c) (hx : xl.length ≤ i) (hy : yl.length ≤ i) : Wd.val B (l ++ [c]) = Wd.val B xl + Wd.val B yl := by
 have h1 := h.eq
 rw [jw _ _ _ hx, jw _ _ _ hy] at h1
 rw [Ci, h.len, h1]
structure Ip (B : Nat) (xl yl l : List Nat) (i b : Nat) : Prop where
 len : l.length = i
 lt : ∀ x ∈ l, x < B
 b1 : b ≤ 1
 eq : Wd.val B l + Wd.val B (yl.take i) = Wd.val B (xl.take i) + B ^ i * b
theorem Ip.start (B : Nat) (xl yl : List Nat) : Ip B xl yl [] 0 0 := ⟨rfl, by simp, by omega, by simp [val]⟩
theorem Ip.step {B : Nat} {xl yl l : List Nat} {i b x y d b' : Nat} (h : Ip B xl yl l i b) (hx : x = xl.getD i 0) (hy : y = yl.getD i 0) (hd : d < B) (hb : b' ≤ 1) (hs : d + y + b = x + B * b') :
  Ip B xl yl (l ++ [d]) (i + 1) b' := by
 refine ⟨by simp [h.len], Xm h.lt hd, hb, ?_⟩
 rw [Ci, h.len, Nat.pow_succ, ou, ou, ← hx, ← hy]
 have h1 := h.eq
 have e2 : B ^ i * d + B ^ i * y + B ^ i * b = B ^ i * x + B ^ i * B * b' := by
  rw [← Nat.mul_add, ← Nat.mul_add, hs, Nat.mul_add, Nat.mul_assoc]
 omega
theorem Ip.done {B : Nat} {xl yl l : List Nat} {i b : Nat} (h : Ip B xl yl l i b) (hx : xl.length = i) (hy : yl.length ≤ i) (hle : Wd.val B yl ≤ Wd.val B xl) : Wd.val B l = Wd.val B xl - Wd.val B yl := by
 have h1 := h.eq
 rw [jw B xl i om, jw B yl i hy] at h1
 have h2 := Cy l h.lt
 rw [h.len] at h2
 have hb := h.b1
 rcases (show b = 0 ∨ b = 1 by omega) with rfl | rfl
 ·
  omega
 ·
  rw [Nat.mul_one] at h1; omega
end Wd

theorem aue {w : World} {base g cap B : Nat} {T : TypeId} {l : List Nat} {n : Nat} (hn : n = l.length) (h : w.ownsRow base T 1 (.slice (some ⟨g, 0, none⟩) n cap) n (zh .u32 l)) (hB : g < B) :
  Ws .u32 w B (some ⟨g, 0, none⟩) l ∧ l.length ≤ cap ∧ cap ≤ maxLen := by
 subst hn
 obtain ⟨_, ⟨h1, _⟩ | ⟨g', cap', cur, he, hb, hh, hn, hc, hs, ht⟩⟩ := h
 ·
  injection h1 with h2; cases h2
 ·
  injection he with e1 _ e2
  injection e1 with e1; injection e1 with e1
  subst e1 e2
  refine ⟨fun hl => ⟨g, 0, rfl, hB, fun j hj => ?_⟩, hn, hc⟩
  have hj2 : (cur.toList.take (l.length * 1))[j]? = some (.int .u32 ((Wd.g l j : Nat) : Int)) := by
   rw [ht]
   simp [zh, Wd.g, List.getD, hj]
  rw [List.getElem?_take] at hj2
  simp only [World.cell?, hh, Option.isSome_none, Bool.false_eq_true, if_false]
  rw [if_pos om] at hj2
  simpa using hj2
theorem ais {w : World} {base g cap : Nat} {T : TypeId} {l : List Value} {n : Nat} (h : w.ownsRow base T 1 (.slice (some ⟨g, 0, none⟩) n cap) n l) : g < w.heap.size := by
 obtain ⟨_, ⟨h1, _⟩ | ⟨g', cap', cur, he, hb, hh, hn, hc, hs, ht⟩⟩ := h
 ·
  injection h1 with h2; cases h2
 ·
  injection he with e1 _ e2
  injection e1 with e1; injection e1 with e1
  subst e1
  exact lt_of_block hh
theorem aet (n : Nat) (h : n ≤ 35184372088832) (w : World) : (Instr.makeSlice 48 (.int .i64 0) (.int .i64 (n : Int))).run Tryz.prog w =
  .ok (.slice (some ⟨w.heap.size, 0, none⟩) 0 n) (w.alloc (.cells (xu .u32 (List.replicate n 0)) 136)) := by
 obtain ⟨i0, hi, hz0, hz1, hz2⟩ := info_parts aae
 have hr := run_make (P := Tryz.prog) w 48 136 i0 (.int .u32 0) Tryz.underlying48 hi hz0 .i64 .i64 0 n om om (by rw [hz2]; omega) om
 simp only [Int.toNat_natCast, Int.toNat_zero] at hr
 rw [hr, hz1, Km]
theorem air (w : World) (n : Nat) (h : n ≤ 35184372088832) (T : TypeId) : (w.alloc (.cells (xu .u32 (List.replicate n 0)) T)).ownsRow w.heap.size T 1 (.slice (some ⟨w.heap.size, 0, none⟩) 0 n) 0 (zh .u32 []) :=
 ⟨by simp [zh], .inr ⟨w.heap.size, n, _, rfl, Nat.le_refl _, heap_alloc_new w _, Nat.zero_le _, by unfold maxLen; omega, by simp [xu], by simp [zh]⟩⟩
theorem ayr {w : World} {base g n C d : Nat} {T : TypeId} {l : List Nat} (h : w.ownsRow base T 1 (.slice (some ⟨g, 0, none⟩) n C) n (zh .u32 l ++ [.int .u32 (d : Int)])) : w.ownsRow base T 1 (.slice (some ⟨g, 0, none⟩) n C) n (zh .u32 (l ++ [d])) := by
 simpa [zh] using h
theorem rq.Zf {w : World} {A : Option Addr} {cap : Nat} {zs : List Nat} {k : Nat} (hz : Ws .u32 w w.heap.size A zs) (hlt : ∀ x ∈ zs, x < di) (ht : Wd.Ic zs (zs.take k)) (hk : k ≤ zs.length) (hc : zs.length ≤ cap) (hc2 : cap ≤ 9223372036854775807) :
  rq w A cap (zs.take k) (Wd.val di zs) :=
 ⟨hz.Pn k, by simp; omega, hc2, fun x hx => hlt x (List.mem_of_mem_take hx), ht.norm, ht.val _⟩
theorem one_cell (w : World) (v : Value) (T : TypeId) : ∀ j u, [v][j]? = some u → (w.alloc (.cells #[v] T)).cell? ((⟨w.heap.size, 0, none⟩ : Addr).add j) = some u := by
 intro j u hj
 match j, hj with
 | 0, hj => simp at hj; subst hj; simp [Addr.add]
 | j + 1, hj => simp at hj
theorem Ns (d : Nat) : ∀ u ∈ [Value.int .u32 (d : Int)], u.oneCell' = true := by
 intro u hu
 rw [List.mem_singleton] at hu; subst hu; rfl
theorem Ey {w X w1 : World} {n C d : Nat} {l : List Nat} {W0 : Nat} (hW : W0 = w.heap.size) (hb : Below W0 w X) (hlt : W0 ≤ X.heap.size)
  (hown1 : w1.ownsRow W0 136 1 (.slice (some ⟨W0, 0, none⟩) n C) n (zh .u32 l ++ [.int .u32 ((d : Nat) : Int)])) (hgrow1 : X.grownBy w1 (some W0)) :
  w1.ownsRow W0 136 1 (.slice (some ⟨W0, 0, none⟩) n C) n (zh .u32 (l ++ [d])) ∧ Below W0 w w1 :=
 ⟨ayr hown1, hb.grown hgrow1 hlt (fun k hk => by injection hk with hk; omega)⟩
end Go.Proofs.YtpjgoogeokbaaaaGreatDoor
namespace Go.Proofs.YtpjgoogeokbaaaaGreatDoor
open Go.RowKit

set_option maxHeartbeats 2000000 in
theorem aek (Ax Ay : Option Addr) (cx cy : Nat) (xl yl : List Nat) (n m : Nat) (w : World) (hx : rq w Ax cx xl n) (hy : rq w Ay cy yl m) (hk : xl.length + 1 ≤ 35184372088832) (hk2 : yl.length + 1 ≤ 35184372088832) :
  Calls Tryz.prog 143 #[.slice Ax xl.length cx, .slice Ay yl.length cy] w fun e w' => aqx w (n + m) e w' := by
 obtain ⟨M, hM⟩ : ∃ M, M = max xl.length yl.length := ⟨_, rfl⟩
 have hMx : xl.length ≤ M := by omega
 have hMy : yl.length ≤ M := by omega
 have hMd : M = xl.length ∨ M = yl.length := by omega
 have hM2 : M + 1 ≤ 35184372088832 := by omega
 have e0 : max (xl.length : Int) (yl.length : Int) = (M : Int) := by omega
 have hmk := aet (M + 1) hM2
 have aag := air w (M + 1) hM2 136
 obtain ⟨C, hC⟩ : ∃ C, C = M + 1 := ⟨_, rfl⟩
 have Ms : (w.alloc (.cells (xu .u32 (List.replicate (M + 1) 0)) 136)).ownsRow w.heap.size 136 1 (.slice (some ⟨w.heap.size, 0, none⟩) 0 C) 0 (zh .u32 []) := by rw [hC]; exact aag
 have hmk' : ∀ W : World, (Instr.makeSlice 48 (.int .i64 0) (.int .i64 ((M : Int) + 1))).run Tryz.prog W = .ok (.slice (some ⟨W.heap.size, 0, none⟩) 0 C) (W.alloc (.cells (xu .u32 (List.replicate (M + 1) 0)) 136)) := by
  intro W; rw [hC]; have := hmk W; simp only [Int.natCast_add, Int.cast_ofNat_Int] at this; exact this
 have HC := Lib.hid hC
 clear hmk aag hC
 obtain ⟨i0, hi0, hz0, hz1, hz2⟩ := info_parts aae
 have hx1 := hx.uk; have hx2 := hx.cap2; have hy1 := hy.uk; have hy2 := hy.cap2
 clear hM
 go_enter Tryz.func143, Tryz.ntmps143
 go_wp2_with fail
 go_loopw [5, 6, 7] (fun ov cv iv wr => ∃ (i c : Nat) (l : List Nat), i ≤ M ∧ ov = .slice (some ⟨w.heap.size, 0, none⟩) i C ∧ cv = .int .u64 ((c : Nat) : Int) ∧ iv = .int .i64 ((i : Nat) : Int) ∧ Hid (Wd.Im di xl yl l i c) ∧ wr.ownsRow w.heap.size 136 1 (.slice (some ⟨w.heap.size, 0, none⟩) i C) i (zh .u32 l) ∧ Below w.heap.size w wr) (fun _ _ iv _ => M - (intOf iv).toNat)
 case atStart => exact ⟨0, 0, [], Nat.zero_le _, rfl, rfl, rfl, Wd.Im.start _ _ _, Ms, (Below.refl _ _).alloc (Nat.le_refl _) _⟩
 case round =>
  obtain ⟨i, c, l, hi, rfl, rfl, rfl, HI, hown, hg⟩ := hrel
  have hCi : i + 1 ≤ C := by have := HC.out; omega
  have hcB := HI.out.c1
  have apy : c < dm := by rw [gu]; omega
  have b64 : ∀ t : Nat, t < di → t < dm := fun t ht => by rw [fo] at ht; rw [gu]; omega
  have hli := HI.out.len
  have hgl := ais hown
  obtain ⟨x, Gj⟩ : ∃ x, x = Wd.g xl i := ⟨_, rfl⟩
  obtain ⟨y, Mq⟩ : ∃ y, y = Wd.g yl i := ⟨_, rfl⟩
  have zo : x < di := by rw [Gj]; exact Wd.getD_lt (by rw [fo]; omega) _ hx.lt i
  have Df : y < di := by rw [Mq]; exact Wd.getD_lt (by rw [fo]; omega) _ hy.lt i
  obtain ⟨s1, hs1⟩ : ∃ t, t = c + x := ⟨_, rfl⟩
  obtain ⟨s, hs⟩ : ∃ t, t = s1 + y := ⟨_, rfl⟩
  obtain ⟨d, hd⟩ : ∃ t, t = s % di := ⟨_, rfl⟩
  obtain ⟨q, hq⟩ : ∃ t, t = s / di := ⟨_, rfl⟩
  have hsB : s < dm := by rw [fo] at zo Df; rw [gu]; omega
  have ajp : s1 < dm := by rw [fo] at zo Df; rw [gu]; omega
  have e1 : IntKind.u64.wrap (x : Int) = (x : Int) := jf rfl (b64 _ zo)
  have e2 : IntKind.u64.wrap (y : Int) = (y : Int) := jf rfl (b64 _ Df)
  have e3 : IntKind.u64.wrap ((c : Int) + (x : Int)) = (s1 : Int) := jf (by rw [hs1]; simp) ajp
  have e4 : IntKind.u64.wrap ((s1 : Int) + (y : Int)) = (s : Int) := jf (by rw [hs]; simp) hsB
  have e5 : IntKind.u32.wrap (s : Int) = (d : Int) := by rw [Di, hd]
  have e5' : (s : Int) % 4294967296 = (d : Int) := by rw [hd, fo]; omega
  have e6 : (s : Int) / 4294967296 = (q : Int) := by rw [hq, fo]; omega
  have hst := HI.out.step zx (by rw [← Wd.ry]; exact Gj) zo (by rw [← Wd.ry]; exact Mq) Df (s := s) om
  rw [← hd, ← hq] at hst
  have HST := hide hst
  have Rt : i < xl.length → ∃ b o, Ax = some ⟨b, o, none⟩ ∧ wr.cell? ⟨b, o + i, none⟩ = some (.int .u32 (x : Int)) := fun h => by
   obtain ⟨b, o, rfl, hbb, hc⟩ := hx.ws om
   exact ⟨b, o, rfl, by rw [Gj]; exact (hg.cell (p := ⟨b, o + i, none⟩) hbb).trans (hc i h)⟩
  have Jh : i < yl.length → ∃ b o, Ay = some ⟨b, o, none⟩ ∧ wr.cell? ⟨b, o + i, none⟩ = some (.int .u32 (y : Int)) := fun h => by
   obtain ⟨b, o, rfl, hbb, hc⟩ := hy.ws om
   exact ⟨b, o, rfl, by rw [Mq]; exact (hg.cell (p := ⟨b, o + i, none⟩) hbb).trans (hc i h)⟩
  have hx0 : ¬ i < xl.length → x = 0 := fun h => by rw [Gj]; simp [Wd.g, List.getD, h]
  have hy0 : ¬ i < yl.length → y = 0 := fun h => by rw [Mq]; simp [Wd.g, List.getD, h]
  have hsz := hg.size
  by_cases hlx : i < xl.length
  ·
   by_cases hly : i < yl.length
   ·
    have dx : decide ((i : Int) < (xl.length : Int)) = true := decide_eq_true om
    have dy : decide ((i : Int) < (yl.length : Int)) = true := decide_eq_true om
    have dx' : decide (i < xl.length) = true := decide_eq_true om
    have dy' : decide (i < yl.length) = true := decide_eq_true om
    obtain ⟨bx, ox, rfl, Fs⟩ := Rt om
    obtain ⟨by', oy, rfl, Oj⟩ := Jh om
    clear Rt Jh hx0 hy0 Gj Mq hs1 hs hd hq hst zo Df hsB ajp apy b64 Ms hmk' hz0 hz2
    go_wp2_with (first | (at_builtin; refine wpList_append_fits _ rfl _ _ 48 rfl w.heap.size 136 i0 1 Tryz.underlying48 hi0 hz1 w.heap.size _ C (zh .u32 l) rfl (hown.alloc _) ⟨_, 0, none⟩ 1 1 [.int .u32 ((d : Nat) : Int)] rfl rfl (one_cell _ _ _) (Ns _) om ?_; intro w1 hown1 hgrow1) | fail)
    obtain ⟨r1, r2⟩ := Ey rfl (hg.alloc hsz _) (by simp <;> omega) hown1 hgrow1
    clear hown1 hgrow1 hown hg
    go_wp2_with fail
    go_roundw
    case rel => exact ⟨i + 1, q, l ++ [d], by omega, rfl, rfl, by go_num, aa HST, r1, r2⟩
    case measure => simp [intOf] <;> omega
   ·
    have dx : decide ((i : Int) < (xl.length : Int)) = true := decide_eq_true om
    have dy : decide ((i : Int) < (yl.length : Int)) = false := decide_eq_false om
    have dx' : decide (i < xl.length) = true := decide_eq_true om
    have dy' : decide (i < yl.length) = false := decide_eq_false om
    obtain ⟨bx, ox, rfl, Fs⟩ := Rt om
    obtain rfl : s = s1 := by have := hy0 om; omega
    clear Rt Jh hx0 hy0 Gj Mq hs1 hs hd hq hst zo Df hsB ajp apy b64 Ms hmk' hz0 hz2
    go_wp2_with (first | (at_builtin; refine wpList_append_fits _ rfl _ _ 48 rfl w.heap.size 136 i0 1 Tryz.underlying48 hi0 hz1 w.heap.size _ C (zh .u32 l) rfl (hown.alloc _) ⟨_, 0, none⟩ 1 1 [.int .u32 ((d : Nat) : Int)] rfl rfl (one_cell _ _ _) (Ns _) om ?_; intro w1 hown1 hgrow1) | fail)
    obtain ⟨r1, r2⟩ := Ey rfl (hg.alloc hsz _) (by simp <;> omega) hown1 hgrow1
    clear hown1 hgrow1 hown hg
    go_wp2_with fail
    go_roundw
    case rel => exact ⟨i + 1, q, l ++ [d], by omega, rfl, rfl, by go_num, aa HST, r1, r2⟩
    case measure => simp [intOf] <;> omega
  ·
   by_cases hly : i < yl.length
   ·
    have dx : decide ((i : Int) < (xl.length : Int)) = false := decide_eq_false om
    have dy : decide ((i : Int) < (yl.length : Int)) = true := decide_eq_true om
    have dx' : decide (i < xl.length) = false := decide_eq_false om
    have dy' : decide (i < yl.length) = true := decide_eq_true om
    obtain ⟨by', oy, rfl, Oj⟩ := Jh om
    obtain rfl : s1 = c := by have := hx0 om; omega
    clear Rt Jh hx0 hy0 Gj Mq hs1 hs hd hq hst zo Df hsB ajp apy b64 Ms hmk' hz0 hz2
    go_wp2_with (first | (at_builtin; refine wpList_append_fits _ rfl _ _ 48 rfl w.heap.size 136 i0 1 Tryz.underlying48 hi0 hz1 w.heap.size _ C (zh .u32 l) rfl (hown.alloc _) ⟨_, 0, none⟩ 1 1 [.int .u32 ((d : Nat) : Int)] rfl rfl (one_cell _ _ _) (Ns _) om ?_; intro w1 hown1 hgrow1) | fail)
    obtain ⟨r1, r2⟩ := Ey rfl (hg.alloc hsz _) (by simp <;> omega) hown1 hgrow1
    clear hown1 hgrow1 hown hg
    go_wp2_with fail
    go_roundw
    case rel => exact ⟨i + 1, q, l ++ [d], by omega, rfl, rfl, by go_num, aa HST, r1, r2⟩
    case measure => simp [intOf] <;> omega
   ·
    have dx : decide ((i : Int) < (xl.length : Int)) = false := decide_eq_false om
    have dy : decide ((i : Int) < (yl.length : Int)) = false := decide_eq_false om
    have dx' : decide (i < xl.length) = false := decide_eq_false om
    have dy' : decide (i < yl.length) = false := decide_eq_false om
    have hv := HI.out.done om om
    rw [hx.val, hy.val] at hv
    have hcc : IntKind.u32.wrap (c : Int) = (c : Int) := by rw [IntKind.wrap_u32]; omega
    have cfy : (c : Int) % 4294967296 = (c : Int) := by omega
    have hlt := Wd.Xm HI.out.lt (show c < di by rw [fo]; omega)
    have HV := Lib.hid hv; have Jk := hide hlt
    clear hv hlt Rt Jh hx0 hy0 Gj Mq hs1 hs hd hq hst zo Df hsB ajp apy b64 Ms hmk' hz0 hz2 e1 e2 e3 e4 e5 e5' e6 HST
    go_wp2_with (first | (at_builtin; refine wpList_append_fits _ rfl _ _ 48 rfl w.heap.size 136 i0 1 Tryz.underlying48 hi0 hz1 w.heap.size _ C (zh .u32 l) rfl (hown.alloc _) ⟨_, 0, none⟩ 1 1 [.int .u32 ((c : Nat) : Int)] rfl rfl (one_cell _ _ _) (Ns _) om ?_; intro w1 hown1 hgrow1) | fail)
    obtain ⟨r1, r2⟩ := Ey rfl (hg.alloc hsz _) (by simp <;> omega) hown1 hgrow1
    have hlen : i + 1 = (l ++ [c]).length := by simp; omega
    obtain ⟨hws, hcap, hmax⟩ := aue hlen r1 (ais r1)
    have htr := Dl (some ⟨w.heap.size, 0, none⟩) C (l ++ [c]) w1.heap.size w1 hws hcap (by have := HC.out; omega)
    rw [← hlen] at htr
    have HTR := hide htr; have HWS := hide hws
    clear hown1 hgrow1 hown hg r1 htr hws hcap hmax
    go_wp2_with fail
    refine (aa HTR).mono ?_
    rintro e w' ⟨⟨k, rfl, ht, hk2⟩, rfl⟩
    dsimp only
    go_wp2_with fail
    go_ret
    have hk3 : k = ((l ++ [c]).take k).length := by rw [List.length_take]; omega
    refine ⟨some ⟨w.heap.size, 0, none⟩, C, (l ++ [c]).take k, Gh hk3, ?_, r2⟩
    have := rq.Zf (cap := C) (aa HWS) (aa Jk) ht om om (by have := HC.out; omega)
    rwa [HV.out] at this

end Go.Proofs.YtpjgoogeokbaaaaGreatDoor
namespace Go.Proofs.YtpjgoogeokbaaaaGreatDoor
open Go.RowKit

theorem aup {x b : Nat} (hx : x < di) (hb : b ≤ 1) (y : Nat) (hy : y < di) : ∃ (t v d b' : Nat), IntKind.u64.wrap ((x : Int) - (b : Int)) = (t : Int) ∧ IntKind.u64.wrap ((t : Int) - (y : Int)) = (v : Int) ∧ IntKind.u32.wrap (v : Int) = (d : Int) ∧ (v : Int) % 4294967296 = (d : Int) ∧ (v : Int) / 9223372036854775808 = (b' : Int) ∧ d < di ∧ b' ≤ 1 ∧ d + y + b = x + di * b' ∧ (y = 0 → v = t) ∧ t < dm := by
 simp only [IntKind.wrap_u64, IntKind.wrap_u32]
 rw [fo] at *
 rw [gu]
 by_cases h1 : b ≤ x
 ·
  by_cases h2 : b + y ≤ x
  ·
   exact ⟨x - b, x - b - y, x - b - y, 0, by omega, by omega, by omega, by omega, by omega, by omega, by omega, by omega, by omega, by omega⟩
  ·
   exact ⟨x - b, 18446744073709551616 + x - b - y, 4294967296 + x - b - y, 1, by omega, by omega, by omega, by omega, by omega, by omega, by omega, by omega, by omega, by omega⟩
 ·
  exact ⟨18446744073709551616 + x - b, 18446744073709551616 + x - b - y, 4294967296 + x - b - y, 1, by omega, by omega, by omega, by omega, by omega, by omega, by omega, by omega, by omega, by omega⟩

set_option maxHeartbeats 2000000 in
theorem ael (Ax Ay : Option Addr) (cx cy : Nat) (xl yl : List Nat) (n m : Nat) (w : World) (hx : rq w Ax cx xl n) (hy : rq w Ay cy yl m) (hk : xl.length ≤ 35184372088832) (hle : m ≤ n) :
  Calls Tryz.prog 145 #[.slice Ax xl.length cx, .slice Ay yl.length cy] w fun e w' => aqx w (n - m) e w' := by
 have hyx : yl.length ≤ xl.length := hy.len (Nat.lt_of_le_of_lt hle hx.Mk)
 have hmk := aet xl.length hk
 have aag := air w xl.length hk 136
 obtain ⟨C, hC⟩ : ∃ C, C = xl.length := ⟨_, rfl⟩
 have Ms : (w.alloc (.cells (xu .u32 (List.replicate xl.length 0)) 136)).ownsRow w.heap.size 136 1 (.slice (some ⟨w.heap.size, 0, none⟩) 0 C) 0 (zh .u32 []) := by rw [hC]; exact aag
 have hmk' : ∀ W : World, (Instr.makeSlice 48 (.int .i64 0) (.int .i64 (xl.length : Int))).run Tryz.prog W = .ok (.slice (some ⟨W.heap.size, 0, none⟩) 0 C) (W.alloc (.cells (xu .u32 (List.replicate xl.length 0)) 136)) := by rw [hC]; exact hmk
 have HC := Lib.hid hC
 clear hmk aag hC
 obtain ⟨i0, hi0, hz0, hz1, hz2⟩ := info_parts aae
 have hx1 := hx.uk; have hx2 := hx.cap2; have hy1 := hy.uk; have hy2 := hy.cap2
 go_enter Tryz.func145, Tryz.ntmps145
 go_wp2_with fail
 go_loopw [5, 6, 7] (fun ov cv iv wr => ∃ (i c : Nat) (l : List Nat), i ≤ xl.length ∧ ov = .slice (some ⟨w.heap.size, 0, none⟩) i C ∧ cv = .int .u64 ((c : Nat) : Int) ∧ iv = .int .i64 ((i : Nat) : Int) ∧ Hid (Wd.Ip di xl yl l i c) ∧ wr.ownsRow w.heap.size 136 1 (.slice (some ⟨w.heap.size, 0, none⟩) i C) i (zh .u32 l) ∧ Below w.heap.size w wr) (fun _ _ iv _ => xl.length - (intOf iv).toNat)
 case atStart => exact ⟨0, 0, [], Nat.zero_le _, rfl, rfl, rfl, Wd.Ip.start _ _ _, Ms, (Below.refl _ _).alloc (Nat.le_refl _) _⟩
 case round =>
  obtain ⟨i, c, l, hi, rfl, rfl, rfl, HI, hown, hg⟩ := hrel
  have hli := HI.out.len
  have hgl := ais hown
  have hsz := hg.size
  clear Ms hmk'
  by_cases hlx : i < xl.length
  ·
   have dx : decide ((i : Int) < (xl.length : Int)) = true := decide_eq_true om
   have dx' : decide (i < xl.length) = true := decide_eq_true om
   have hCi : i + 1 ≤ C := by have := HC.out; omega
   have hcB := HI.out.b1
   obtain ⟨x, Gj⟩ : ∃ x, x = Wd.g xl i := ⟨_, rfl⟩
   obtain ⟨y, Mq⟩ : ∃ y, y = Wd.g yl i := ⟨_, rfl⟩
   have zo : x < di := by rw [Gj]; exact Wd.getD_lt (by rw [fo]; omega) _ hx.lt i
   have Df : y < di := by rw [Mq]; exact Wd.getD_lt (by rw [fo]; omega) _ hy.lt i
   have b64 : ∀ t : Nat, t < di → t < dm := fun t ht => by rw [fo] at ht; rw [gu]; omega
   have e1 : IntKind.u64.wrap (x : Int) = (x : Int) := jf rfl (b64 _ zo)
   have e2 : IntKind.u64.wrap (y : Int) = (y : Int) := jf rfl (b64 _ Df)
   obtain ⟨t, v, d, b', e3, e4, e5, e5', e6, hdB, hb', heq, hv0, Ty⟩ := aup zo hcB y Df
   have hst := HI.out.step (by rw [← Wd.ry]; exact Gj) (by rw [← Wd.ry]; exact Mq) hdB hb' heq
   have HST := hide hst
   obtain ⟨bx, ox, rfl, hbx, hcx⟩ := hx.ws om
   have Fs : wr.cell? ⟨bx, ox + i, none⟩ = some (.int .u32 (x : Int)) := by rw [Gj]; exact (hg.cell (p := ⟨bx, ox + i, none⟩) hbx).trans (hcx i hlx)
   have hy0 : ¬ i < yl.length → y = 0 := fun h => by rw [Mq]; simp [Wd.g, List.getD, h]
   have Jh : i < yl.length → ∃ b o, Ay = some ⟨b, o, none⟩ ∧ wr.cell? ⟨b, o + i, none⟩ = some (.int .u32 (y : Int)) := fun h => by
    obtain ⟨b, o, rfl, hbb, hc⟩ := hy.ws om
    exact ⟨b, o, rfl, by rw [Mq]; exact (hg.cell (p := ⟨b, o + i, none⟩) hbb).trans (hc i h)⟩
   clear hcx Gj Mq hst heq hdB b64 zo Df hz0 hz2
   by_cases hly : i < yl.length
   ·
    have dy : decide ((i : Int) < (yl.length : Int)) = true := decide_eq_true om
    have dy' : decide (i < yl.length) = true := decide_eq_true om
    obtain ⟨by', oy, rfl, Oj⟩ := Jh om
    clear Jh hy0 hv0
    go_wp2_with (first | (at_builtin; refine wpList_append_fits _ rfl _ _ 48 rfl w.heap.size 136 i0 1 Tryz.underlying48 hi0 hz1 w.heap.size _ C (zh .u32 l) rfl (hown.alloc _) ⟨_, 0, none⟩ 1 1 [.int .u32 ((d : Nat) : Int)] rfl rfl (one_cell _ _ _) (Ns _) om ?_; intro w1 hown1 hgrow1) | fail)
    obtain ⟨r1, r2⟩ := Ey rfl (hg.alloc hsz _) (by simp <;> omega) hown1 hgrow1
    clear hown1 hgrow1 hown hg
    go_wp2_with fail
    go_roundw
    case rel => exact ⟨i + 1, b', l ++ [d], by omega, rfl, rfl, by go_num, aa HST, r1, r2⟩
    case measure => simp [intOf] <;> omega
   ·
    have dy : decide ((i : Int) < (yl.length : Int)) = false := decide_eq_false om
    have dy' : decide (i < yl.length) = false := decide_eq_false om
    obtain rfl : v = t := hv0 (hy0 om)
    clear Jh hy0 hv0
    go_wp2_with (first | (at_builtin; refine wpList_append_fits _ rfl _ _ 48 rfl w.heap.size 136 i0 1 Tryz.underlying48 hi0 hz1 w.heap.size _ C (zh .u32 l) rfl (hown.alloc _) ⟨_, 0, none⟩ 1 1 [.int .u32 ((d : Nat) : Int)] rfl rfl (one_cell _ _ _) (Ns _) om ?_; intro w1 hown1 hgrow1) | fail)
    obtain ⟨r1, r2⟩ := Ey rfl (hg.alloc hsz _) (by simp <;> omega) hown1 hgrow1
    clear hown1 hgrow1 hown hg
    go_wp2_with fail
    go_roundw
    case rel => exact ⟨i + 1, b', l ++ [d], by omega, rfl, rfl, by go_num, aa HST, r1, r2⟩
    case measure => simp [intOf] <;> omega
  ·
   have e : i = xl.length := by omega
   subst e
   have hv := HI.out.done rfl hyx (by rw [hx.val, hy.val]; exact hle)
   rw [hx.val, hy.val] at hv
   have HV := Lib.hid hv; have Jk := hide HI.out.lt
   obtain ⟨hws, hcap, hmax⟩ := aue hli.symm hown hgl
   have htr := Dl (some ⟨w.heap.size, 0, none⟩) C l wr.heap.size wr hws hcap (by have := HC.out; omega)
   rw [hli] at htr
   have HTR := hide htr; have HWS := hide hws
   clear hv hown htr hws hmax hz0 hz2
   go_wp2_with fail
   refine (aa HTR).mono ?_
   rintro e w' ⟨⟨k, rfl, ht, hk2⟩, rfl⟩
   dsimp only
   go_wp2_with fail
   go_ret
   have hk3 : k = (l.take k).length := by rw [List.length_take]; omega
   refine ⟨some ⟨w.heap.size, 0, none⟩, C, l.take k, Gh hk3, ?_, hg⟩
   have := rq.Zf (cap := C) (aa HWS) (aa Jk) ht om (by have := HC.out; omega) (by have := HC.out; omega)
   rwa [HV.out] at this
end Go.Proofs.YtpjgoogeokbaaaaGreatDoor
namespace Go.Proofs.YtpjgoogeokbaaaaGreatDoor
open Go.RowKit

theorem add_same {z1 z2 : Int} {m : Bool} (h1 : m = decide (z1 < 0)) (h2 : m = decide (z2 < 0)) : (if m then -((z1.natAbs + z2.natAbs : Nat) : Int) else ((z1.natAbs + z2.natAbs : Nat) : Int)) = z1 + z2 := by
 subst h1
 by_cases a : z1 < 0 <;> by_cases b : z2 < 0 <;> simp [a, b] at h2 ⊢ <;> omega
theorem afi {z1 z2 : Int} {m m' : Bool} (hne : m ≠ m') (h1 : m = decide (z1 < 0)) (h2 : m' = decide (z2 < 0)) (h : z2.natAbs ≤ z1.natAbs) : (if m then -((z1.natAbs - z2.natAbs : Nat) : Int) else ((z1.natAbs - z2.natAbs : Nat) : Int)) = z1 + z2 := by
 subst h1 h2
 by_cases a : z1 < 0 <;> by_cases b : z2 < 0 <;> simp [a, b] at hne ⊢ <;> omega

set_option maxHeartbeats 8000000 in
theorem ast (A1 : Option Addr) (c1 : Nat) (l1 : List Nat) (m1 : Bool) (z1 : Int) (A2 : Option Addr) (c2 : Nat) (l2 : List Nat) (m2 : Bool) (z2 : Int) (w : World) (h1 : bg w A1 c1 l1 m1 z1) (h2 : bg w A2 c2 l2 m2 z2) (hk : l1.length + l2.length + 1 ≤ 35184372088832) (hs : m1 = m2) :
  Calls Tryz.prog 97 #[.agg #[.slice A1 l1.length c1, .bool m1], .agg #[.slice A2 l2.length c2, .bool m2]] w fun e w' => uq w (z1 + z2) e w' := by
 have hv := add_same h1.sign (hs ▸ h2.sign)
 have SG : (m1 == m2) = true := by rw [hs]; exact beq_self_eq_true _
 have HT := hide (fun W (hW : Below w.heap.size w W) => aek A1 A2 c1 c2 l1 l2 z1.natAbs z2.natAbs W (h1.nat.below hW) (h2.nat.below hW) om om)
 obtain ⟨p, hp⟩ : ∃ p, p = z1.natAbs + z2.natAbs := ⟨_, rfl⟩
 obtain ⟨z, hz⟩ : ∃ z, z = z1 + z2 := ⟨_, rfl⟩
 rw [← hp] at HT hv
 rw [← hz] at hv ⊢
 have HV := Lib.hid hv
 clear h1 h2 hk hp hz hv hs
 go_enter Tryz.func97, Tryz.ntmps97
 go_wp2_with fail
 obtain ⟨n0, n1, n2, hsz, hw0⟩ := ll w (.cells #[.slice A1 l1.length c1, .bool m1] 50) (.cells #[.slice A2 l2.length c2, .bool m2] 50) (.cells #[.slice none 0 0, .bool false] 50)
 generalize (((w.alloc (.cells #[.slice A1 l1.length c1, .bool m1] 50)).alloc (.cells #[.slice A2 l2.length c2, .bool m2] 50)).alloc (.cells #[.slice none 0 0, .bool false] 50)) = W0 at *
 have q0 := lt_of_block n0; have q1 := lt_of_block n1; have q2 := lt_of_block n2
 have KEEP : ∀ X, Below W0.heap.size W0 X → (fun w' => w'.cell? ⟨w.heap.size, 0, none⟩ = some (.slice A1 l1.length c1) ∧ w'.cell? ⟨w.heap.size, 1, none⟩ = some (.bool m1) ∧ w'.cell? ⟨w.heap.size + 1, 0, none⟩ = some (.slice A2 l2.length c2) ∧ w'.cell? ⟨w.heap.size + 1, 1, none⟩ = some (.bool m2)) X := fun X hX => ⟨(hX.cell (p := ⟨w.heap.size, 0, none⟩) q0).trans (ag n0 0), (hX.cell (p := ⟨w.heap.size, 1, none⟩) q0).trans (ag n0 1), (hX.cell (p := ⟨w.heap.size + 1, 0, none⟩) q1).trans (ag n1 0), (hX.cell (p := ⟨w.heap.size + 1, 1, none⟩) q1).trans (ag n1 1)⟩
 obtain ⟨k0, k1, k2, k3⟩ := KEEP W0 (Below.refl _ _)
 have r0 : W0.cell? ⟨w.heap.size + 1 + 1, 0, none⟩ = some (.slice none 0 0) := ag n2 0
 have r1 : W0.cell? ⟨w.heap.size + 1 + 1, 1, none⟩ = some (.bool false) := ag n2 1
 have f0 := ah n2 0
 have f1 := ah n2 1
 have NR := Lib.hid n2; have HKE := hide KEEP
 clear n0 n1 n2 hsz KEEP
 go_wp2_with fail
 go_region_held3 (fun w' => w'.cell? ⟨w.heap.size, 0, none⟩ = some (.slice A1 l1.length c1) ∧ w'.cell? ⟨w.heap.size, 1, none⟩ = some (.bool m1) ∧ w'.cell? ⟨w.heap.size + 1, 0, none⟩ = some (.slice A2 l2.length c2) ∧ w'.cell? ⟨w.heap.size + 1, 1, none⟩ = some (.bool m2)) (first | with_reducible exact ⟨(zy _ _ _ _ om).trans ((hc _ _ q0).trans k0), (zy _ _ _ _ om).trans ((hc _ _ q0).trans k1), (zy _ _ _ _ om).trans ((hc _ _ q1).trans k2), (zy _ _ _ _ om).trans ((hc _ _ q1).trans k3)⟩ | exact (aa HKE) _ (by (first | with_reducible assumption | (repeat (first | with_reducible exact Below.refl _ _ | with_reducible assumption | refine Below.drew ?_ | (refine Below.alloc ?_ (by simp <;> omega) _) | refine qd ?_ _))))) (first | (go_at_call 143; refine ((aa HT) _ (au hw0 (by (first | with_reducible assumption | (repeat (first | with_reducible exact Below.refl _ _ | with_reducible assumption | refine Below.drew ?_ | (refine Below.alloc ?_ (by simp <;> omega) _) | refine qd ?_ _)))))).mono ?_; rintro e w' ⟨A5, c5, l5, rfl, zq, hb⟩; have hbw := ay (w := W0) (by (first | with_reducible assumption | (repeat (first | with_reducible exact Below.refl _ _ | with_reducible assumption | refine Below.drew ?_ | (refine Below.alloc ?_ (by simp <;> omega) _) | refine qd ?_ _)))) hb; obtain ⟨hc, hfz⟩ := az hbw) | (go_at_call 141; refine (Bf A5 c5 l5 p m1 _ (by exact zq)).mono ?_; rw [HV.out]; rintro e w' ⟨A6, c6, l6, m6, rfl, og, hb⟩; have hbw := ay (w := W0) (by (first | with_reducible assumption | (repeat (first | with_reducible exact Below.refl _ _ | with_reducible assumption | refine Below.drew ?_ | (refine Below.alloc ?_ (by simp <;> omega) _) | refine qd ?_ _)))) hb; obtain ⟨hc, hfz⟩ := az hbw))
 all_goals
  have hblk : w'.heap[w.heap.size + 1 + 1]? = some (.cells #[.slice none 0 0, .bool false] 50 (0, 0)) := (hbw.block _ q2).trans NR.out
  have jd := Lib.hid hblk
  have gp : Below w.heap.size w w' := au hw0 hbw
  clear hblk
  go_wp2_with fail
  exact bodyPost_ret (v := .agg #[.slice A6 l6.length c6, .bool m6]) (by simp [results, Tryz.results97, go_sem, hc, r0, r1, q2]) rfl
   ⟨A6, c6, l6, m6, rfl, og.upto jd.out (Ck _ _ _ _) (fq _ _ _ _), gp.grown (fq _ _ _ _) gp.size (fun k hk => by injection hk with hk; omega)⟩

set_option maxHeartbeats 8000000 in
theorem bfp (A1 : Option Addr) (c1 : Nat) (l1 : List Nat) (m1 : Bool) (z1 : Int) (A2 : Option Addr) (c2 : Nat) (l2 : List Nat) (m2 : Bool) (z2 : Int) (w : World) (h1 : bg w A1 c1 l1 m1 z1) (h2 : bg w A2 c2 l2 m2 z2) (hk : l1.length + l2.length + 1 ≤ 35184372088832) (hs : m1 ≠ m2) (ho : z2.natAbs ≤ z1.natAbs) :
  Calls Tryz.prog 97 #[.agg #[.slice A1 l1.length c1, .bool m1], .agg #[.slice A2 l2.length c2, .bool m2]] w fun e w' => uq w (z1 + z2) e w' := by
 have hv := afi hs h1.sign h2.sign ho
 have HT := hide (fun W (hW : Below w.heap.size w W) => ael A1 A2 c1 c2 l1 l2 z1.natAbs z2.natAbs W (h1.nat.below hW) (h2.nat.below hW) om ho)
 have ho3 : 0 ≤ vw z1.natAbs z2.natAbs := by unfold vw; (repeat' split) <;> omega
 have SG : (m1 == m2) = false := beq_eq_false_iff_ne.2 hs
 have HO := hide (fun W (hW : Below w.heap.size w W) => Ij A1 A2 c1 c2 l1 l2 z1.natAbs z2.natAbs W (h1.nat.below hW) (h2.nat.below hW))
 obtain ⟨o, hoo⟩ : ∃ o, o = vw z1.natAbs z2.natAbs := ⟨_, rfl⟩
 rw [← hoo] at HO ho3
 have d1 : decide ((0 : Int) ≤ o) = true := decide_eq_true ho3
 obtain ⟨p, hp⟩ : ∃ p, p = z1.natAbs - z2.natAbs := ⟨_, rfl⟩
 obtain ⟨z, hz⟩ : ∃ z, z = z1 + z2 := ⟨_, rfl⟩
 rw [← hp] at HT hv
 rw [← hz] at hv ⊢
 have HV := Lib.hid hv
 clear h1 h2 hk hp hz hv hs ho ho3 hoo
 go_enter Tryz.func97, Tryz.ntmps97
 go_wp2_with fail
 obtain ⟨n0, n1, n2, hsz, hw0⟩ := ll w (.cells #[.slice A1 l1.length c1, .bool m1] 50) (.cells #[.slice A2 l2.length c2, .bool m2] 50) (.cells #[.slice none 0 0, .bool false] 50)
 generalize (((w.alloc (.cells #[.slice A1 l1.length c1, .bool m1] 50)).alloc (.cells #[.slice A2 l2.length c2, .bool m2] 50)).alloc (.cells #[.slice none 0 0, .bool false] 50)) = W0 at *
 have q0 := lt_of_block n0; have q1 := lt_of_block n1; have q2 := lt_of_block n2
 have KEEP : ∀ X, Below W0.heap.size W0 X → (fun w' => w'.cell? ⟨w.heap.size, 0, none⟩ = some (.slice A1 l1.length c1) ∧ w'.cell? ⟨w.heap.size, 1, none⟩ = some (.bool m1) ∧ w'.cell? ⟨w.heap.size + 1, 0, none⟩ = some (.slice A2 l2.length c2) ∧ w'.cell? ⟨w.heap.size + 1, 1, none⟩ = some (.bool m2)) X := fun X hX => ⟨(hX.cell (p := ⟨w.heap.size, 0, none⟩) q0).trans (ag n0 0), (hX.cell (p := ⟨w.heap.size, 1, none⟩) q0).trans (ag n0 1), (hX.cell (p := ⟨w.heap.size + 1, 0, none⟩) q1).trans (ag n1 0), (hX.cell (p := ⟨w.heap.size + 1, 1, none⟩) q1).trans (ag n1 1)⟩
 obtain ⟨k0, k1, k2, k3⟩ := KEEP W0 (Below.refl _ _)
 have r0 : W0.cell? ⟨w.heap.size + 1 + 1, 0, none⟩ = some (.slice none 0 0) := ag n2 0
 have r1 : W0.cell? ⟨w.heap.size + 1 + 1, 1, none⟩ = some (.bool false) := ag n2 1
 have f0 := ah n2 0
 have f1 := ah n2 1
 have NR := Lib.hid n2; have HKE := hide KEEP
 clear n0 n1 n2 hsz KEEP
 go_wp2_with fail
 refine ((aa HO) _ hw0).mono ?_
 rintro e w1 ⟨rfl, hw1⟩
 obtain ⟨kk, rfl⟩ := hw1
 have hk0 : Below W0.heap.size W0 (W0.drewN kk) := qd (Below.refl _ _) kk
 go_wp2_with fail
 go_region_held3 (fun w' => w'.cell? ⟨w.heap.size, 0, none⟩ = some (.slice A1 l1.length c1) ∧ w'.cell? ⟨w.heap.size, 1, none⟩ = some (.bool m1) ∧ w'.cell? ⟨w.heap.size + 1, 0, none⟩ = some (.slice A2 l2.length c2) ∧ w'.cell? ⟨w.heap.size + 1, 1, none⟩ = some (.bool m2)) (first | with_reducible exact ⟨(zy _ _ _ _ om).trans ((hc _ _ q0).trans k0), (zy _ _ _ _ om).trans ((hc _ _ q0).trans k1), (zy _ _ _ _ om).trans ((hc _ _ q1).trans k2), (zy _ _ _ _ om).trans ((hc _ _ q1).trans k3)⟩ | exact (aa HKE) _ (by (first | with_reducible assumption | (repeat (first | with_reducible exact Below.refl _ _ | with_reducible assumption | refine Below.drew ?_ | (refine Below.alloc ?_ (by simp <;> omega) _) | refine qd ?_ _))))) (first | (go_at_call 145; refine ((aa HT) _ (au hw0 (by (first | with_reducible assumption | (repeat (first | with_reducible exact Below.refl _ _ | with_reducible assumption | refine Below.drew ?_ | (refine Below.alloc ?_ (by simp <;> omega) _) | refine qd ?_ _)))))).mono ?_; rintro e w' ⟨A5, c5, l5, rfl, zq, hb⟩; have hbw := ay (w := W0) (by (first | with_reducible assumption | (repeat (first | with_reducible exact Below.refl _ _ | with_reducible assumption | refine Below.drew ?_ | (refine Below.alloc ?_ (by simp <;> omega) _) | refine qd ?_ _)))) hb; obtain ⟨hc, hfz⟩ := az hbw) | (go_at_call 141; refine (Bf A5 c5 l5 p m1 _ (by exact zq)).mono ?_; rw [HV.out]; rintro e w' ⟨A6, c6, l6, m6, rfl, og, hb⟩; have hbw := ay (w := W0) (by (first | with_reducible assumption | (repeat (first | with_reducible exact Below.refl _ _ | with_reducible assumption | refine Below.drew ?_ | (refine Below.alloc ?_ (by simp <;> omega) _) | refine qd ?_ _)))) hb; obtain ⟨hc, hfz⟩ := az hbw))
 all_goals
  have hblk : w'.heap[w.heap.size + 1 + 1]? = some (.cells #[.slice none 0 0, .bool false] 50 (0, 0)) := (hbw.block _ q2).trans NR.out
  have jd := Lib.hid hblk
  have gp : Below w.heap.size w w' := au hw0 hbw
  clear hblk
  go_wp2_with fail
  exact bodyPost_ret (v := .agg #[.slice A6 l6.length c6, .bool m6]) (by simp [results, Tryz.results97, go_sem, hc, r0, r1, q2]) rfl
   ⟨A6, c6, l6, m6, rfl, og.upto jd.out (Ck _ _ _ _) (fq _ _ _ _), gp.grown (fq _ _ _ _) gp.size (fun k hk => by injection hk with hk; omega)⟩

set_option maxHeartbeats 8000000 in
theorem bfo (A1 : Option Addr) (c1 : Nat) (l1 : List Nat) (m1 : Bool) (z1 : Int) (A2 : Option Addr) (c2 : Nat) (l2 : List Nat) (m2 : Bool) (z2 : Int) (w : World) (h1 : bg w A1 c1 l1 m1 z1) (h2 : bg w A2 c2 l2 m2 z2) (hk : l1.length + l2.length + 1 ≤ 35184372088832) (hs : m1 ≠ m2) (ho : ¬ z2.natAbs ≤ z1.natAbs) :
  Calls Tryz.prog 97 #[.agg #[.slice A1 l1.length c1, .bool m1], .agg #[.slice A2 l2.length c2, .bool m2]] w fun e w' => uq w (z1 + z2) e w' := by
 have hv := afi (Ne.symm hs) h2.sign h1.sign om
 rw [Int.add_comm z2 z1] at hv
 have HT := hide (fun W (hW : Below w.heap.size w W) => ael A2 A1 c2 c1 l2 l1 z2.natAbs z1.natAbs W (h2.nat.below hW) (h1.nat.below hW) om om)
 have ho3 : ¬ 0 ≤ vw z1.natAbs z2.natAbs := by unfold vw; (repeat' split) <;> omega
 have SG : (m1 == m2) = false := beq_eq_false_iff_ne.2 hs
 have HO := hide (fun W (hW : Below w.heap.size w W) => Ij A1 A2 c1 c2 l1 l2 z1.natAbs z2.natAbs W (h1.nat.below hW) (h2.nat.below hW))
 obtain ⟨o, hoo⟩ : ∃ o, o = vw z1.natAbs z2.natAbs := ⟨_, rfl⟩
 rw [← hoo] at HO ho3
 have d1 : decide ((0 : Int) ≤ o) = false := decide_eq_false ho3
 obtain ⟨p, hp⟩ : ∃ p, p = z2.natAbs - z1.natAbs := ⟨_, rfl⟩
 obtain ⟨z, hz⟩ : ∃ z, z = z1 + z2 := ⟨_, rfl⟩
 rw [← hp] at HT hv
 rw [← hz] at hv ⊢
 have HV := Lib.hid hv
 clear h1 h2 hk hp hz hv hs ho ho3 hoo
 go_enter Tryz.func97, Tryz.ntmps97
 go_wp2_with fail
 obtain ⟨n0, n1, n2, hsz, hw0⟩ := ll w (.cells #[.slice A1 l1.length c1, .bool m1] 50) (.cells #[.slice A2 l2.length c2, .bool m2] 50) (.cells #[.slice none 0 0, .bool false] 50)
 generalize (((w.alloc (.cells #[.slice A1 l1.length c1, .bool m1] 50)).alloc (.cells #[.slice A2 l2.length c2, .bool m2] 50)).alloc (.cells #[.slice none 0 0, .bool false] 50)) = W0 at *
 have q0 := lt_of_block n0; have q1 := lt_of_block n1; have q2 := lt_of_block n2
 have KEEP : ∀ X, Below W0.heap.size W0 X → (fun w' => w'.cell? ⟨w.heap.size, 0, none⟩ = some (.slice A1 l1.length c1) ∧ w'.cell? ⟨w.heap.size, 1, none⟩ = some (.bool m1) ∧ w'.cell? ⟨w.heap.size + 1, 0, none⟩ = some (.slice A2 l2.length c2) ∧ w'.cell? ⟨w.heap.size + 1, 1, none⟩ = some (.bool m2)) X := fun X hX => ⟨(hX.cell (p := ⟨w.heap.size, 0, none⟩) q0).trans (ag n0 0), (hX.cell (p := ⟨w.heap.size, 1, none⟩) q0).trans (ag n0 1), (hX.cell (p := ⟨w.heap.size + 1, 0, none⟩) q1).trans (ag n1 0), (hX.cell (p := ⟨w.heap.size + 1, 1, none⟩) q1).trans (ag n1 1)⟩
 obtain ⟨k0, k1, k2, k3⟩ := KEEP W0 (Below.refl _ _)
 have r0 : W0.cell? ⟨w.heap.size + 1 + 1, 0, none⟩ = some (.slice none 0 0) := ag n2 0
 have r1 : W0.cell? ⟨w.heap.size + 1 + 1, 1, none⟩ = some (.bool false) := ag n2 1
 have f0 := ah n2 0
 have f1 := ah n2 1
 have NR := Lib.hid n2; have HKE := hide KEEP
 clear n0 n1 n2 hsz KEEP
 go_wp2_with fail
 refine ((aa HO) _ hw0).mono ?_
 rintro e w1 ⟨rfl, hw1⟩
 obtain ⟨kk, rfl⟩ := hw1
 have hk0 : Below W0.heap.size W0 (W0.drewN kk) := qd (Below.refl _ _) kk
 go_wp2_with fail
 go_region_held3 (fun w' => w'.cell? ⟨w.heap.size, 0, none⟩ = some (.slice A1 l1.length c1) ∧ w'.cell? ⟨w.heap.size, 1, none⟩ = some (.bool m1) ∧ w'.cell? ⟨w.heap.size + 1, 0, none⟩ = some (.slice A2 l2.length c2) ∧ w'.cell? ⟨w.heap.size + 1, 1, none⟩ = some (.bool m2)) (first | with_reducible exact ⟨(zy _ _ _ _ om).trans ((hc _ _ q0).trans k0), (zy _ _ _ _ om).trans ((hc _ _ q0).trans k1), (zy _ _ _ _ om).trans ((hc _ _ q1).trans k2), (zy _ _ _ _ om).trans ((hc _ _ q1).trans k3)⟩ | exact (aa HKE) _ (by (first | with_reducible assumption | (repeat (first | with_reducible exact Below.refl _ _ | with_reducible assumption | refine Below.drew ?_ | (refine Below.alloc ?_ (by simp <;> omega) _) | refine qd ?_ _))))) (first | (go_at_call 145; refine ((aa HT) _ (au hw0 (by (first | with_reducible assumption | (repeat (first | with_reducible exact Below.refl _ _ | with_reducible assumption | refine Below.drew ?_ | (refine Below.alloc ?_ (by simp <;> omega) _) | refine qd ?_ _)))))).mono ?_; rintro e w' ⟨A5, c5, l5, rfl, zq, hb⟩; have hbw := ay (w := W0) (by (first | with_reducible assumption | (repeat (first | with_reducible exact Below.refl _ _ | with_reducible assumption | refine Below.drew ?_ | (refine Below.alloc ?_ (by simp <;> omega) _) | refine qd ?_ _)))) hb; obtain ⟨hc, hfz⟩ := az hbw) | (go_at_call 141; refine (Bf A5 c5 l5 p m2 _ (by exact zq)).mono ?_; rw [HV.out]; rintro e w' ⟨A6, c6, l6, m6, rfl, og, hb⟩; have hbw := ay (w := W0) (by (first | with_reducible assumption | (repeat (first | with_reducible exact Below.refl _ _ | with_reducible assumption | refine Below.drew ?_ | (refine Below.alloc ?_ (by simp <;> omega) _) | refine qd ?_ _)))) hb; obtain ⟨hc, hfz⟩ := az hbw))
 all_goals
  have hblk : w'.heap[w.heap.size + 1 + 1]? = some (.cells #[.slice none 0 0, .bool false] 50 (0, 0)) := (hbw.block _ q2).trans NR.out
  have jd := Lib.hid hblk
  have gp : Below w.heap.size w w' := au hw0 hbw
  clear hblk
  go_wp2_with fail
  exact bodyPost_ret (v := .agg #[.slice A6 l6.length c6, .bool m6]) (by simp [results, Tryz.results97, go_sem, hc, r0, r1, q2]) rfl
   ⟨A6, c6, l6, m6, rfl, og.upto jd.out (Ck _ _ _ _) (fq _ _ _ _), gp.grown (fq _ _ _ _) gp.size (fun k hk => by injection hk with hk; omega)⟩

theorem axz (A1 : Option Addr) (c1 : Nat) (l1 : List Nat) (m1 : Bool) (z1 : Int) (A2 : Option Addr) (c2 : Nat) (l2 : List Nat) (m2 : Bool) (z2 : Int) (w : World) (h1 : bg w A1 c1 l1 m1 z1) (h2 : bg w A2 c2 l2 m2 z2) (hk : l1.length + l2.length + 1 ≤ 35184372088832) :
  Calls Tryz.prog 97 #[.agg #[.slice A1 l1.length c1, .bool m1], .agg #[.slice A2 l2.length c2, .bool m2]] w fun e w' => uq w (z1 + z2) e w' := by
 by_cases hs : m1 = m2
 ·
  exact ast A1 c1 l1 m1 z1 A2 c2 l2 m2 z2 w h1 h2 hk hs
 ·
  by_cases ho : z2.natAbs ≤ z1.natAbs
  ·
   exact bfp A1 c1 l1 m1 z1 A2 c2 l2 m2 z2 w h1 h2 hk hs ho
  ·
   exact bfo A1 c1 l1 m1 z1 A2 c2 l2 m2 z2 w h1 h2 hk hs ho
end Go.Proofs.YtpjgoogeokbaaaaGreatDoor
