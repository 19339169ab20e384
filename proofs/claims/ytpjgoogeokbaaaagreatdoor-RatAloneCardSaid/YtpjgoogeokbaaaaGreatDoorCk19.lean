/- Texts beneath a law of layer 1. -/
import Derived.Test.YtpjgoogeokbaaaaGreatDoorCk18
import Derived.OwnWalk
import Derived.Lib.IndexLaws
import Derived.Lib.CutLaws
import Derived.Laws.Concat
import Derived.Lib.ItoaNum
import Derived.Lib.AppendIntMem
import Derived.Deep.QuietTactic
import Derived.BigQuiet
set_option maxRecDepth 100000
namespace Go.Proofs.YtpjgoogeokbaaaaGreatDoor
open Go.RowKit

theorem Int.Jw {D z : Int} (hD : 0 < D) (h : 0 < D * z) : 0 < z := by
 rcases Int.lt_or_le 0 z with g | g
 ·
  exact g
 ·
  have := Int.mul_nonneg (a := D) (b := -z) om om
  rw [Int.mul_neg] at this; omega
def SdP (N D m A B C E : Int) : World → Value → Prop := fun W v => Wd.Uv N D m A B C E ∧ aqv (Rat.divInt A B) (Rat.divInt C E) W v
theorem asy (p q : Rat) : Rg.Qe oh (aqv p q) := by
 rintro w w' v hb ⟨u1, u2, rfl, h1, h2⟩
 exact ⟨u1, u2, rfl, df p w w' u1 hb h1, df q w w' u2 hb h2⟩
theorem aia (N D m A B C E : Int) : Rg.Qe oh (SdP N D m A B C E) := fun w w' v hb h => ⟨h.1, asy _ _ w w' v hb h.2⟩
theorem bfy {N D m A B C E : Int} (W : World) (v : Value) (h : SdP N D m A B C E W v) : ∃ vs, v = .tuple vs ∧ ∃ u, vs[0]? = some u ∧ ek (Rat.divInt A B) W u := by
 obtain ⟨_, u1, u2, rfl, h1, h2⟩ := h; exact ⟨_, rfl, u1, rfl, h1⟩
theorem bfx {N D m A B C E : Int} (W : World) (v : Value) (h : SdP N D m A B C E W v) : ∃ vs, v = .tuple vs ∧ ∃ u, vs[1]? = some u ∧ ek (Rat.divInt C E) W u := by
 obtain ⟨_, u1, u2, rfl, h1, h2⟩ := h; exact ⟨_, rfl, u2, rfl, h2⟩
theorem Wd.Uv.uniq {N D m a b c e a' b' c' e' : Int} (hD : 0 < D) (h : Wd.Uv N D m a b c e) (h' : Wd.Uv N D m a' b' c' e') : a = a' ∧ b = b' ∧ c = c' ∧ e = e' := by
 rcases h with ⟨g, h1, h2, h3, h4⟩ | h <;> rcases h' with ⟨g', h1', h2', h3', h4'⟩ | h'
 ·
  exact ⟨by omega, by omega, by omega, by omega⟩
 ·
  have := h'.big hD; omega
 ·
  have := h.big hD; omega
 ·
  exact h.uniq hD h'
theorem ata (N D m : Int) (hD : 0 < D) : ∃ A B C E : Int, ∀ W v, awh N D m W v → SdP N D m A B C E W v := by
 by_cases hx : ∃ a b c e, Wd.Uv N D m a b c e
 ·
  obtain ⟨a, b, c, e, h⟩ := hx
  refine ⟨a, b, c, e, fun W v hv => ?_⟩
  obtain ⟨a', b', c', e', h', hp⟩ := hv
  obtain ⟨rfl, rfl, rfl, rfl⟩ := h.uniq hD h'
  exact ⟨h, hp⟩
 ·
  exact ⟨0, 0, 0, 0, fun W v hv => by
   obtain ⟨a', b', c', e', h', hp⟩ := hv
   exact absurd ⟨a', b', c', e', h'⟩ hx⟩
def Wd.Kt (N D m n d : Int) : Prop := (D ≤ m ∧ n = N ∧ d = D) ∨ (m < D ∧ ∃ a b c e, Wd.Ac N D m a b c e ∧ n = (Wd.pick N D a b c e).1 ∧ d = (Wd.pick N D a b c e).2)
def aqw (w : World) (N D m : Int) (e' : Ending) (w' : World) : Prop := ∃ t : Wd.Told, ((Wd.nu N D ∧ 1 ≤ m ∧ m ≤ 1000000000000 ∧ ∃ p q, Wd.Kt N D m p q ∧ t = Wd.told (Rat.divInt p q)) ∨ (¬ (Wd.nu N D ∧ 1 ≤ m ∧ m ≤ 1000000000000) ∧ t = ⟨0, 0, 1⟩)) ∧ Bz w t e' w'
theorem Wd.Kt.of {N D m A B C E : Int} (hD : 0 < D) (h : Wd.Uv N D m A B C E) : 
  (let o := (N * B - A * D) * (E * D) - (C * D - N * E) * (D * B); (0 < o → Wd.Kt N D m C E) ∧ (o < 0 → Wd.Kt N D m A B) ∧ (o = 0 → E - B < 0 → Wd.Kt N D m C E) ∧ (o = 0 → ¬ E - B < 0 → Wd.Kt N D m A B)) := by
 have e1 : (N * B - A * D) * (E * D) - (C * D - N * E) * (D * B) = D * ((N * B - A * D) * E - (C * D - N * E) * B) := by
  rw [Int.mul_sub D]
  congr 1 <;> ac_rfl
 rw [e1]
 generalize hz : (N * B - A * D) * E - (C * D - N * E) * B = z
 have s1 : 0 < D * z → 0 < z := fun g => Int.Jw hD g
 have s2 : D * z < 0 → z < 0 := fun g => by
  have : 0 < D * -z := by rw [Int.mul_neg]; omega
  have := Int.Jw hD this; omega
 have s3 : D * z = 0 → z = 0 := fun g => by
  rcases Int.mul_eq_zero.1 g with g | g
  ·
   omega
  ·
   exact g
 rcases h with ⟨g, rfl, rfl, rfl, rfl⟩ | h
 ·
  exact ⟨fun _ => .inl ⟨g, rfl, rfl⟩, fun _ => .inl ⟨g, rfl, rfl⟩, fun _ _ => .inl ⟨g, rfl, rfl⟩, fun _ _ => .inl ⟨g, rfl, rfl⟩⟩
 ·
  have hbig := h.big hD
  have hA : Wd.pick N D A B C E = (A, B) → Wd.Kt N D m A B := fun g => .inr ⟨hbig, A, B, C, E, h, by rw [g], by rw [g]⟩
  have hC : Wd.pick N D A B C E = (C, E) → Wd.Kt N D m C E := fun g => .inr ⟨hbig, A, B, C, E, h, by rw [g], by rw [g]⟩
  refine ⟨fun g => hC ?_, fun g => hA ?_, fun g g2 => hC ?_, fun g g2 => hA ?_⟩
  ·
   have := s1 g
   unfold Wd.pick; rw [if_neg om]
  ·
   have := s2 g
   unfold Wd.pick; rw [if_pos om]
  ·
   have := s3 g
   unfold Wd.pick; rw [if_neg om]
  ·
   have := s3 g
   unfold Wd.pick; rw [if_pos om]
structure Wd.NdF (N D A B C E : Int) : Prop where
 BN : Bd N
 BD : Bd D
 BA : Bd A
 BB : Bd B
 BC : Bd C
 BE : Bd E
 D0 : 0 < D
 B0 : 0 < B
 E0 : 0 < E
 gB : A.natAbs.gcd B.natAbs = 1
 gE : C.natAbs.gcd E.natAbs = 1
 P1 : Bd (N * B - A * D)
 P2 : Bd (D * B)
 P3 : Bd (C * D - N * E)
 P4 : Bd (E * D)
 P5 : 0 < D * B
 P6 : 0 < E * D
theorem Wd.Ac.leD {N D m a b c e : Int} (h : Wd.Ac N D m a b c e) : N * b - a * D ≤ D ∧ c * D - N * e ≤ D := by
 have hd := h.Gt; have h1 := h.lo; have h2 := h.hi; have h3 := h.b1; have h4 := h.e1
 have hs : (N * b - a * D) * e + (c * D - N * e) * b = D := by
  calc (N * b - a * D) * e + (c * D - N * e) * b = D * (b * c - a * e) := by
        rw [Int.sub_mul, Int.sub_mul, Int.mul_sub, Int.mul_right_comm N e b, show a * D * e = D * (a * e) by ac_rfl, show c * D * b = D * (b * c) by ac_rfl]; omega
   _ = D := by rw [hd, Int.mul_one]
 have m1 : (N * b - a * D) * 1 ≤ (N * b - a * D) * e := Int.mul_le_mul_of_nonneg_left h4 om
 have m2 : (c * D - N * e) * 1 ≤ (c * D - N * e) * b := Int.mul_le_mul_of_nonneg_left h3 om
 have m3 : 0 ≤ (N * b - a * D) * e := Int.mul_nonneg om om
 have m4 : 0 ≤ (c * D - N * e) * b := Int.mul_nonneg om om
 constructor <;> omega
theorem Wd.amo {N D A B m : Int} (ok : Wd.nu N D) (hm : m ≤ 1000000000000) (hb : 1 ≤ B) (hbm : B ≤ m) (h0 : -D ≤ N * B - A * D) (h1 : N * B - A * D ≤ D) : Bd A := by
 obtain ⟨o1, o2, o3, o4, o5⟩ := ok
 have hNB : (N * B).natAbs ≤ 1000000000000 * 1000000000000 := by
  rw [Int.natAbs_mul]; exact Nat.mul_le_mul om om
 have h2 : A * D ≤ 1000000000000 * 1000000000000 + 1000000000000 := by omega
 have h3 : -(1000000000000 * 1000000000000 + 1000000000000) ≤ A * D := by omega
 unfold Bd
 constructor
 ·
  rcases Int.lt_or_le A 0 with g | g
  ·
   have : (-A) * 1 ≤ (-A) * D := Int.mul_le_mul_of_nonneg_left o1 om
   rw [Int.neg_mul, Int.neg_mul, Int.mul_one] at this; omega
  ·
   omega
 ·
  rcases Int.lt_or_le 0 A with g | g
  ·
   have : A * 1 ≤ A * D := Int.mul_le_mul_of_nonneg_left o1 om
   rw [Int.mul_one] at this; omega
  ·
   omega
theorem Wd.Uv.rdn {N D m A B C E : Int} (h : Wd.Uv N D m A B C E) (ok : Wd.nu N D) (hm : m ≤ 1000000000000) : Wd.NdF N D A B C E := by
 obtain ⟨o1, o2, o3, o4, o5⟩ := id ok
 have B : ∀ z : Int, -1000000000000 ≤ z → z ≤ 1000000000000 → Bd z := fun z g1 g2 => by unfold Bd; omega
 rcases h with ⟨g, rfl, rfl, rfl, rfl⟩ | h
 ·
  refine ⟨B _ om om, B _ om om, B _ om om, B _ om om, B _ om om, B _ om om, by omega, by omega, by omega, o5, o5, ?_, Wd.Rw om om, ?_, Wd.Rw om om, Int.mul_pos om om, Int.mul_pos om om⟩
  ·
   rw [Int.sub_self]; exact B 0 om om
  ·
   rw [Int.sub_self]; exact B 0 om om
 ·
  have h1 := h.b1; have h2 := h.bm; have h3 := h.e1; have h4 := h.em; have h5 := h.lo; have h6 := h.hi
  have hd := h.Gt
  have hl := h.leD
  exact ⟨B _ om om, B _ om om, Wd.amo ok hm h1 h2 om om, B _ om om, Wd.amo ok hm h3 h4 om om, B _ om om, by omega, by omega, by omega, Wd.Fz h.Gt, Wd.Pv h.Gt,
   B _ om om, Wd.Rw om om, B _ om om, Wd.Rw om om, Int.mul_pos om om, Int.mul_pos om om⟩
set_option maxHeartbeats 16000000 in
theorem asj (n d m : Int) (w : World) (ok : ¬ Wd.nu n d) :
  Calls Tryz.prog 19 #[.agg #[.int .i64 n, .int .i64 d], .int .i64 m] w fun e w' => Bz w ⟨0, 0, 1⟩ e w' := by
 have HV := hide (fun W (hW : Below w.heap.size w W) => Cc n d W)
 rw [decide_eq_false ok] at HV
 clear ok
 go_enter Tryz.func19, Tryz.ntmps19
 go_upto_region 1 with fail
 obtain ⟨np, n0, hsz, hw0⟩ := jm w (.cells #[.int .i64 n, .int .i64 d] 23) (.cells #[.int .i64 0, .int .i64 0] 23)
 generalize ((w.alloc (.cells #[.int .i64 n, .int .i64 d] 23)).alloc (.cells #[.int .i64 0, .int .i64 0] 23)) = W0 at *
 have p0 : W0.cell? ⟨w.heap.size, 0, none⟩ = some (.int .i64 n) := ag np 0
 have p1 : W0.cell? ⟨w.heap.size, 1, none⟩ = some (.int .i64 d) := ag np 1
 have r0 : W0.cell? ⟨w.heap.size + 1, 0, none⟩ = some (.int .i64 0) := ag n0 0
 have r1 : W0.cell? ⟨w.heap.size + 1, 1, none⟩ = some (.int .i64 0) := ag n0 1
 have f0 := ah n0 0; have f1 := ah n0 1
 have qp := lt_of_block np
 have q0 := lt_of_block n0
 clear np n0 hsz
 go_wp2_with fail
 refine ((aa HV) _ (by first | exact hw0 | exact hw0.drew)).mono ?_
 rintro e W1 ⟨rfl, hb⟩
 obtain ⟨hc, hfz⟩ := az hb
 replace p0 := (hc _ _ qp).trans p0
 replace p1 := (hc _ _ qp).trans p1
 replace r0 := (hc _ _ q0).trans r0
 replace r1 := (hc _ _ q0).trans r1
 replace f0 := (hfz _ _ q0).trans f0
 replace f1 := (hfz _ _ q0).trans f1
 replace qp := Nat.lt_of_lt_of_le qp hb.size
 replace q0 := Nat.lt_of_lt_of_le q0 hb.size
 replace hw0 := au hw0 hb
 clear hc hfz
 clear hb
 go_wp2_with fail
 exact bodyPost_ret (v := .tuple #[.agg #[.int .i64 0, .int .i64 0], .int .i64 1]) (by simp [results, Tryz.results19, go_sem, r0, r1, q0]) rfl
  ⟨rfl, hw0.grown (fq _ _ _ _) hw0.size (fun k hk => by injection hk with hk; omega)⟩
set_option maxHeartbeats 16000000 in
theorem axu (n d m : Int) (w : World) (ok : Wd.nu n d) (hk : m < 1) :
  Calls Tryz.prog 19 #[.agg #[.int .i64 n, .int .i64 d], .int .i64 m] w fun e w' => Bz w ⟨0, 0, 1⟩ e w' := by
 have HV := hide (fun W (hW : Below w.heap.size w W) => Cc n d W)
 rw [decide_eq_true ok] at HV
 have dk1 : decide (m < 1) = true := decide_eq_true om
 have dk2 : decide (1000000000000 < m) = false := decide_eq_false om
 clear ok hk
 go_enter Tryz.func19, Tryz.ntmps19
 go_upto_region 1 with fail
 obtain ⟨np, n0, hsz, hw0⟩ := jm w (.cells #[.int .i64 n, .int .i64 d] 23) (.cells #[.int .i64 0, .int .i64 0] 23)
 generalize ((w.alloc (.cells #[.int .i64 n, .int .i64 d] 23)).alloc (.cells #[.int .i64 0, .int .i64 0] 23)) = W0 at *
 have p0 : W0.cell? ⟨w.heap.size, 0, none⟩ = some (.int .i64 n) := ag np 0
 have p1 : W0.cell? ⟨w.heap.size, 1, none⟩ = some (.int .i64 d) := ag np 1
 have r0 : W0.cell? ⟨w.heap.size + 1, 0, none⟩ = some (.int .i64 0) := ag n0 0
 have r1 : W0.cell? ⟨w.heap.size + 1, 1, none⟩ = some (.int .i64 0) := ag n0 1
 have f0 := ah n0 0; have f1 := ah n0 1
 have qp := lt_of_block np
 have q0 := lt_of_block n0
 clear np n0 hsz
 go_wp2_with fail
 refine ((aa HV) _ (by first | exact hw0 | exact hw0.drew)).mono ?_
 rintro e W1 ⟨rfl, hb⟩
 obtain ⟨hc, hfz⟩ := az hb
 replace p0 := (hc _ _ qp).trans p0
 replace p1 := (hc _ _ qp).trans p1
 replace r0 := (hc _ _ q0).trans r0
 replace r1 := (hc _ _ q0).trans r1
 replace f0 := (hfz _ _ q0).trans f0
 replace f1 := (hfz _ _ q0).trans f1
 replace qp := Nat.lt_of_lt_of_le qp hb.size
 replace q0 := Nat.lt_of_lt_of_le q0 hb.size
 replace hw0 := au hw0 hb
 clear hc hfz
 clear hb
 go_wp2_with fail
 exact bodyPost_ret (v := .tuple #[.agg #[.int .i64 0, .int .i64 0], .int .i64 1]) (by simp [results, Tryz.results19, go_sem, r0, r1, q0]) rfl
  ⟨rfl, hw0.grown (fq _ _ _ _) hw0.size (fun k hk => by injection hk with hk; omega)⟩
set_option maxHeartbeats 16000000 in
theorem axv (n d m : Int) (w : World) (ok : Wd.nu n d) (hk : 1000000000000 < m) :
  Calls Tryz.prog 19 #[.agg #[.int .i64 n, .int .i64 d], .int .i64 m] w fun e w' => Bz w ⟨0, 0, 1⟩ e w' := by
 have HV := hide (fun W (hW : Below w.heap.size w W) => Cc n d W)
 rw [decide_eq_true ok] at HV
 have dk1 : decide (m < 1) = false := decide_eq_false om
 have dk2 : decide (1000000000000 < m) = true := decide_eq_true om
 clear ok hk
 go_enter Tryz.func19, Tryz.ntmps19
 go_upto_region 1 with fail
 obtain ⟨np, n0, hsz, hw0⟩ := jm w (.cells #[.int .i64 n, .int .i64 d] 23) (.cells #[.int .i64 0, .int .i64 0] 23)
 generalize ((w.alloc (.cells #[.int .i64 n, .int .i64 d] 23)).alloc (.cells #[.int .i64 0, .int .i64 0] 23)) = W0 at *
 have p0 : W0.cell? ⟨w.heap.size, 0, none⟩ = some (.int .i64 n) := ag np 0
 have p1 : W0.cell? ⟨w.heap.size, 1, none⟩ = some (.int .i64 d) := ag np 1
 have r0 : W0.cell? ⟨w.heap.size + 1, 0, none⟩ = some (.int .i64 0) := ag n0 0
 have r1 : W0.cell? ⟨w.heap.size + 1, 1, none⟩ = some (.int .i64 0) := ag n0 1
 have f0 := ah n0 0; have f1 := ah n0 1
 have qp := lt_of_block np
 have q0 := lt_of_block n0
 clear np n0 hsz
 go_wp2_with fail
 refine ((aa HV) _ (by first | exact hw0 | exact hw0.drew)).mono ?_
 rintro e W1 ⟨rfl, hb⟩
 obtain ⟨hc, hfz⟩ := az hb
 replace p0 := (hc _ _ qp).trans p0
 replace p1 := (hc _ _ qp).trans p1
 replace r0 := (hc _ _ q0).trans r0
 replace r1 := (hc _ _ q0).trans r1
 replace f0 := (hfz _ _ q0).trans f0
 replace f1 := (hfz _ _ q0).trans f1
 replace qp := Nat.lt_of_lt_of_le qp hb.size
 replace q0 := Nat.lt_of_lt_of_le q0 hb.size
 replace hw0 := au hw0 hb
 clear hc hfz
 clear hb
 go_wp2_with fail
 exact bodyPost_ret (v := .tuple #[.agg #[.int .i64 0, .int .i64 0], .int .i64 1]) (by simp [results, Tryz.results19, go_sem, r0, r1, q0]) rfl
  ⟨rfl, hw0.grown (fq _ _ _ _) hw0.size (fun k hk => by injection hk with hk; omega)⟩
set_option maxHeartbeats 16000000 in
theorem axt (n d m : Int) (w : World) (ok : Wd.nu n d) (g1 : 1 ≤ m) (g2 : m ≤ 1000000000000) :
  Calls Tryz.prog 19 #[.agg #[.int .i64 n, .int .i64 d], .int .i64 m] w fun e w' => aqw w n d m e w' := by
 have HV := hide (fun W (hW : Below w.heap.size w W) => Cc n d W)
 rw [decide_eq_true ok] at HV
 have dk1 : decide (m < 1) = false := decide_eq_false om
 have dk2 : decide (1000000000000 < m) = false := decide_eq_false om
 obtain ⟨A, B, C, E, hfix⟩ := ata n d m (by have := ok.1; omega)
 have HSD := hide (fun W v (h : ek (Rat.divInt n d) W v) => (atb n d m ok g1 g2 W v h).mono (fun e w' ⟨u, h1, h2, h3⟩ => (⟨u, h1, h2, hfix w' u h3⟩ : qz (SdP n d m A B C E) W e w')))
 have He : Hid (∀ W, Calls Tryz.prog 41 #[.agg #[.int .i64 n, .int .i64 d]] W (qz (ek (Rat.divInt n d)) W)) := hide (fun W => (Zg ok W).mono (fun e w' => Mf))
 have OKF := hide (okF ok)
 have Ha := hide (fun (h : Wd.Uv n d m A B C E) => Wd.Kt.of (by have := ok.1; omega) h)
 have HRD := hide (fun (h : Wd.Uv n d m A B C E) => h.rdn ok g2)
 have agb : Hid (∀ (p q : Int) (T : Wd.Told) e w', Wd.Kt n d m p q → T = Wd.told (Rat.divInt p q) → Bz w T e w' → aqw w n d m e w') := hide (fun p q T e w' h1 h2 h3 => ⟨T, .inl ⟨ok, g1, g2, p, q, h1, h2⟩, h3⟩)
 clear ok g1 g2 hfix
 go_enter Tryz.func19, Tryz.ntmps19
 go_upto_region 1 with fail
 obtain ⟨np, n0, hsz, hw0⟩ := jm w (.cells #[.int .i64 n, .int .i64 d] 23) (.cells #[.int .i64 0, .int .i64 0] 23)
 generalize ((w.alloc (.cells #[.int .i64 n, .int .i64 d] 23)).alloc (.cells #[.int .i64 0, .int .i64 0] 23)) = W0 at *
 have p0 : W0.cell? ⟨w.heap.size, 0, none⟩ = some (.int .i64 n) := ag np 0
 have p1 : W0.cell? ⟨w.heap.size, 1, none⟩ = some (.int .i64 d) := ag np 1
 have r0 : W0.cell? ⟨w.heap.size + 1, 0, none⟩ = some (.int .i64 0) := ag n0 0
 have r1 : W0.cell? ⟨w.heap.size + 1, 1, none⟩ = some (.int .i64 0) := ag n0 1
 have f0 := ah n0 0; have f1 := ah n0 1
 have qp := lt_of_block np
 have q0 := lt_of_block n0
 clear np n0 hsz
 go_wp2_with fail
 refine ((aa HV) _ (by first | exact hw0 | exact hw0.drew)).mono ?_
 rintro e W1 ⟨rfl, hb⟩
 obtain ⟨hc, hfz⟩ := az hb
 replace p0 := (hc _ _ qp).trans p0
 replace p1 := (hc _ _ qp).trans p1
 replace r0 := (hc _ _ q0).trans r0
 replace r1 := (hc _ _ q0).trans r1
 replace f0 := (hfz _ _ q0).trans f0
 replace f1 := (hfz _ _ q0).trans f1
 replace qp := Nat.lt_of_lt_of_le qp hb.size
 replace q0 := Nat.lt_of_lt_of_le q0 hb.size
 replace hw0 := au hw0 hb
 clear hc hfz
 clear hb
 have HO := hide (Own.empty hw0)
 have Cw := f0; have Cv := f1
 clear hw0 f0 f1
 go_upto_region 3 with fail
 refine Rg.uu 3 65 (Rg.pick [Rg.ji (.agg #[.int .i64 n, .int .i64 d]), ek (Rat.divInt n d), Dq W1.heap.size]) (cz w [] W1) oh [2] kr rfl (Rg.oq.pick ⟨Rg.fw _, df _, Dn _, trivial⟩) (cz.begin (aa HO))
  (Rg.ax (Rg.plain rfl (bfz rfl (Rg.ja kr rfl) (fun W h => ⟨(h.2.cell (p := ⟨w.heap.size, 0, none⟩) qp).trans p0, (h.2.cell (p := ⟨w.heap.size, 1, none⟩) qp).trans p1⟩) rfl))
   (Rg.ax (Rg.plain rfl (lg Tryz.func41 kr rfl cz.step (Rg.dw 0 kr) (fun W v0 hG h0 => by cases h0; exact aa He W)))
   (Rg.ax (Rg.plain rfl (Ho cz.step cz.size rfl (Fy (by intro j hj; simp at hj; (repeat' (first | (rcases hj with rfl | hj))) <;> first | (subst hj; rfl) | rfl))))
   Rg.jc))) ?_
 intro v V1 hG1 hv hne
 clear hne
 simp only [Rg.puts, List.take_succ_cons, List.take_zero, List.drop_succ_cons, List.drop_zero, Act.put, List.setIfInBounds_toArray, List.set_cons_zero, List.set_cons_succ]
 obtain ⟨abp, aav, Zv, Zn, abo, aau, Zu, Zm, e1, f1⟩ := (show ek (Rat.divInt n d) V1 (v 1) from hv 1 (by decide))
 obtain ⟨Fj, e2, adn, hz2⟩ := (show Dq W1.heap.size V1 (v 2) from hv 2 (by decide))
 simp only [e1, e2]
 have hO := hG1.1
 replace hO := Own.add (aa HO) hG1.2 adn hz2
 obtain ⟨-, _, _, _, _, _, _, _, _, hz, -⟩ := hO.box (Fj) (0) (List.Mem.head _)
 have beo := ag hz 0
 have bfk := ah hz 0
 have beh := ag hz 1
 have bff := ah hz 1
 have beb := ag hz 2
 have bfa := ah hz 2
 have bdw := ag hz 3
 have bev := ah hz 3
 have bhc := lt_of_block hz
 clear hz
 go_upto_region 4 with fail
 have hX := hG1.2
 replace hO := Own.set (xs := []) (ys := []) hO f1
 replace hX := Yg (v0 := .slice abp Zv.length aav) (v1 := .bool Zn) (v2 := .slice abo Zu.length aau) (v3 := .bool Zm) hX adn
 unfold Da at hO hX
 generalize (((V1.setCell ⟨Fj, 0, none⟩ (.slice abp Zv.length aav)).setCell ⟨Fj, 1, none⟩ (.bool Zn)).setCell ⟨Fj, 2, none⟩ (.slice abo Zu.length aau)).setCell ⟨Fj, 3, none⟩ (.bool Zm) = U1 at *
 replace p0 := (hX.cell (p := ⟨w.heap.size, 0, none⟩) qp).trans p0
 replace p1 := (hX.cell (p := ⟨w.heap.size, 1, none⟩) qp).trans p1
 replace r0 := (hX.cell (p := ⟨w.heap.size + 1, 0, none⟩) q0).trans r0
 replace r1 := (hX.cell (p := ⟨w.heap.size + 1, 1, none⟩) q0).trans r1
 replace Cw := (hX.frozen (p := ⟨w.heap.size + 1, 0, none⟩) q0).trans Cw
 replace Cv := (hX.frozen (p := ⟨w.heap.size + 1, 1, none⟩) q0).trans Cv
 replace qp := Nat.lt_of_lt_of_le qp hX.size
 replace q0 := Nat.lt_of_lt_of_le q0 hX.size
 try clear beo bfk beh bff beb bfa bdw bev hG1
 try clear e1 e2 f1 adn hz2 bhc
 try clear hX hv
 replace HO := hide hO
 clear hO
 go_upto_region 4 with fail
 refine Rg.uu 8 65 (Rg.pick [ek (Rat.divInt n d), Rg.ji (.int .i64 m), SdP n d m A B C E, SdP n d m A B C E, ek (Rat.divInt A B), ek (Rat.divInt C E), Dq U1.heap.size, Dq U1.heap.size]) (cz w [(Fj, Rat.divInt n d)] U1) oh [6, 7] kr rfl (Rg.oq.pick ⟨df _, Rg.fw _, aia _ _ _ _ _ _ _, aia _ _ _ _ _ _ _, df _, df _, Dn _, Dn _, trivial⟩) (cz.begin (aa HO))
  (Rg.ax (Rg.plain rfl (gy rfl (Rg.ja kr rfl) (fun W h => cz.box (List.Mem.head _) h) rfl))
   (Rg.ax (Rg.plain rfl (xe rfl (Rg.ja kr rfl)))
   (Rg.ax (Rg.plain rfl (jh Tryz.func63 kr rfl cz.step (Rg.dw 0 kr) (Rg.dw 1 kr) (fun W v0 v1 hG h0 h1 => by cases h1; exact aa HSD W v0 h0)))
   (Rg.ax (Rg.plain rfl (xe rfl (Rg.dw 2 kr)))
   (Rg.ax (Rg.plain rfl (bbq rfl (Rg.dw 3 kr) bfy))
   (Rg.ax (Rg.plain rfl (bbq rfl (Rg.dw 3 kr) bfx))
   (Rg.ax (Rg.plain rfl (Ho cz.step cz.size rfl (Fy (by intro j hj; simp at hj; (repeat' (first | (rcases hj with rfl | hj))) <;> first | (subst hj; rfl) | rfl))))
   (Rg.ax (Rg.plain rfl (Ho cz.step cz.size rfl (Fy (by intro j hj; simp at hj; (repeat' (first | (rcases hj with rfl | hj))) <;> first | (subst hj; rfl) | rfl))))
   Rg.jc)))))))) ?_
 intro v V2 hG2 hv hne
 simp only [Rg.puts, List.take_succ_cons, List.take_zero, List.drop_succ_cons, List.drop_zero, Act.put, List.setIfInBounds_toArray, List.set_cons_zero, List.set_cons_succ]
 have t2 : SdP n d m A B C E V2 (v 2) := hv 2 (by decide)
 obtain ⟨arj, aqp, aph, apc, ari, aqo, apg, apb, e4, f4⟩ := (show ek (Rat.divInt A B) V2 (v 4) from hv 4 (by decide))
 obtain ⟨bdq, bct, bca, bbx, bdp, bcs, bbz, bbw, e5, f5⟩ := (show ek (Rat.divInt C E) V2 (v 5) from hv 5 (by decide))
 obtain ⟨Eo, e6, adm, hz6⟩ := (show Dq U1.heap.size V2 (v 6) from hv 6 (by decide))
 obtain ⟨Ev, e7, Tj, hz7⟩ := (show Dq U1.heap.size V2 (v 7) from hv 7 (by decide))
 simp only [e4, e5, e6, e7]
 have hO := hG2.1
 have hnn : Ev ≠ Eo := fun h => hne 7 6 rfl rfl (by decide) (by decide) (by decide) rfl rfl (by rw [e6, e7, h])
 clear hne
 replace hO := Own.blq (aa HO) hG2.2 adm hz6 Tj hz7 hnn
 obtain ⟨-, _, _, _, _, _, _, _, _, hz, -⟩ := hO.box (Eo) (0) (List.Mem.tail _ (List.Mem.head _))
 have bej := ag hz 0
 have bfh := ah hz 0
 have bed := ag hz 1
 have bfc := ah hz 1
 have bdy := ag hz 2
 have bex := ah hz 2
 have bdt := ag hz 3
 have bes := ah hz 3
 have bgz := lt_of_block hz
 clear hz
 obtain ⟨-, _, _, _, _, _, _, _, _, hz, -⟩ := hO.box (Ev) (0) (List.Mem.head _)
 have bei := ag hz 0
 have bfg := ah hz 0
 have bec := ag hz 1
 have bfb := ah hz 1
 have bdx := ag hz 2
 have bew := ah hz 2
 have bds := ag hz 3
 have ber := ah hz 3
 have bgy := lt_of_block hz
 clear hz
 go_upto_region 5 with fail
 have hX := hG2.2
 have akg := Ud (v0 := .slice arj aph.length aqp) (v1 := .bool apc) (v2 := .slice ari apg.length aqo) (v3 := .bool apb) (hO.box (Eo) (0) (List.Mem.tail _ (List.Mem.head _))).2 f5
 replace hO := Own.set (xs := [(Ev, 0)]) (ys := [(Fj, Rat.divInt n d)]) hO f4
 replace hX := Yg (v0 := .slice arj aph.length aqp) (v1 := .bool apc) (v2 := .slice ari apg.length aqo) (v3 := .bool apb) hX adm
 replace hO := Own.set (xs := []) (ys := [(Eo, Rat.divInt A B), (Fj, Rat.divInt n d)]) hO akg
 replace hX := Yg (v0 := .slice bdq bca.length bct) (v1 := .bool bbx) (v2 := .slice bdp bbz.length bcs) (v3 := .bool bbw) hX Tj
 unfold Da at hO hX
 generalize (((((((V2.setCell ⟨Eo, 0, none⟩ (.slice arj aph.length aqp)).setCell ⟨Eo, 1, none⟩ (.bool apc)).setCell ⟨Eo, 2, none⟩ (.slice ari apg.length aqo)).setCell ⟨Eo, 3, none⟩ (.bool apb)).setCell ⟨Ev, 0, none⟩ (.slice bdq bca.length bct)).setCell ⟨Ev, 1, none⟩ (.bool bbx)).setCell ⟨Ev, 2, none⟩ (.slice bdp bbz.length bcs)).setCell ⟨Ev, 3, none⟩ (.bool bbw) = U2 at *
 replace p0 := (hX.cell (p := ⟨w.heap.size, 0, none⟩) qp).trans p0
 replace p1 := (hX.cell (p := ⟨w.heap.size, 1, none⟩) qp).trans p1
 replace r0 := (hX.cell (p := ⟨w.heap.size + 1, 0, none⟩) q0).trans r0
 replace r1 := (hX.cell (p := ⟨w.heap.size + 1, 1, none⟩) q0).trans r1
 replace Cw := (hX.frozen (p := ⟨w.heap.size + 1, 0, none⟩) q0).trans Cw
 replace Cv := (hX.frozen (p := ⟨w.heap.size + 1, 1, none⟩) q0).trans Cv
 replace qp := Nat.lt_of_lt_of_le qp hX.size
 replace q0 := Nat.lt_of_lt_of_le q0 hX.size
 try clear bej bfh bed bfc bdy bex bdt bes bei bfg bec bfb bdx bew bds ber hG2
 try clear e4 e5 e6 e7 f4 f5 akg adm hz6 Tj hz7 hnn bgz bgy
 try clear hX hv
 replace HO := hide hO
 clear hO
 have RD := hide ((aa HRD) t2.1)
 have FIN := hide ((aa Ha) t2.1)
 clear t2 HRD Ha
 by_cases h0 : 0 < ((n * B - A * d) * (E * d) - (C * d - n * E) * (d * B))
 ·
  go_upto_region 5 with fail
  refine Rg.region 8 65 (Rg.pick [ek (Rat.divInt n d), ek (Rat.divInt A B), ek (Rat.divInt (n * B - A * d) (d * B)), ek (Rat.divInt C E), ek (Rat.divInt n d), ek (Rat.divInt (C * d - n * E) (E * d)), Rg.ji (.int .i64 (gm ((n * B - A * d) * (E * d) - (C * d - n * E) * (d * B)))), Rg.ji (.int .i64 (gm ((n * B - A * d) * (E * d) - (C * d - n * E) * (d * B))))]) (cz w [(Ev, Rat.divInt C E), (Eo, Rat.divInt A B), (Fj, Rat.divInt n d)] U2) oh [] kr kr rfl (Rg.oq.pick ⟨df _, df _, df _, df _, df _, df _, Rg.fw _, Rg.fw _, trivial⟩) (cz.start (aa HO))
   (Rg.ax (Rg.plain rfl (gy rfl (Rg.ja kr rfl) (fun W h => cz.box (List.Mem.tail _ (List.Mem.tail _ (List.Mem.head _))) h) rfl))
    (Rg.ax (Rg.plain rfl (gy rfl (Rg.ja kr rfl) (fun W h => cz.box (List.Mem.tail _ (List.Mem.head _)) h) rfl))
    (Rg.ax (Rg.plain rfl (jh Tryz.func44 kr rfl cz.step (Rg.dw 0 kr) (Rg.dw 1 kr) (fun W v0 v1 hG h0 h1 => Mo (aa RD).BN (aa RD).BD (aa RD).BA (aa RD).BB (aa RD).D0 (aa RD).B0 W v0 v1 h0 h1)))
    (Rg.ax (Rg.plain rfl (gy rfl (Rg.ja kr rfl) (fun W h => cz.box (List.Mem.head _) h) rfl))
    (Rg.ax (Rg.plain rfl (gy rfl (Rg.ja kr rfl) (fun W h => cz.box (List.Mem.tail _ (List.Mem.tail _ (List.Mem.head _))) h) rfl))
    (Rg.ax (Rg.plain rfl (jh Tryz.func44 kr rfl cz.step (Rg.dw 3 kr) (Rg.dw 4 kr) (fun W v0 v1 hG h0 h1 => Mo (aa RD).BC (aa RD).BE (aa RD).BN (aa RD).BD (aa RD).E0 (aa RD).D0 W v0 v1 h0 h1)))
    (Rg.ax (Rg.plain rfl (jh Tryz.func64 kr rfl cz.step (Rg.dw 2 kr) (Rg.dw 5 kr) (fun W v0 v1 hG h0 h1 => Uj (aa RD).P1 (aa RD).P2 (aa RD).P3 (aa RD).P4 (aa RD).P5 (aa RD).P6 W v0 v1 h0 h1)))
    (Rg.ax (Rg.plain rfl (xz rfl (Rg.dw 6 kr)))
    Rg.jc)))))))) ?_
  intro v V3 hG3 hv hne
  clear hne
  simp only [Rg.puts, List.take_succ_cons, List.take_zero, List.drop_succ_cons, List.drop_zero, Act.put, List.setIfInBounds_toArray, List.set_cons_zero, List.set_cons_succ]
  have e7 : v 7 = .int .i64 (gm ((n * B - A * d) * (E * d) - (C * d - n * E) * (d * B))) := hv 7 (by decide)
  simp only [e7]
  have hO := hG3.1
  replace p0 := (hG3.2.cell (p := ⟨w.heap.size, 0, none⟩) qp).trans p0
  replace p1 := (hG3.2.cell (p := ⟨w.heap.size, 1, none⟩) qp).trans p1
  replace r0 := (hG3.2.cell (p := ⟨w.heap.size + 1, 0, none⟩) q0).trans r0
  replace r1 := (hG3.2.cell (p := ⟨w.heap.size + 1, 1, none⟩) q0).trans r1
  replace Cw := (hG3.2.frozen (p := ⟨w.heap.size + 1, 0, none⟩) q0).trans Cw
  replace Cv := (hG3.2.frozen (p := ⟨w.heap.size + 1, 1, none⟩) q0).trans Cv
  replace qp := Nat.lt_of_lt_of_le qp hG3.2.size
  replace q0 := Nat.lt_of_lt_of_le q0 hG3.2.size
  clear hG3
  try clear e7
  try clear hv
  replace HO := hide hO
  clear hO
  have d1 : decide (0 < gm ((n * B - A * d) * (E * d) - (C * d - n * E) * (d * B))) = true := by first | exact decide_eq_true (by unfold gm; (repeat' split) <;> omega)
  go_upto_region 6 with fail
  refine Rg.uu 3 65 (Rg.pick [Rg.ji (.int .i64 (gm ((n * B - A * d) * (E * d) - (C * d - n * E) * (d * B)))), Rg.ji (.bool (true)), Rg.ji (.bool (true))]) (cz w [(Ev, Rat.divInt C E), (Eo, Rat.divInt A B), (Fj, Rat.divInt n d)] V3) oh [] kr rfl (Rg.oq.pick ⟨Rg.fw _, Rg.fw _, Rg.fw _, trivial⟩) (cz.begin (aa HO))
   (Rg.ax (Rg.plain rfl (xe rfl (Rg.ja kr rfl)))
    (Rg.ax (Rg.plain rfl (Jl rfl (Rg.dw 0 kr) (Rg.zg _) rfl d1))
    (Rg.ax (Rg.plain rfl (xz rfl (Rg.dw 1 kr)))
    Rg.jc))) ?_
  intro v V4 hG4 hv hne
  clear hne
  simp only [Rg.puts, List.take_succ_cons, List.take_zero, List.drop_succ_cons, List.drop_zero, Act.put, List.setIfInBounds_toArray, List.set_cons_zero, List.set_cons_succ]
  have e2 : v 2 = .bool (true) := hv 2 (by decide)
  simp only [e2]
  have hO := hG4.1
  replace p0 := (hG4.2.cell (p := ⟨w.heap.size, 0, none⟩) qp).trans p0
  replace p1 := (hG4.2.cell (p := ⟨w.heap.size, 1, none⟩) qp).trans p1
  replace r0 := (hG4.2.cell (p := ⟨w.heap.size + 1, 0, none⟩) q0).trans r0
  replace r1 := (hG4.2.cell (p := ⟨w.heap.size + 1, 1, none⟩) q0).trans r1
  replace Cw := (hG4.2.frozen (p := ⟨w.heap.size + 1, 0, none⟩) q0).trans Cw
  replace Cv := (hG4.2.frozen (p := ⟨w.heap.size + 1, 1, none⟩) q0).trans Cv
  replace qp := Nat.lt_of_lt_of_le qp hG4.2.size
  replace q0 := Nat.lt_of_lt_of_le q0 hG4.2.size
  clear hG4
  try clear e2
  try clear hv
  replace HO := hide hO
  clear hO
  clear d1
  go_upto_region 7 with fail
  obtain ⟨-, A91, c91, l91, m91, A92, c92, l92, m92, hz, Um⟩ := (aa HO).box (Ev) (Rat.divInt C E) (List.Mem.head _)
  have z0 := ag hz 0
  have z1 := ag hz 1
  have z2 := ag hz 2
  have z3 := ag hz 3
  have ltz := lt_of_block hz
  clear hz
  have hw0 := (aa HO).bel
  have Dy := hide (Gn A91 c91 l91 m91 A92 c92 l92 m92 (Rat.divInt C E) V4 Um)
  clear Um HO
  have f0 := Cw; have f1 := Cv
  clear Cw Cv
  obtain ⟨T9, Lb⟩ : ∃ T, T = Wd.told (Rat.divInt C E) := ⟨_, rfl⟩
  rw [← Lb] at Dy
  have Uz := hide Lb
  clear Lb
  go_wp2_with fail
  refine (aa Dy).mono ?_
  rintro e W5 ⟨rfl, hb⟩
  obtain ⟨hc, hfz⟩ := az hb
  replace p0 := (hc _ _ qp).trans p0
  replace p1 := (hc _ _ qp).trans p1
  replace r0 := (hc _ _ q0).trans r0
  replace r1 := (hc _ _ q0).trans r1
  replace f0 := (hfz _ _ q0).trans f0
  replace f1 := (hfz _ _ q0).trans f1
  replace qp := Nat.lt_of_lt_of_le qp hb.size
  replace q0 := Nat.lt_of_lt_of_le q0 hb.size
  replace hw0 := au hw0 hb
  clear hc hfz
  clear hb z0 z1 z2 z3 ltz Dy
  go_wp2_with fail
  exact bodyPost_ret (v := .tuple #[.agg #[.int .i64 T9.n, .int .i64 T9.d], .int .i64 T9.e]) (by simp [results, Tryz.results19, go_sem, r0, r1, q0]) rfl
   ((aa agb) (C) (E) T9 _ _ ((aa FIN).1 h0) (aa Uz) ⟨rfl, hw0.grown (fq _ _ _ _) hw0.size (fun k hk => by injection hk with hk; omega)⟩)
 ·
  by_cases h1 : ((n * B - A * d) * (E * d) - (C * d - n * E) * (d * B)) < 0
  ·
   go_upto_region 5 with fail
   refine Rg.region 8 65 (Rg.pick [ek (Rat.divInt n d), ek (Rat.divInt A B), ek (Rat.divInt (n * B - A * d) (d * B)), ek (Rat.divInt C E), ek (Rat.divInt n d), ek (Rat.divInt (C * d - n * E) (E * d)), Rg.ji (.int .i64 (gm ((n * B - A * d) * (E * d) - (C * d - n * E) * (d * B)))), Rg.ji (.int .i64 (gm ((n * B - A * d) * (E * d) - (C * d - n * E) * (d * B))))]) (cz w [(Ev, Rat.divInt C E), (Eo, Rat.divInt A B), (Fj, Rat.divInt n d)] U2) oh [] kr kr rfl (Rg.oq.pick ⟨df _, df _, df _, df _, df _, df _, Rg.fw _, Rg.fw _, trivial⟩) (cz.start (aa HO))
    (Rg.ax (Rg.plain rfl (gy rfl (Rg.ja kr rfl) (fun W h => cz.box (List.Mem.tail _ (List.Mem.tail _ (List.Mem.head _))) h) rfl))
     (Rg.ax (Rg.plain rfl (gy rfl (Rg.ja kr rfl) (fun W h => cz.box (List.Mem.tail _ (List.Mem.head _)) h) rfl))
     (Rg.ax (Rg.plain rfl (jh Tryz.func44 kr rfl cz.step (Rg.dw 0 kr) (Rg.dw 1 kr) (fun W v0 v1 hG h0 h1 => Mo (aa RD).BN (aa RD).BD (aa RD).BA (aa RD).BB (aa RD).D0 (aa RD).B0 W v0 v1 h0 h1)))
     (Rg.ax (Rg.plain rfl (gy rfl (Rg.ja kr rfl) (fun W h => cz.box (List.Mem.head _) h) rfl))
     (Rg.ax (Rg.plain rfl (gy rfl (Rg.ja kr rfl) (fun W h => cz.box (List.Mem.tail _ (List.Mem.tail _ (List.Mem.head _))) h) rfl))
     (Rg.ax (Rg.plain rfl (jh Tryz.func44 kr rfl cz.step (Rg.dw 3 kr) (Rg.dw 4 kr) (fun W v0 v1 hG h0 h1 => Mo (aa RD).BC (aa RD).BE (aa RD).BN (aa RD).BD (aa RD).E0 (aa RD).D0 W v0 v1 h0 h1)))
     (Rg.ax (Rg.plain rfl (jh Tryz.func64 kr rfl cz.step (Rg.dw 2 kr) (Rg.dw 5 kr) (fun W v0 v1 hG h0 h1 => Uj (aa RD).P1 (aa RD).P2 (aa RD).P3 (aa RD).P4 (aa RD).P5 (aa RD).P6 W v0 v1 h0 h1)))
     (Rg.ax (Rg.plain rfl (xz rfl (Rg.dw 6 kr)))
     Rg.jc)))))))) ?_
   intro v V3 hG3 hv hne
   clear hne
   simp only [Rg.puts, List.take_succ_cons, List.take_zero, List.drop_succ_cons, List.drop_zero, Act.put, List.setIfInBounds_toArray, List.set_cons_zero, List.set_cons_succ]
   have e7 : v 7 = .int .i64 (gm ((n * B - A * d) * (E * d) - (C * d - n * E) * (d * B))) := hv 7 (by decide)
   simp only [e7]
   have hO := hG3.1
   replace p0 := (hG3.2.cell (p := ⟨w.heap.size, 0, none⟩) qp).trans p0
   replace p1 := (hG3.2.cell (p := ⟨w.heap.size, 1, none⟩) qp).trans p1
   replace r0 := (hG3.2.cell (p := ⟨w.heap.size + 1, 0, none⟩) q0).trans r0
   replace r1 := (hG3.2.cell (p := ⟨w.heap.size + 1, 1, none⟩) q0).trans r1
   replace Cw := (hG3.2.frozen (p := ⟨w.heap.size + 1, 0, none⟩) q0).trans Cw
   replace Cv := (hG3.2.frozen (p := ⟨w.heap.size + 1, 1, none⟩) q0).trans Cv
   replace qp := Nat.lt_of_lt_of_le qp hG3.2.size
   replace q0 := Nat.lt_of_lt_of_le q0 hG3.2.size
   clear hG3
   try clear e7
   try clear hv
   replace HO := hide hO
   clear hO
   have d1 : decide (0 < gm ((n * B - A * d) * (E * d) - (C * d - n * E) * (d * B))) = false := by first | exact decide_eq_false (by unfold gm; (repeat' split) <;> omega)
   have d2 : decide (gm ((n * B - A * d) * (E * d) - (C * d - n * E) * (d * B)) < 0) = true := by first | exact decide_eq_true (by unfold gm; (repeat' split) <;> omega)
   go_upto_region 6 with fail
   refine Rg.uu 3 65 (Rg.pick [Rg.ji (.int .i64 (gm ((n * B - A * d) * (E * d) - (C * d - n * E) * (d * B)))), Rg.ji (.bool (false)), Rg.ji (.bool (false))]) (cz w [(Ev, Rat.divInt C E), (Eo, Rat.divInt A B), (Fj, Rat.divInt n d)] V3) oh [] kr rfl (Rg.oq.pick ⟨Rg.fw _, Rg.fw _, Rg.fw _, trivial⟩) (cz.begin (aa HO))
    (Rg.ax (Rg.plain rfl (xe rfl (Rg.ja kr rfl)))
     (Rg.ax (Rg.plain rfl (Jl rfl (Rg.dw 0 kr) (Rg.zg _) rfl d1))
     (Rg.ax (Rg.plain rfl (xz rfl (Rg.dw 1 kr)))
     Rg.jc))) ?_
   intro v V4 hG4 hv hne
   clear hne
   simp only [Rg.puts, List.take_succ_cons, List.take_zero, List.drop_succ_cons, List.drop_zero, Act.put, List.setIfInBounds_toArray, List.set_cons_zero, List.set_cons_succ]
   have e2 : v 2 = .bool (false) := hv 2 (by decide)
   simp only [e2]
   have hO := hG4.1
   replace p0 := (hG4.2.cell (p := ⟨w.heap.size, 0, none⟩) qp).trans p0
   replace p1 := (hG4.2.cell (p := ⟨w.heap.size, 1, none⟩) qp).trans p1
   replace r0 := (hG4.2.cell (p := ⟨w.heap.size + 1, 0, none⟩) q0).trans r0
   replace r1 := (hG4.2.cell (p := ⟨w.heap.size + 1, 1, none⟩) q0).trans r1
   replace Cw := (hG4.2.frozen (p := ⟨w.heap.size + 1, 0, none⟩) q0).trans Cw
   replace Cv := (hG4.2.frozen (p := ⟨w.heap.size + 1, 1, none⟩) q0).trans Cv
   replace qp := Nat.lt_of_lt_of_le qp hG4.2.size
   replace q0 := Nat.lt_of_lt_of_le q0 hG4.2.size
   clear hG4
   try clear e2
   try clear hv
   replace HO := hide hO
   clear hO
   go_upto_region 8 with fail
   refine Rg.uu 3 65 (Rg.pick [Rg.ji (.int .i64 (gm ((n * B - A * d) * (E * d) - (C * d - n * E) * (d * B)))), Rg.ji (.bool (true)), Rg.ji (.bool (true))]) (cz w [(Ev, Rat.divInt C E), (Eo, Rat.divInt A B), (Fj, Rat.divInt n d)] V4) oh [] kr rfl (Rg.oq.pick ⟨Rg.fw _, Rg.fw _, Rg.fw _, trivial⟩) (cz.begin (aa HO))
    (Rg.ax (Rg.plain rfl (xe rfl (Rg.ja kr rfl)))
     (Rg.ax (Rg.plain rfl (Sk rfl (Rg.dw 0 kr) (Rg.zg _) rfl d2))
     (Rg.ax (Rg.plain rfl (xz rfl (Rg.dw 1 kr)))
     Rg.jc))) ?_
   intro v V5 Aw hv hne
   clear hne
   simp only [Rg.puts, List.take_succ_cons, List.take_zero, List.drop_succ_cons, List.drop_zero, Act.put, List.setIfInBounds_toArray, List.set_cons_zero, List.set_cons_succ]
   have e2 : v 2 = .bool (true) := hv 2 (by decide)
   simp only [e2]
   have hO := Aw.1
   replace p0 := (Aw.2.cell (p := ⟨w.heap.size, 0, none⟩) qp).trans p0
   replace p1 := (Aw.2.cell (p := ⟨w.heap.size, 1, none⟩) qp).trans p1
   replace r0 := (Aw.2.cell (p := ⟨w.heap.size + 1, 0, none⟩) q0).trans r0
   replace r1 := (Aw.2.cell (p := ⟨w.heap.size + 1, 1, none⟩) q0).trans r1
   replace Cw := (Aw.2.frozen (p := ⟨w.heap.size + 1, 0, none⟩) q0).trans Cw
   replace Cv := (Aw.2.frozen (p := ⟨w.heap.size + 1, 1, none⟩) q0).trans Cv
   replace qp := Nat.lt_of_lt_of_le qp Aw.2.size
   replace q0 := Nat.lt_of_lt_of_le q0 Aw.2.size
   clear Aw
   try clear e2
   try clear hv
   replace HO := hide hO
   clear hO
   clear d1 d2
   go_upto_region 9 with fail
   obtain ⟨-, A91, c91, l91, m91, A92, c92, l92, m92, hz, Um⟩ := (aa HO).box (Eo) (Rat.divInt A B) (List.Mem.tail _ (List.Mem.head _))
   have z0 := ag hz 0
   have z1 := ag hz 1
   have z2 := ag hz 2
   have z3 := ag hz 3
   have ltz := lt_of_block hz
   clear hz
   have hw0 := (aa HO).bel
   have Dy := hide (Gn A91 c91 l91 m91 A92 c92 l92 m92 (Rat.divInt A B) V5 Um)
   clear Um HO
   have f0 := Cw; have f1 := Cv
   clear Cw Cv
   obtain ⟨T9, Lb⟩ : ∃ T, T = Wd.told (Rat.divInt A B) := ⟨_, rfl⟩
   rw [← Lb] at Dy
   have Uz := hide Lb
   clear Lb
   go_wp2_with fail
   refine (aa Dy).mono ?_
   rintro e W5 ⟨rfl, hb⟩
   obtain ⟨hc, hfz⟩ := az hb
   replace p0 := (hc _ _ qp).trans p0
   replace p1 := (hc _ _ qp).trans p1
   replace r0 := (hc _ _ q0).trans r0
   replace r1 := (hc _ _ q0).trans r1
   replace f0 := (hfz _ _ q0).trans f0
   replace f1 := (hfz _ _ q0).trans f1
   replace qp := Nat.lt_of_lt_of_le qp hb.size
   replace q0 := Nat.lt_of_lt_of_le q0 hb.size
   replace hw0 := au hw0 hb
   clear hc hfz
   clear hb z0 z1 z2 z3 ltz Dy
   go_wp2_with fail
   exact bodyPost_ret (v := .tuple #[.agg #[.int .i64 T9.n, .int .i64 T9.d], .int .i64 T9.e]) (by simp [results, Tryz.results19, go_sem, r0, r1, q0]) rfl
    ((aa agb) (A) (B) T9 _ _ ((aa FIN).2.1 h1) (aa Uz) ⟨rfl, hw0.grown (fq _ _ _ _) hw0.size (fun k hk => by injection hk with hk; omega)⟩)
  ·
   by_cases h2 : E - B < 0
   ·
    go_upto_region 5 with fail
    refine Rg.region 8 65 (Rg.pick [ek (Rat.divInt n d), ek (Rat.divInt A B), ek (Rat.divInt (n * B - A * d) (d * B)), ek (Rat.divInt C E), ek (Rat.divInt n d), ek (Rat.divInt (C * d - n * E) (E * d)), Rg.ji (.int .i64 (gm ((n * B - A * d) * (E * d) - (C * d - n * E) * (d * B)))), Rg.ji (.int .i64 (gm ((n * B - A * d) * (E * d) - (C * d - n * E) * (d * B))))]) (cz w [(Ev, Rat.divInt C E), (Eo, Rat.divInt A B), (Fj, Rat.divInt n d)] U2) oh [] kr kr rfl (Rg.oq.pick ⟨df _, df _, df _, df _, df _, df _, Rg.fw _, Rg.fw _, trivial⟩) (cz.start (aa HO))
     (Rg.ax (Rg.plain rfl (gy rfl (Rg.ja kr rfl) (fun W h => cz.box (List.Mem.tail _ (List.Mem.tail _ (List.Mem.head _))) h) rfl))
      (Rg.ax (Rg.plain rfl (gy rfl (Rg.ja kr rfl) (fun W h => cz.box (List.Mem.tail _ (List.Mem.head _)) h) rfl))
      (Rg.ax (Rg.plain rfl (jh Tryz.func44 kr rfl cz.step (Rg.dw 0 kr) (Rg.dw 1 kr) (fun W v0 v1 hG h0 h1 => Mo (aa RD).BN (aa RD).BD (aa RD).BA (aa RD).BB (aa RD).D0 (aa RD).B0 W v0 v1 h0 h1)))
      (Rg.ax (Rg.plain rfl (gy rfl (Rg.ja kr rfl) (fun W h => cz.box (List.Mem.head _) h) rfl))
      (Rg.ax (Rg.plain rfl (gy rfl (Rg.ja kr rfl) (fun W h => cz.box (List.Mem.tail _ (List.Mem.tail _ (List.Mem.head _))) h) rfl))
      (Rg.ax (Rg.plain rfl (jh Tryz.func44 kr rfl cz.step (Rg.dw 3 kr) (Rg.dw 4 kr) (fun W v0 v1 hG h0 h1 => Mo (aa RD).BC (aa RD).BE (aa RD).BN (aa RD).BD (aa RD).E0 (aa RD).D0 W v0 v1 h0 h1)))
      (Rg.ax (Rg.plain rfl (jh Tryz.func64 kr rfl cz.step (Rg.dw 2 kr) (Rg.dw 5 kr) (fun W v0 v1 hG h0 h1 => Uj (aa RD).P1 (aa RD).P2 (aa RD).P3 (aa RD).P4 (aa RD).P5 (aa RD).P6 W v0 v1 h0 h1)))
      (Rg.ax (Rg.plain rfl (xz rfl (Rg.dw 6 kr)))
      Rg.jc)))))))) ?_
    intro v V3 hG3 hv hne
    clear hne
    simp only [Rg.puts, List.take_succ_cons, List.take_zero, List.drop_succ_cons, List.drop_zero, Act.put, List.setIfInBounds_toArray, List.set_cons_zero, List.set_cons_succ]
    have e7 : v 7 = .int .i64 (gm ((n * B - A * d) * (E * d) - (C * d - n * E) * (d * B))) := hv 7 (by decide)
    simp only [e7]
    have hO := hG3.1
    replace p0 := (hG3.2.cell (p := ⟨w.heap.size, 0, none⟩) qp).trans p0
    replace p1 := (hG3.2.cell (p := ⟨w.heap.size, 1, none⟩) qp).trans p1
    replace r0 := (hG3.2.cell (p := ⟨w.heap.size + 1, 0, none⟩) q0).trans r0
    replace r1 := (hG3.2.cell (p := ⟨w.heap.size + 1, 1, none⟩) q0).trans r1
    replace Cw := (hG3.2.frozen (p := ⟨w.heap.size + 1, 0, none⟩) q0).trans Cw
    replace Cv := (hG3.2.frozen (p := ⟨w.heap.size + 1, 1, none⟩) q0).trans Cv
    replace qp := Nat.lt_of_lt_of_le qp hG3.2.size
    replace q0 := Nat.lt_of_lt_of_le q0 hG3.2.size
    clear hG3
    try clear e7
    try clear hv
    replace HO := hide hO
    clear hO
    have d1 : decide (0 < gm ((n * B - A * d) * (E * d) - (C * d - n * E) * (d * B))) = false := by first | exact decide_eq_false (by unfold gm; (repeat' split) <;> omega)
    have d2 : decide (gm ((n * B - A * d) * (E * d) - (C * d - n * E) * (d * B)) < 0) = false := by first | exact decide_eq_false (by unfold gm; (repeat' split) <;> omega)
    go_upto_region 6 with fail
    refine Rg.uu 3 65 (Rg.pick [Rg.ji (.int .i64 (gm ((n * B - A * d) * (E * d) - (C * d - n * E) * (d * B)))), Rg.ji (.bool (false)), Rg.ji (.bool (false))]) (cz w [(Ev, Rat.divInt C E), (Eo, Rat.divInt A B), (Fj, Rat.divInt n d)] V3) oh [] kr rfl (Rg.oq.pick ⟨Rg.fw _, Rg.fw _, Rg.fw _, trivial⟩) (cz.begin (aa HO))
     (Rg.ax (Rg.plain rfl (xe rfl (Rg.ja kr rfl)))
      (Rg.ax (Rg.plain rfl (Jl rfl (Rg.dw 0 kr) (Rg.zg _) rfl d1))
      (Rg.ax (Rg.plain rfl (xz rfl (Rg.dw 1 kr)))
      Rg.jc))) ?_
    intro v V4 hG4 hv hne
    clear hne
    simp only [Rg.puts, List.take_succ_cons, List.take_zero, List.drop_succ_cons, List.drop_zero, Act.put, List.setIfInBounds_toArray, List.set_cons_zero, List.set_cons_succ]
    have e2 : v 2 = .bool (false) := hv 2 (by decide)
    simp only [e2]
    have hO := hG4.1
    replace p0 := (hG4.2.cell (p := ⟨w.heap.size, 0, none⟩) qp).trans p0
    replace p1 := (hG4.2.cell (p := ⟨w.heap.size, 1, none⟩) qp).trans p1
    replace r0 := (hG4.2.cell (p := ⟨w.heap.size + 1, 0, none⟩) q0).trans r0
    replace r1 := (hG4.2.cell (p := ⟨w.heap.size + 1, 1, none⟩) q0).trans r1
    replace Cw := (hG4.2.frozen (p := ⟨w.heap.size + 1, 0, none⟩) q0).trans Cw
    replace Cv := (hG4.2.frozen (p := ⟨w.heap.size + 1, 1, none⟩) q0).trans Cv
    replace qp := Nat.lt_of_lt_of_le qp hG4.2.size
    replace q0 := Nat.lt_of_lt_of_le q0 hG4.2.size
    clear hG4
    try clear e2
    try clear hv
    replace HO := hide hO
    clear hO
    go_upto_region 8 with fail
    refine Rg.uu 3 65 (Rg.pick [Rg.ji (.int .i64 (gm ((n * B - A * d) * (E * d) - (C * d - n * E) * (d * B)))), Rg.ji (.bool (false)), Rg.ji (.bool (false))]) (cz w [(Ev, Rat.divInt C E), (Eo, Rat.divInt A B), (Fj, Rat.divInt n d)] V4) oh [] kr rfl (Rg.oq.pick ⟨Rg.fw _, Rg.fw _, Rg.fw _, trivial⟩) (cz.begin (aa HO))
     (Rg.ax (Rg.plain rfl (xe rfl (Rg.ja kr rfl)))
      (Rg.ax (Rg.plain rfl (Sk rfl (Rg.dw 0 kr) (Rg.zg _) rfl d2))
      (Rg.ax (Rg.plain rfl (xz rfl (Rg.dw 1 kr)))
      Rg.jc))) ?_
    intro v V5 Aw hv hne
    clear hne
    simp only [Rg.puts, List.take_succ_cons, List.take_zero, List.drop_succ_cons, List.drop_zero, Act.put, List.setIfInBounds_toArray, List.set_cons_zero, List.set_cons_succ]
    have e2 : v 2 = .bool (false) := hv 2 (by decide)
    simp only [e2]
    have hO := Aw.1
    replace p0 := (Aw.2.cell (p := ⟨w.heap.size, 0, none⟩) qp).trans p0
    replace p1 := (Aw.2.cell (p := ⟨w.heap.size, 1, none⟩) qp).trans p1
    replace r0 := (Aw.2.cell (p := ⟨w.heap.size + 1, 0, none⟩) q0).trans r0
    replace r1 := (Aw.2.cell (p := ⟨w.heap.size + 1, 1, none⟩) q0).trans r1
    replace Cw := (Aw.2.frozen (p := ⟨w.heap.size + 1, 0, none⟩) q0).trans Cw
    replace Cv := (Aw.2.frozen (p := ⟨w.heap.size + 1, 1, none⟩) q0).trans Cv
    replace qp := Nat.lt_of_lt_of_le qp Aw.2.size
    replace q0 := Nat.lt_of_lt_of_le q0 Aw.2.size
    clear Aw
    try clear e2
    try clear hv
    replace HO := hide hO
    clear hO
    have d3 : decide (gm (E - B) < 0) = true := decide_eq_true (by unfold gm; (repeat' split) <;> omega)
    go_upto_region 10 with fail
    refine Rg.region 6 65 (Rg.pick [ek (Rat.divInt C E), ek (Rat.divInt (E) 1), ek (Rat.divInt A B), ek (Rat.divInt (B) 1), Rg.ji (.int .i64 (gm (E - B))), Rg.ji (.bool (true))]) (cz w [(Ev, Rat.divInt C E), (Eo, Rat.divInt A B), (Fj, Rat.divInt n d)] V5) oh [] kr kr rfl (Rg.oq.pick ⟨df _, df _, df _, df _, Rg.fw _, Rg.fw _, trivial⟩) (cz.start (aa HO))
     (Rg.ax (Rg.plain rfl (gy rfl (Rg.ja kr rfl) (fun W h => cz.box (List.Mem.head _) h) rfl))
      (Rg.ax (Rg.plain rfl (lg Tryz.func65 kr rfl cz.step (Rg.dw 0 kr) (fun W v0 hG h0 => Cg (aa RD).E0 (aa RD).gE W v0 h0)))
      (Rg.ax (Rg.plain rfl (gy rfl (Rg.ja kr rfl) (fun W h => cz.box (List.Mem.tail _ (List.Mem.head _)) h) rfl))
      (Rg.ax (Rg.plain rfl (lg Tryz.func65 kr rfl cz.step (Rg.dw 2 kr) (fun W v0 hG h0 => Cg (aa RD).B0 (aa RD).gB W v0 h0)))
      (Rg.ax (Rg.plain rfl (jh Tryz.func64 kr rfl cz.step (Rg.dw 1 kr) (Rg.dw 3 kr) (fun W v0 v1 hG h0 h1 => Og (aa RD).BE (aa RD).BB W v0 v1 h0 h1)))
      (Rg.ax (Rg.plain rfl (Sk rfl (Rg.dw 4 kr) (Rg.zg _) rfl d3))
      Rg.jc)))))) ?_
    intro v V6 Dh hv hne
    clear hne
    simp only [Rg.puts, List.take_succ_cons, List.take_zero, List.drop_succ_cons, List.drop_zero, Act.put, List.setIfInBounds_toArray, List.set_cons_zero, List.set_cons_succ]
    have e5 : v 5 = .bool (true) := hv 5 (by decide)
    simp only [e5]
    have hO := Dh.1
    replace p0 := (Dh.2.cell (p := ⟨w.heap.size, 0, none⟩) qp).trans p0
    replace p1 := (Dh.2.cell (p := ⟨w.heap.size, 1, none⟩) qp).trans p1
    replace r0 := (Dh.2.cell (p := ⟨w.heap.size + 1, 0, none⟩) q0).trans r0
    replace r1 := (Dh.2.cell (p := ⟨w.heap.size + 1, 1, none⟩) q0).trans r1
    replace Cw := (Dh.2.frozen (p := ⟨w.heap.size + 1, 0, none⟩) q0).trans Cw
    replace Cv := (Dh.2.frozen (p := ⟨w.heap.size + 1, 1, none⟩) q0).trans Cv
    replace qp := Nat.lt_of_lt_of_le qp Dh.2.size
    replace q0 := Nat.lt_of_lt_of_le q0 Dh.2.size
    clear Dh
    try clear e5
    try clear hv
    replace HO := hide hO
    clear hO
    clear d1 d2 d3
    go_upto_region 11 with fail
    obtain ⟨-, A91, c91, l91, m91, A92, c92, l92, m92, hz, Um⟩ := (aa HO).box (Ev) (Rat.divInt C E) (List.Mem.head _)
    have z0 := ag hz 0
    have z1 := ag hz 1
    have z2 := ag hz 2
    have z3 := ag hz 3
    have ltz := lt_of_block hz
    clear hz
    have hw0 := (aa HO).bel
    have Dy := hide (Gn A91 c91 l91 m91 A92 c92 l92 m92 (Rat.divInt C E) V6 Um)
    clear Um HO
    have f0 := Cw; have f1 := Cv
    clear Cw Cv
    obtain ⟨T9, Lb⟩ : ∃ T, T = Wd.told (Rat.divInt C E) := ⟨_, rfl⟩
    rw [← Lb] at Dy
    have Uz := hide Lb
    clear Lb
    go_wp2_with fail
    refine (aa Dy).mono ?_
    rintro e W5 ⟨rfl, hb⟩
    obtain ⟨hc, hfz⟩ := az hb
    replace p0 := (hc _ _ qp).trans p0
    replace p1 := (hc _ _ qp).trans p1
    replace r0 := (hc _ _ q0).trans r0
    replace r1 := (hc _ _ q0).trans r1
    replace f0 := (hfz _ _ q0).trans f0
    replace f1 := (hfz _ _ q0).trans f1
    replace qp := Nat.lt_of_lt_of_le qp hb.size
    replace q0 := Nat.lt_of_lt_of_le q0 hb.size
    replace hw0 := au hw0 hb
    clear hc hfz
    clear hb z0 z1 z2 z3 ltz Dy
    go_wp2_with fail
    exact bodyPost_ret (v := .tuple #[.agg #[.int .i64 T9.n, .int .i64 T9.d], .int .i64 T9.e]) (by simp [results, Tryz.results19, go_sem, r0, r1, q0]) rfl
     ((aa agb) (C) (E) T9 _ _ ((aa FIN).2.2.1 om h2) (aa Uz) ⟨rfl, hw0.grown (fq _ _ _ _) hw0.size (fun k hk => by injection hk with hk; omega)⟩)
   ·
    go_upto_region 5 with fail
    refine Rg.region 8 65 (Rg.pick [ek (Rat.divInt n d), ek (Rat.divInt A B), ek (Rat.divInt (n * B - A * d) (d * B)), ek (Rat.divInt C E), ek (Rat.divInt n d), ek (Rat.divInt (C * d - n * E) (E * d)), Rg.ji (.int .i64 (gm ((n * B - A * d) * (E * d) - (C * d - n * E) * (d * B)))), Rg.ji (.int .i64 (gm ((n * B - A * d) * (E * d) - (C * d - n * E) * (d * B))))]) (cz w [(Ev, Rat.divInt C E), (Eo, Rat.divInt A B), (Fj, Rat.divInt n d)] U2) oh [] kr kr rfl (Rg.oq.pick ⟨df _, df _, df _, df _, df _, df _, Rg.fw _, Rg.fw _, trivial⟩) (cz.start (aa HO))
     (Rg.ax (Rg.plain rfl (gy rfl (Rg.ja kr rfl) (fun W h => cz.box (List.Mem.tail _ (List.Mem.tail _ (List.Mem.head _))) h) rfl))
      (Rg.ax (Rg.plain rfl (gy rfl (Rg.ja kr rfl) (fun W h => cz.box (List.Mem.tail _ (List.Mem.head _)) h) rfl))
      (Rg.ax (Rg.plain rfl (jh Tryz.func44 kr rfl cz.step (Rg.dw 0 kr) (Rg.dw 1 kr) (fun W v0 v1 hG h0 h1 => Mo (aa RD).BN (aa RD).BD (aa RD).BA (aa RD).BB (aa RD).D0 (aa RD).B0 W v0 v1 h0 h1)))
      (Rg.ax (Rg.plain rfl (gy rfl (Rg.ja kr rfl) (fun W h => cz.box (List.Mem.head _) h) rfl))
      (Rg.ax (Rg.plain rfl (gy rfl (Rg.ja kr rfl) (fun W h => cz.box (List.Mem.tail _ (List.Mem.tail _ (List.Mem.head _))) h) rfl))
      (Rg.ax (Rg.plain rfl (jh Tryz.func44 kr rfl cz.step (Rg.dw 3 kr) (Rg.dw 4 kr) (fun W v0 v1 hG h0 h1 => Mo (aa RD).BC (aa RD).BE (aa RD).BN (aa RD).BD (aa RD).E0 (aa RD).D0 W v0 v1 h0 h1)))
      (Rg.ax (Rg.plain rfl (jh Tryz.func64 kr rfl cz.step (Rg.dw 2 kr) (Rg.dw 5 kr) (fun W v0 v1 hG h0 h1 => Uj (aa RD).P1 (aa RD).P2 (aa RD).P3 (aa RD).P4 (aa RD).P5 (aa RD).P6 W v0 v1 h0 h1)))
      (Rg.ax (Rg.plain rfl (xz rfl (Rg.dw 6 kr)))
      Rg.jc)))))))) ?_
    intro v V3 hG3 hv hne
    clear hne
    simp only [Rg.puts, List.take_succ_cons, List.take_zero, List.drop_succ_cons, List.drop_zero, Act.put, List.setIfInBounds_toArray, List.set_cons_zero, List.set_cons_succ]
    have e7 : v 7 = .int .i64 (gm ((n * B - A * d) * (E * d) - (C * d - n * E) * (d * B))) := hv 7 (by decide)
    simp only [e7]
    have hO := hG3.1
    replace p0 := (hG3.2.cell (p := ⟨w.heap.size, 0, none⟩) qp).trans p0
    replace p1 := (hG3.2.cell (p := ⟨w.heap.size, 1, none⟩) qp).trans p1
    replace r0 := (hG3.2.cell (p := ⟨w.heap.size + 1, 0, none⟩) q0).trans r0
    replace r1 := (hG3.2.cell (p := ⟨w.heap.size + 1, 1, none⟩) q0).trans r1
    replace Cw := (hG3.2.frozen (p := ⟨w.heap.size + 1, 0, none⟩) q0).trans Cw
    replace Cv := (hG3.2.frozen (p := ⟨w.heap.size + 1, 1, none⟩) q0).trans Cv
    replace qp := Nat.lt_of_lt_of_le qp hG3.2.size
    replace q0 := Nat.lt_of_lt_of_le q0 hG3.2.size
    clear hG3
    try clear e7
    try clear hv
    replace HO := hide hO
    clear hO
    have d1 : decide (0 < gm ((n * B - A * d) * (E * d) - (C * d - n * E) * (d * B))) = false := by first | exact decide_eq_false (by unfold gm; (repeat' split) <;> omega)
    have d2 : decide (gm ((n * B - A * d) * (E * d) - (C * d - n * E) * (d * B)) < 0) = false := by first | exact decide_eq_false (by unfold gm; (repeat' split) <;> omega)
    go_upto_region 6 with fail
    refine Rg.uu 3 65 (Rg.pick [Rg.ji (.int .i64 (gm ((n * B - A * d) * (E * d) - (C * d - n * E) * (d * B)))), Rg.ji (.bool (false)), Rg.ji (.bool (false))]) (cz w [(Ev, Rat.divInt C E), (Eo, Rat.divInt A B), (Fj, Rat.divInt n d)] V3) oh [] kr rfl (Rg.oq.pick ⟨Rg.fw _, Rg.fw _, Rg.fw _, trivial⟩) (cz.begin (aa HO))
     (Rg.ax (Rg.plain rfl (xe rfl (Rg.ja kr rfl)))
      (Rg.ax (Rg.plain rfl (Jl rfl (Rg.dw 0 kr) (Rg.zg _) rfl d1))
      (Rg.ax (Rg.plain rfl (xz rfl (Rg.dw 1 kr)))
      Rg.jc))) ?_
    intro v V4 hG4 hv hne
    clear hne
    simp only [Rg.puts, List.take_succ_cons, List.take_zero, List.drop_succ_cons, List.drop_zero, Act.put, List.setIfInBounds_toArray, List.set_cons_zero, List.set_cons_succ]
    have e2 : v 2 = .bool (false) := hv 2 (by decide)
    simp only [e2]
    have hO := hG4.1
    replace p0 := (hG4.2.cell (p := ⟨w.heap.size, 0, none⟩) qp).trans p0
    replace p1 := (hG4.2.cell (p := ⟨w.heap.size, 1, none⟩) qp).trans p1
    replace r0 := (hG4.2.cell (p := ⟨w.heap.size + 1, 0, none⟩) q0).trans r0
    replace r1 := (hG4.2.cell (p := ⟨w.heap.size + 1, 1, none⟩) q0).trans r1
    replace Cw := (hG4.2.frozen (p := ⟨w.heap.size + 1, 0, none⟩) q0).trans Cw
    replace Cv := (hG4.2.frozen (p := ⟨w.heap.size + 1, 1, none⟩) q0).trans Cv
    replace qp := Nat.lt_of_lt_of_le qp hG4.2.size
    replace q0 := Nat.lt_of_lt_of_le q0 hG4.2.size
    clear hG4
    try clear e2
    try clear hv
    replace HO := hide hO
    clear hO
    go_upto_region 8 with fail
    refine Rg.uu 3 65 (Rg.pick [Rg.ji (.int .i64 (gm ((n * B - A * d) * (E * d) - (C * d - n * E) * (d * B)))), Rg.ji (.bool (false)), Rg.ji (.bool (false))]) (cz w [(Ev, Rat.divInt C E), (Eo, Rat.divInt A B), (Fj, Rat.divInt n d)] V4) oh [] kr rfl (Rg.oq.pick ⟨Rg.fw _, Rg.fw _, Rg.fw _, trivial⟩) (cz.begin (aa HO))
     (Rg.ax (Rg.plain rfl (xe rfl (Rg.ja kr rfl)))
      (Rg.ax (Rg.plain rfl (Sk rfl (Rg.dw 0 kr) (Rg.zg _) rfl d2))
      (Rg.ax (Rg.plain rfl (xz rfl (Rg.dw 1 kr)))
      Rg.jc))) ?_
    intro v V5 Aw hv hne
    clear hne
    simp only [Rg.puts, List.take_succ_cons, List.take_zero, List.drop_succ_cons, List.drop_zero, Act.put, List.setIfInBounds_toArray, List.set_cons_zero, List.set_cons_succ]
    have e2 : v 2 = .bool (false) := hv 2 (by decide)
    simp only [e2]
    have hO := Aw.1
    replace p0 := (Aw.2.cell (p := ⟨w.heap.size, 0, none⟩) qp).trans p0
    replace p1 := (Aw.2.cell (p := ⟨w.heap.size, 1, none⟩) qp).trans p1
    replace r0 := (Aw.2.cell (p := ⟨w.heap.size + 1, 0, none⟩) q0).trans r0
    replace r1 := (Aw.2.cell (p := ⟨w.heap.size + 1, 1, none⟩) q0).trans r1
    replace Cw := (Aw.2.frozen (p := ⟨w.heap.size + 1, 0, none⟩) q0).trans Cw
    replace Cv := (Aw.2.frozen (p := ⟨w.heap.size + 1, 1, none⟩) q0).trans Cv
    replace qp := Nat.lt_of_lt_of_le qp Aw.2.size
    replace q0 := Nat.lt_of_lt_of_le q0 Aw.2.size
    clear Aw
    try clear e2
    try clear hv
    replace HO := hide hO
    clear hO
    have d3 : decide (gm (E - B) < 0) = false := decide_eq_false (by unfold gm; (repeat' split) <;> omega)
    go_upto_region 10 with fail
    refine Rg.region 6 65 (Rg.pick [ek (Rat.divInt C E), ek (Rat.divInt (E) 1), ek (Rat.divInt A B), ek (Rat.divInt (B) 1), Rg.ji (.int .i64 (gm (E - B))), Rg.ji (.bool (false))]) (cz w [(Ev, Rat.divInt C E), (Eo, Rat.divInt A B), (Fj, Rat.divInt n d)] V5) oh [] kr kr rfl (Rg.oq.pick ⟨df _, df _, df _, df _, Rg.fw _, Rg.fw _, trivial⟩) (cz.start (aa HO))
     (Rg.ax (Rg.plain rfl (gy rfl (Rg.ja kr rfl) (fun W h => cz.box (List.Mem.head _) h) rfl))
      (Rg.ax (Rg.plain rfl (lg Tryz.func65 kr rfl cz.step (Rg.dw 0 kr) (fun W v0 hG h0 => Cg (aa RD).E0 (aa RD).gE W v0 h0)))
      (Rg.ax (Rg.plain rfl (gy rfl (Rg.ja kr rfl) (fun W h => cz.box (List.Mem.tail _ (List.Mem.head _)) h) rfl))
      (Rg.ax (Rg.plain rfl (lg Tryz.func65 kr rfl cz.step (Rg.dw 2 kr) (fun W v0 hG h0 => Cg (aa RD).B0 (aa RD).gB W v0 h0)))
      (Rg.ax (Rg.plain rfl (jh Tryz.func64 kr rfl cz.step (Rg.dw 1 kr) (Rg.dw 3 kr) (fun W v0 v1 hG h0 h1 => Og (aa RD).BE (aa RD).BB W v0 v1 h0 h1)))
      (Rg.ax (Rg.plain rfl (Sk rfl (Rg.dw 4 kr) (Rg.zg _) rfl d3))
      Rg.jc)))))) ?_
    intro v V6 Dh hv hne
    clear hne
    simp only [Rg.puts, List.take_succ_cons, List.take_zero, List.drop_succ_cons, List.drop_zero, Act.put, List.setIfInBounds_toArray, List.set_cons_zero, List.set_cons_succ]
    have e5 : v 5 = .bool (false) := hv 5 (by decide)
    simp only [e5]
    have hO := Dh.1
    replace p0 := (Dh.2.cell (p := ⟨w.heap.size, 0, none⟩) qp).trans p0
    replace p1 := (Dh.2.cell (p := ⟨w.heap.size, 1, none⟩) qp).trans p1
    replace r0 := (Dh.2.cell (p := ⟨w.heap.size + 1, 0, none⟩) q0).trans r0
    replace r1 := (Dh.2.cell (p := ⟨w.heap.size + 1, 1, none⟩) q0).trans r1
    replace Cw := (Dh.2.frozen (p := ⟨w.heap.size + 1, 0, none⟩) q0).trans Cw
    replace Cv := (Dh.2.frozen (p := ⟨w.heap.size + 1, 1, none⟩) q0).trans Cv
    replace qp := Nat.lt_of_lt_of_le qp Dh.2.size
    replace q0 := Nat.lt_of_lt_of_le q0 Dh.2.size
    clear Dh
    try clear e5
    try clear hv
    replace HO := hide hO
    clear hO
    clear d1 d2 d3
    go_upto_region 12 with fail
    obtain ⟨-, A91, c91, l91, m91, A92, c92, l92, m92, hz, Um⟩ := (aa HO).box (Eo) (Rat.divInt A B) (List.Mem.tail _ (List.Mem.head _))
    have z0 := ag hz 0
    have z1 := ag hz 1
    have z2 := ag hz 2
    have z3 := ag hz 3
    have ltz := lt_of_block hz
    clear hz
    have hw0 := (aa HO).bel
    have Dy := hide (Gn A91 c91 l91 m91 A92 c92 l92 m92 (Rat.divInt A B) V6 Um)
    clear Um HO
    have f0 := Cw; have f1 := Cv
    clear Cw Cv
    obtain ⟨T9, Lb⟩ : ∃ T, T = Wd.told (Rat.divInt A B) := ⟨_, rfl⟩
    rw [← Lb] at Dy
    have Uz := hide Lb
    clear Lb
    go_wp2_with fail
    refine (aa Dy).mono ?_
    rintro e W5 ⟨rfl, hb⟩
    obtain ⟨hc, hfz⟩ := az hb
    replace p0 := (hc _ _ qp).trans p0
    replace p1 := (hc _ _ qp).trans p1
    replace r0 := (hc _ _ q0).trans r0
    replace r1 := (hc _ _ q0).trans r1
    replace f0 := (hfz _ _ q0).trans f0
    replace f1 := (hfz _ _ q0).trans f1
    replace qp := Nat.lt_of_lt_of_le qp hb.size
    replace q0 := Nat.lt_of_lt_of_le q0 hb.size
    replace hw0 := au hw0 hb
    clear hc hfz
    clear hb z0 z1 z2 z3 ltz Dy
    go_wp2_with fail
    exact bodyPost_ret (v := .tuple #[.agg #[.int .i64 T9.n, .int .i64 T9.d], .int .i64 T9.e]) (by simp [results, Tryz.results19, go_sem, r0, r1, q0]) rfl
     ((aa agb) (A) (B) T9 _ _ ((aa FIN).2.2.2 om h2) (aa Uz) ⟨rfl, hw0.grown (fq _ _ _ _) hw0.size (fun k hk => by injection hk with hk; omega)⟩)
theorem asl (n d m : Int) (w : World) : Calls Tryz.prog 19 #[.agg #[.int .i64 n, .int .i64 d], .int .i64 m] w fun e w' => aqw w n d m e w' := by
 by_cases ok : Wd.nu n d
 ·
  by_cases h1 : m < 1
  ·
   exact (axu n d m w ok h1).mono (fun e w' h => ⟨_, .inr ⟨fun g => by omega, rfl⟩, h⟩)
  by_cases h2 : 1000000000000 < m
  ·
   exact (axv n d m w ok h2).mono (fun e w' h => ⟨_, .inr ⟨fun g => by omega, rfl⟩, h⟩)
  exact axt n d m w ok om om
 ·
  exact (asj n d m w ok).mono (fun e w' h => ⟨_, .inr ⟨fun g => ok g.1, rfl⟩, h⟩)

end Go.Proofs.YtpjgoogeokbaaaaGreatDoor
namespace Go.Proofs.YtpjgoogeokbaaaaGreatDoor
open Go.RowKit

def bos (l : List Int) : List Value := l.map fun (x : Int) => Value.int .i64 x
theorem ait {w : World} {base : Nat} {T : TypeId} {v : Value} {n : Nat} {xs : List Value} (h : w.ownsRow base T 1 v n xs) : ∀ g, v.ownBlock = some g → base ≤ g := by
 intro g hg
 obtain ⟨_, ⟨rfl, _⟩ | ⟨g', cap, cur, rfl, hb, _⟩⟩ := h
 ·
  simp [Value.ownBlock] at hg
 ·
  simp [Value.ownBlock] at hg; omega
end Go.Proofs.YtpjgoogeokbaaaaGreatDoor
namespace Go.Proofs.YtpjgoogeokbaaaaGreatDoor
open Go.RowKit

def Mx (w : World) (B : Nat) (v : Value) (l : List Int) : Prop :=
 w.ownsRow B 3 1 v l.length (bos l) ∧ ∀ g cs T f, v.ownBlock = some g → w.heap[g]? = some (.cells cs T f) → ∀ (j : Nat) c, cs[j]? = some c → ∃ z, c = .int .i64 z
theorem Mx.Qa (w : World) (B : Nat) : Mx w B (.slice none 0 0) [] := ⟨World.ownsRow_nil _ _ _ _, fun g _ _ _ h => by simp [Value.ownBlock] at h⟩
theorem Mx.ge {w : World} {B : Nat} {v : Value} {l : List Int} (h : Mx w B v l) : ∀ g, v.ownBlock = some g → B ≤ g := ait h.1
theorem Mx.kept {w w' : World} {B : Nat} {v : Value} {l : List Int} (h : Mx w B v l) (hk : ∀ g, v.ownBlock = some g → w'.heap[g]? = w.heap[g]?) : Mx w' B v l := by
 refine ⟨?_, fun g cs T f hg hc => h.2 g cs T f hg (by rw [← hk g hg]; exact hc)⟩
 obtain ⟨h1, h2 | ⟨g, cap, cur, e, h3, h4, h5⟩⟩ := h.1
 ·
  exact ⟨h1, .inl h2⟩
 ·
  exact ⟨h1, .inr ⟨g, cap, cur, e, h3, (hk g (by rw [e]; rfl)).trans h4, h5⟩⟩
theorem Mx.lt {w : World} {B : Nat} {v : Value} {l : List Int} (h : Mx w B v l) : ∀ g, v.ownBlock = some g → g < w.heap.size := fun g hg => (h.1.lt g hg).2
theorem Mx.below {w w' : World} {B : Nat} {v : Value} {l : List Int} (h : Mx w B v l) (hb : Below w.heap.size w w') : Mx w' B v l := h.kept fun g hg => hb.block g (h.lt g hg)
end Go.Proofs.YtpjgoogeokbaaaaGreatDoor
namespace Go.Proofs.YtpjgoogeokbaaaaGreatDoor
open Go.RowKit

set_option maxHeartbeats 16000000 in
theorem alj (A1 : Option Addr) (c1 : Nat) (l1 : List Nat) (m1 : Bool) (A2 : Option Addr) (c2 : Nat) (l2 : List Nat) (m2 : Bool) (q : Rat) (w : World) (h : QV w A1 c1 l1 m1 A2 c2 l2 m2 q) :
  Calls Tryz.prog 109 #[(Value.agg #[.slice A1 l1.length c1, .bool m1, .slice A2 l2.length c2, .bool m2])] w fun e w' => (∃ b, e = .returned (.bool b)) ∧ Below w.heap.size w w' := by
 have HD := hide (fun W (hW : Below w.heap.size w W) => Dm A1 c1 l1 m1 A2 c2 l2 m2 q W (h.below hW))
 have HO := hide Nu
 clear h
 go_enter Tryz.func109, Tryz.ntmps109
 go_wp2_with fail
 have hw0 : Below w.heap.size w (w.alloc (.cells #[.slice A1 l1.length c1, .bool m1, .slice A2 l2.length c2, .bool m2] 52)) := je (Below.refl _ _) _
 generalize w.alloc (.cells #[.slice A1 l1.length c1, .bool m1, .slice A2 l2.length c2, .bool m2] 52) = W0 at *
 refine ((aa HD) _ hw0).mono ?_
 rintro e W1 ⟨A5, c5, l5, m5, rfl, f5, hb⟩
 replace hw0 := au hw0 hb
 have F5 := hide f5
 clear hb f5
 go_wp2_with fail
 refine ((aa HO) _).mono ?_
 rintro e W2 ⟨A6, c6, l6, m6, rfl, f6, hb⟩
 have hcm := ahw A5 c5 l5 m5 _ A6 c6 l6 m6 _ W2 ((aa F5).below hb) f6
 replace hw0 := au hw0 hb
 obtain ⟨s, hs⟩ : ∃ s, s = gm ((q.den : Int) - 1) := ⟨_, rfl⟩
 rw [← hs] at hcm
 have HCM := hide hcm
 clear hb f6 hcm hs
 go_wp2_with fail
 refine (aa HCM).mono ?_
 rintro e W3 ⟨rfl, hb⟩
 replace hw0 := au hw0 hb
 clear hb
 go_wp2_with fail
 all_goals first | go_ret | skip
 exact ⟨⟨_, rfl⟩, hw0⟩

set_option maxHeartbeats 16000000 in
theorem ali (A1 : Option Addr) (c1 : Nat) (l1 : List Nat) (m1 : Bool) (A2 : Option Addr) (c2 : Nat) (l2 : List Nat) (m2 : Bool) (q : Rat) (w : World) (h : QV w A1 c1 l1 m1 A2 c2 l2 m2 q) (r1 : -9223372036854775808 ≤ q.num) (r2 : q.num ≤ 9223372036854775807) :
  Calls Tryz.prog 57 #[(Value.agg #[.slice A1 l1.length c1, .bool m1, .slice A2 l2.length c2, .bool m2])] w fun e w' => (∃ b, e = .returned (.tuple #[.int .i64 q.num, .bool b])) ∧ Below w.heap.size w w' := by
 have HS := hide (fun W (hW : Below w.heap.size w W) => Sd A1 c1 l1 m1 q.num W (h.num.below hW))
 have HI := hide (fun W (hW : Below w.heap.size w W) => alj A1 c1 l1 m1 A2 c2 l2 m2 q W (h.below hW))
 have hr : decide (-9223372036854775808 ≤ q.num ∧ q.num ≤ 9223372036854775807) = true := decide_eq_true ⟨r1, r2⟩
 have HR := Lib.hid hr
 clear h hr r1 r2
 obtain ⟨z, hz⟩ : ∃ z, z = q.num := ⟨_, rfl⟩
 rw [← hz] at HS HR ⊢
 clear hz
 go_enter Tryz.func57, Tryz.ntmps57
 go_upto_region 1 with fail
 obtain ⟨n0, hsz, hw0⟩ := Db w (.cells #[.slice A1 l1.length c1, .bool m1, .slice A2 l2.length c2, .bool m2] 52)
 generalize w.alloc (.cells #[.slice A1 l1.length c1, .bool m1, .slice A2 l2.length c2, .bool m2] 52) = W0 at *
 have k0 : W0.cell? ⟨w.heap.size, 0, none⟩ = some (.slice A1 l1.length c1) := ag n0 0
 have k1 : W0.cell? ⟨w.heap.size, 1, none⟩ = some (.bool m1) := ag n0 1
 have k2 : W0.cell? ⟨w.heap.size, 2, none⟩ = some (.slice A2 l2.length c2) := ag n0 2
 have k3 : W0.cell? ⟨w.heap.size, 3, none⟩ = some (.bool m2) := ag n0 3
 have q0 := lt_of_block n0
 clear n0 hsz
 go_wp2_with fail
 refine ((aa HS) _ hw0).mono ?_
 rintro e W1 ⟨v, okk, rfl, ho, hv, hb⟩
 rw [HR.out] at ho
 subst ho
 obtain rfl : v = z := hv rfl
 obtain ⟨hc, hfz⟩ := az hb
 replace k0 := (hc _ _ q0).trans k0
 replace k1 := (hc _ _ q0).trans k1
 replace k2 := (hc _ _ q0).trans k2
 replace k3 := (hc _ _ q0).trans k3
 replace hw0 := au hw0 hb
 clear hb hc hfz hv q0
 go_wp2_with fail
 refine ((aa HI) _ hw0).mono ?_
 rintro e W2 ⟨⟨b, rfl⟩, hb⟩
 replace hw0 := au hw0 hb
 clear hb k0 k1 k2 k3
 go_wp2_with fail
 go_ret2
 exact ⟨⟨_, rfl⟩, hw0⟩

namespace Wd
end Wd

end Go.Proofs.YtpjgoogeokbaaaaGreatDoor
namespace Go.Proofs.YtpjgoogeokbaaaaGreatDoor
open Go.RowKit

theorem btn {n d : Int} (ok : Wd.nu n d) : -1000000000001 ≤ n / d ∧ n / d ≤ 1000000000001 := by
 obtain ⟨o1, o2, o3, o4, o5⟩ := ok
 have g1 : -1000000000000 ≤ n / d := by
  rw [Int.le_ediv_iff_mul_le om]; omega
 have g2 : n / d < 1000000000001 := Int.ediv_lt_of_lt_mul om om
 omega
set_option maxHeartbeats 16000000 in
theorem aoj (n d : Int) (w : World) (ok : ¬ Wd.nu n d) :
  Calls Tryz.prog 15 #[.agg #[.int .i64 n, .int .i64 d]] w fun e w' => e = .returned (.tuple #[.int .i64 0, .int .i64 1]) ∧ Below w.heap.size w w' := by
 have HV := hide (fun W (hW : Below w.heap.size w W) => Cc n d W)
 rw [decide_eq_false ok] at HV
 clear ok
 go_enter Tryz.func15, Tryz.ntmps15
 go_wp2_with fail
 obtain ⟨nx, hsz, hw0⟩ := Db w (.cells #[.int .i64 n, .int .i64 d] 23)
 generalize w.alloc (.cells #[.int .i64 n, .int .i64 d] 23) = W0 at *
 clear hsz
 refine ((aa HV) _ (by first | exact hw0 | exact hw0.drew)).mono ?_
 rintro e W1 ⟨rfl, hb⟩
 replace nx := (hb.block _ (lt_of_block nx)).trans nx
 replace hw0 := au hw0 hb
 have k0 : W1.cell? ⟨w.heap.size, 0, none⟩ = some (.int .i64 n) := ag nx 0
 have k1 : W1.cell? ⟨w.heap.size, 1, none⟩ = some (.int .i64 d) := ag nx 1
 have qx := lt_of_block nx
 clear hb nx
 go_wp2_with fail
 all_goals first | go_ret2 | skip
 exact ⟨rfl, hw0⟩
set_option maxHeartbeats 16000000 in
theorem aso (n d : Int) (w : World) (ok : Wd.nu n d) :
  Calls Tryz.prog 15 #[.agg #[.int .i64 n, .int .i64 d]] w fun e w' => e = .returned (.tuple #[.int .i64 (n / d), .int .i64 0]) ∧ Below w.heap.size w w' := by
 have HV := hide (fun W (hW : Below w.heap.size w W) => Cc n d W)
 rw [decide_eq_true ok] at HV
 have He := hide (fun W => Zg ok W)
 have OKF := btn ok
 obtain ⟨x, hx⟩ : ∃ z, z = Wd.qR n d := ⟨_, rfl⟩
 have HFL : Hid (∀ A1 c1 l1 m1 A2 c2 l2 m2 W, QV W A1 c1 l1 m1 A2 c2 l2 m2 x → Calls Tryz.prog 56 #[(Value.agg #[.slice A1 l1.length c1, .bool m1, .slice A2 l2.length c2, .bool m2])] W fun e w' => QR W (Rat.divInt (n / d) 1) e w') := hide (fun A1 c1 l1 m1 A2 c2 l2 m2 W h => by
  have g := Vy 2 A1 c1 l1 m1 A2 c2 l2 m2 x W h (by rw [hx]; exact adh ok) om
  rw [hx, (Wd.Cf ok).1, (Wd.Cf ok).2] at g
  exact g)
 have Gl : Hid (∀ A1 c1 l1 m1 A2 c2 l2 m2 W, QV W A1 c1 l1 m1 A2 c2 l2 m2 (Rat.divInt (n / d) 1) → Calls Tryz.prog 57 #[(Value.agg #[.slice A1 l1.length c1, .bool m1, .slice A2 l2.length c2, .bool m2])] W fun e w' => (∃ b, e = .returned (.tuple #[.int .i64 (n / d), .bool b])) ∧ Below W.heap.size W w') := hide (fun A1 c1 l1 m1 A2 c2 l2 m2 W h => by
  have g := ali A1 c1 l1 m1 A2 c2 l2 m2 _ W h (by rw [(Wd.yg (n / d)).1]; omega) (by rw [(Wd.yg (n / d)).1]; omega)
  rw [(Wd.yg (n / d)).1] at g
  exact g)
 rw [← hx] at He
 obtain ⟨q, hq⟩ : ∃ z, z = n / d := ⟨_, rfl⟩
 rw [← hq] at HFL Gl ⊢
 clear ok OKF hx hq
 go_enter Tryz.func15, Tryz.ntmps15
 go_wp2_with fail
 obtain ⟨nx, hsz, hw0⟩ := Db w (.cells #[.int .i64 n, .int .i64 d] 23)
 generalize w.alloc (.cells #[.int .i64 n, .int .i64 d] 23) = W0 at *
 clear hsz
 refine ((aa HV) _ (by first | exact hw0 | exact hw0.drew)).mono ?_
 rintro e W1 ⟨rfl, hb⟩
 replace nx := (hb.block _ (lt_of_block nx)).trans nx
 replace hw0 := au hw0 hb
 have k0 : W1.cell? ⟨w.heap.size, 0, none⟩ = some (.int .i64 n) := ag nx 0
 have k1 : W1.cell? ⟨w.heap.size, 1, none⟩ = some (.int .i64 d) := ag nx 1
 have qx := lt_of_block nx
 clear hb nx
 go_wp2_with fail
 refine ((aa He) _).mono ?_
 rintro e W3 ⟨A1, c1, l1, m1, A2, c2, l2, m2, rfl, g1, g2, hb⟩
 replace hw0 := au hw0 hb
 have I1 := hide (QV.of g1 g2)
 clear hb g1 g2 He k0 k1 qx
 go_wp2_with fail
 refine ((aa HFL) A1 c1 l1 m1 A2 c2 l2 m2 _ (by first | exact aa I1 | exact (aa I1).below (Below.refl _ _).drew)).mono ?_
 rintro e W4 ⟨A3, c3, l3, m3, A4, c4, l4, m4, rfl, g1, g2, hb⟩
 replace hw0 := au hw0 hb
 have I2 := hide (QV.of g1 g2)
 clear hb g1 g2 HFL I1
 go_wp2_with fail
 refine ((aa Gl) A3 c3 l3 m3 A4 c4 l4 m4 _ (by first | exact aa I2 | exact (aa I2).below (Below.refl _ _).drew)).mono ?_
 rintro e W5 ⟨⟨b, rfl⟩, hb⟩
 replace hw0 := au hw0 hb
 clear hb Gl I2
 go_wp2_with fail
 all_goals first | go_ret2 | skip
 exact ⟨rfl, hw0⟩
theorem alm (n d : Int) (w : World) : Calls Tryz.prog 15 #[.agg #[.int .i64 n, .int .i64 d]] w fun e w' => e = .returned (.tuple #[.int .i64 (Ut n d), .int .i64 (Cz n d)]) ∧ Below w.heap.size w w' := by
 unfold Ut Cz
 by_cases ok : Wd.nu n d
 ·
  rw [if_pos ok, if_pos ok]; exact aso n d w ok
 ·
  rw [if_neg ok, if_neg ok]; exact aoj n d w ok

end Go.Proofs.YtpjgoogeokbaaaaGreatDoor
namespace Go.Proofs.YtpjgoogeokbaaaaGreatDoor
open Go.RowKit

end Go.Proofs.YtpjgoogeokbaaaaGreatDoor
namespace Go.Proofs.YtpjgoogeokbaaaaGreatDoor
namespace Wd

end Wd
end Go.Proofs.YtpjgoogeokbaaaaGreatDoor
namespace Go.Proofs.YtpjgoogeokbaaaaGreatDoor
open Go.RowKit

theorem Yf (a b : ByteArray) : (a ++ b).data.toList = a.data.toList ++ b.data.toList := by
 rw [ByteArray.data_append, Array.toList_append]
theorem aic (a b : ByteArray) : (a ++ b).size = a.size + b.size := by
 rw [← Ng, Yf, List.length_append, Ng, Ng]
end Go.Proofs.YtpjgoogeokbaaaaGreatDoor
namespace Go.Proofs.YtpjgoogeokbaaaaGreatDoor
open Go.RowKit

namespace Wd
end Wd
theorem bpa (s : ByteArray) : (⟨s.data.toList.toArray⟩ : ByteArray) = s := by cases s; simp
end Go.Proofs.YtpjgoogeokbaaaaGreatDoor
namespace Go.Proofs.YtpjgoogeokbaaaaGreatDoor
namespace Wd
open Go.Lib

theorem aki : ∀ (k u : Nat), 1 ≤ k → u < 10 ^ k → (decDigits u).length ≤ k
 | 0, _, h, _ => absurd h om
 | k + 1, u, _, h => by
  by_cases h1 : u < 10
  ·
   rw [decDigits_one h1]; simp
  ·
   rw [decDigits, dif_neg h1, List.length_append]
   rcases Nat.eq_zero_or_pos k with rfl | hk
   ·
    rw [Nat.zero_add, Nat.pow_one] at h; omega
   ·
    have := aki k (u / 10) hk (by rw [Nat.pow_succ] at h; omega)
    simp only [List.length_cons, List.length_nil]; omega
def Kg (n d : Int) : List UInt8 := if d = 1 then itoa n else itoa n ++ 47 :: itoa d
end Wd
end Go.Proofs.YtpjgoogeokbaaaaGreatDoor
namespace Go.Proofs.YtpjgoogeokbaaaaGreatDoor
open Go.RowKit

def Hz (w : World) : Prop := Lib.TabBelow Tryz.prog w.heap.size w "internal/strconv.uint64pow10" .u64 Lib.pow10Tab
theorem Hz.below {w W : World} (h : Hz w) (hb : Below w.heap.size w W) : Hz W := fun w' hb' => h w' (au hb hb')
theorem Xu (n : Int) (h0 : -9223372036854775808 ≤ n) (h1 : n ≤ 9223372036854775807) (w : World) (h10 : Hz w) :
  Calls Tryz.prog 66 #[.int .i64 n] w fun e w' => e = .returned (.string ⟨(Lib.itoa n).toArray⟩) ∧ Below w.heap.size w w' := by
 refine (Tryz.strconv_Itoa n h0 h1 w h10.here).mono ?_
 rintro e w' ⟨he, k, os, rfl⟩
 exact ⟨he, Lib.below_grow _ w (Nat.le_refl _) k os⟩
theorem Pw {y : ByteArray} {l : List UInt8} (h : y.data.toList = l) : y = ⟨l.toArray⟩ := by rw [← h, bpa]
theorem Td {n : Int} (h1 : -1000000000000 ≤ n) (h2 : n ≤ 1000000000000) : (Lib.itoa n).length ≤ 14 := by
 have := Wd.aki 13 n.natAbs om (Nat.lt_of_le_of_lt (show n.natAbs ≤ 1000000000000 by omega) (by decide))
 unfold Lib.itoa
 split
 ·
  rw [List.length_cons]; omega
 ·
  rw [show n.toNat = n.natAbs by omega]; omega
set_option maxHeartbeats 8000000 in
theorem aub (n d : Int) (w : World) (hT : rz w) (ok : ¬ Wd.nu n d) :
  Calls Tryz.prog 20 #[(Value.agg #[.int .i64 n, .int .i64 d])] w fun e w' => e = .returned (.tuple #[.string ⟨#[]⟩, .int .i64 1]) ∧ Below w.heap.size w w' := by
 have HV := hide (Ah n d)
 rw [show Cz n d = 1 from if_neg ok] at HV
 have HT := hide hT
 clear hT ok
 go_enter Tryz.func20, Tryz.ntmps20
 go_wp2_with fail
 obtain ⟨nx, hsz, hw0⟩ := Db w (.cells #[.int .i64 n, .int .i64 d] 23)
 generalize w.alloc (.cells #[.int .i64 n, .int .i64 d] 23) = W0 at *
 clear hsz nx
 refine ((aa HV) _ ((aa HT).below hw0)).mono ?_
 rintro e W1 ⟨rfl, hb⟩
 have gp := au hw0 hb
 clear hb
 go_wp2_with fail
 all_goals first | go_ret2 | skip
 exact ⟨rfl, gp⟩
set_option maxHeartbeats 8000000 in
theorem aua (n : Int) (w : World) (hT : rz w) (h10 : Hz w) (ok : Wd.nu n 1) :
  Calls Tryz.prog 20 #[(Value.agg #[.int .i64 n, .int .i64 1])] w fun e w' => e = .returned (.tuple #[.string ⟨(Wd.Kg n 1).toArray⟩, .int .i64 0]) ∧ Below w.heap.size w w' := by
 have HV := hide (Ah n 1)
 rw [show Cz n 1 = 0 from if_pos ok] at HV
 have HT := hide hT
 have HI := hide (fun W (hW : Hz W) => Xu n (by have := ok.2.2.1; omega) (by have := ok.2.2.2.1; omega) W hW)
 have Gg := hide h10
 have HE := Lib.hid (show Lib.itoa n = Wd.Kg n 1 from (if_pos rfl).symm)
 clear hT h10 ok
 go_enter Tryz.func20, Tryz.ntmps20
 go_wp2_with fail
 obtain ⟨nx, hsz, hw0⟩ := Db w (.cells #[.int .i64 n, .int .i64 1] 23)
 generalize w.alloc (.cells #[.int .i64 n, .int .i64 1] 23) = W0 at *
 clear hsz
 refine ((aa HV) _ ((aa HT).below hw0)).mono ?_
 rintro e W1 ⟨rfl, hb⟩
 replace nx := (hb.block _ (lt_of_block nx)).trans nx
 replace hw0 := au hw0 hb
 have k0 : W1.cell? ⟨w.heap.size, 0, none⟩ = some (.int .i64 n) := ag nx 0
 have k1 : W1.cell? ⟨w.heap.size, 1, none⟩ = some (.int .i64 1) := ag nx 1
 clear hb nx
 go_wp2_with fail
 refine ((aa HI) _ ((aa Gg).below hw0)).mono ?_
 rintro e W2 ⟨rfl, hb⟩
 have gp := au hw0 hb
 clear hb
 go_wp2_with fail
 all_goals first | go_ret2 | skip
 exact ⟨by rw [HE.out]; rfl, gp⟩
set_option maxHeartbeats 8000000 in
theorem aoo (n d : Int) (w : World) (hT : rz w) (h10 : Hz w) (ok : Wd.nu n d) (hd : ¬ d = 1) :
  Calls Tryz.prog 20 #[(Value.agg #[.int .i64 n, .int .i64 d])] w fun e w' => e = .returned (.tuple #[.string ⟨(Wd.Kg n d).toArray⟩, .int .i64 0]) ∧ Below w.heap.size w w' := by
 obtain ⟨o1, o2, o3, o4, _⟩ := id ok
 have HV := hide (Ah n d)
 rw [show Cz n d = 0 from if_pos ok] at HV
 have HT := hide hT
 have hI1 := (fun W (hW : Hz W) => Xu n om om W hW)
 have hI2 := (fun W (hW : Hz W) => Xu d om om W hW)
 have g1 := Td o3 o4
 have g2 := Td (n := d) om o2
 obtain ⟨a, ha⟩ : ∃ a : ByteArray, a = ⟨(Lib.itoa n).toArray⟩ := ⟨_, rfl⟩
 obtain ⟨b, hb⟩ : ∃ b : ByteArray, b = ⟨(Lib.itoa d).toArray⟩ := ⟨_, rfl⟩
 have la : a.data.toList = Lib.itoa n := by rw [ha]
 have lb : b.data.toList = Lib.itoa d := by rw [hb]
 have sa : a.size ≤ 14 := by rw [← Ng, la]; exact g1
 have sb : b.size ≤ 14 := by rw [← Ng, lb]; exact g2
 rw [← ha] at hI1
 rw [← hb] at hI2
 have s47 : (⟨#[47]⟩ : ByteArray).size = 1 := rfl
 have aqa : ∀ W, (Op.stringOp .add a ⟨#[47]⟩).run Tryz.prog W = .ok (.string (a ++ ⟨#[47]⟩)) W := fun W => run_string_add_sum W a _ (by rw [s47]; omega)
 have ban : ¬ (a.size + (⟨#[47]⟩ : ByteArray).size > 9223372036854775807) := by rw [s47]; omega
 have bju : ¬ (a.size + 1 > 9223372036854775807) := by omega
 have sy : (a ++ ⟨#[47]⟩ : ByteArray).size = a.size + 1 := by rw [aic]; rfl
 have ly : (a ++ ⟨#[47]⟩ : ByteArray).data.toList = Lib.itoa n ++ [47] := by rw [Yf, la]
 obtain ⟨y, hy⟩ : ∃ y, a ++ ⟨#[47]⟩ = y := ⟨_, rfl⟩
 rw [hy] at aqa sy ly
 have apz : ∀ W, (Op.stringOp .add y b).run Tryz.prog W = .ok (.string (y ++ b)) W := fun W => run_string_add_sum W y b om
 have bud : ¬ (y.size + b.size > 9223372036854775807) := by omega
 have lz : (y ++ b).data.toList = Wd.Kg n d := by
  rw [Yf, ly, lb]; unfold Wd.Kg; rw [if_neg hd, List.append_assoc]; rfl
 obtain ⟨z, hz⟩ : ∃ z, y ++ b = z := ⟨_, rfl⟩
 rw [hz] at apz lz
 have HZ := Lib.hid (Pw lz)
 have e1 : (d == 1) = false := beq_eq_false_iff_ne.2 hd
 have HI1 := hide hI1; have HI2 := hide hI2
 have Gg := hide h10
 clear hT h10 ok o1 o2 o3 o4 g1 g2 ha hb la lb sa sb sy ly lz hy hz hI1 hI2 s47
 go_enter Tryz.func20, Tryz.ntmps20
 go_wp2_with fail
 obtain ⟨nx, hsz, hw0⟩ := Db w (.cells #[.int .i64 n, .int .i64 d] 23)
 generalize w.alloc (.cells #[.int .i64 n, .int .i64 d] 23) = W0 at *
 clear hsz
 refine ((aa HV) _ ((aa HT).below hw0)).mono ?_
 rintro e W1 ⟨rfl, hb⟩
 replace nx := (hb.block _ (lt_of_block nx)).trans nx
 replace hw0 := au hw0 hb
 have k0 : W1.cell? ⟨w.heap.size, 0, none⟩ = some (.int .i64 n) := ag nx 0
 have k1 : W1.cell? ⟨w.heap.size, 1, none⟩ = some (.int .i64 d) := ag nx 1
 have qx := lt_of_block nx
 clear hb nx
 have KEEP := hide (show ∀ X, Below W1.heap.size W1 X → X.cell? ⟨w.heap.size, 0, none⟩ = some (.int .i64 n) ∧ X.cell? ⟨w.heap.size, 1, none⟩ = some (.int .i64 d) from fun X hB => ⟨ai hB qx k0, ai hB qx k1⟩)
 go_upto_region 6 with fail
 go_region_held3 (fun w' => w'.cell? ⟨w.heap.size, 0, none⟩ = some (.int .i64 n) ∧ w'.cell? ⟨w.heap.size, 1, none⟩ = some (.int .i64 d)) (exact (aa KEEP) _ bel) (first | (go_at_call_of 66 (Value.int .i64 n); refine ((aa HI1) _ ((aa Gg).below (au hw0 bel))).mono ?_; rintro e w' ⟨rfl, hb1⟩; have hbw := ay (w := W1) bel hb1; have hsw := hbw.size; obtain ⟨hc, hfz⟩ := az hbw) | (go_at_call_of 66 (Value.int .i64 d); refine ((aa HI2) _ ((aa Gg).below (au hw0 bel))).mono ?_; rintro e w' ⟨rfl, hb2⟩; have hbw := ay (w := W1) bel hb2; have hsw := hbw.size; obtain ⟨hc, hfz⟩ := az hbw))
 all_goals
  have gp := au hw0 hbw
  clear hbw hc hfz
  go_wp2_with fail
  first | go_ret2 | skip
  exact ⟨by rw [HZ.out]; rfl, gp⟩
end Go.Proofs.YtpjgoogeokbaaaaGreatDoor
namespace Go.Proofs.YtpjgoogeokbaaaaGreatDoor
open Go.RowKit

theorem Uu : ∀ k : Nat, k < 10 → Utf8.encode (48 + (k : Int)) = (⟨#[UInt8.ofNat (48 + k)]⟩ : ByteArray) := by
 intro k hk
 have : k = 0 ∨ k = 1 ∨ k = 2 ∨ k = 3 ∨ k = 4 ∨ k = 5 ∨ k = 6 ∨ k = 7 ∨ k = 8 ∨ k = 9 := by omega
 rcases this with rfl | rfl | rfl | rfl | rfl | rfl | rfl | rfl | rfl | rfl <;> rfl
theorem ars (k : Nat) (h1 : k < 10) : IntKind.i64.wrap (48 + (k : Int)) = 48 + (k : Int) ∧ wrap64 (48 + (k : Int)) = 48 + (k : Int) ∧ IntKind.i32.wrap (48 + (k : Int)) = 48 + (k : Int) :=
 ⟨IntWalk.i64_in _ om, IntWalk.wrap64_in _ om, by simp only [IntKind.wrap, IntKind.bits, IntKind.signed]; simp; omega⟩
set_option maxHeartbeats 16000000 in
theorem ana (k : Nat) (w : World) (h1 : k < 10) :
  Calls Tryz.prog 119 #[.int .i64 (k : Int)] w fun e w' => e = .returned (.string ⟨#[UInt8.ofNat (48 + k)]⟩) ∧ w' = w := by
 have d1 : decide ((k : Int) < 0) = false := decide_eq_false om
 have d2 : decide ((k : Int) < 10) = true := decide_eq_true om
 have d3 : decide (k < 10) = true := decide_eq_true om
 obtain ⟨w1, w2, w3⟩ := ars k h1
 have HE := Lib.hid (Uu k h1)
 clear h1
 go_enter Tryz.func119, Tryz.ntmps119
 go_wp2_with fail
 go_ret
 exact ⟨by rw [HE.out]; rfl, rfl⟩
theorem bhj (l : List UInt8) (k : Nat) (h : k < 10) : (⟨l.toArray⟩ : ByteArray) ++ Utf8.encode (48 + (k : Int)) = ⟨(l ++ [UInt8.ofNat (48 + k)]).toArray⟩ := by
 rw [Uu k h]
 apply Pw
 rw [Yf]
set_option maxHeartbeats 16000000 in
theorem bbe (z v r : Int) (S S' : ByteArray) (w : World) (h0 : ¬ z < 0) (h1 : ¬ z < 10) (e1 : z.tdiv 10 = v) (e2 : z.tmod 10 = r) (hv : 0 ≤ v ∧ v ≤ 9223372036854775807) (hr : 0 ≤ r ∧ r < 10) (hc : S ++ Utf8.encode (48 + r) = S') (hs : S.size ≤ 1000) (h8 : (Utf8.encode (48 + r)).size = 1)
  (ih : ∀ W, Calls Tryz.prog 119 #[.int .i64 v] W fun e w' => e = .returned (.string S) ∧ w' = W) :
  Calls Tryz.prog 119 #[.int .i64 z] w fun e w' => e = .returned (.string S') ∧ w' = w := by
 have d1 : decide (z < 0) = false := decide_eq_false h0
 have d2 : decide (z < 10) = false := decide_eq_false h1
 have w1 : IntKind.i64.wrap (48 + r) = 48 + r := IntWalk.i64_in _ om
 have w2 : wrap64 (48 + r) = 48 + r := IntWalk.wrap64_in _ om
 have w3 : IntKind.i32.wrap (48 + r) = 48 + r := by simp only [IntKind.wrap, IntKind.bits, IntKind.signed]; simp; omega
 have w4 : IntKind.i64.wrap v = v := IntWalk.i64_in _ om
 have w5 : wrap64 v = v := IntWalk.wrap64_in _ om
 have w6 : IntKind.i64.wrap r = r := IntWalk.i64_in _ om
 have w7 : wrap64 r = r := IntWalk.wrap64_in _ om
 have ban : ¬ (S.size + (Utf8.encode (48 + r)).size > 9223372036854775807) := by rw [h8]; omega
 obtain ⟨X, hX⟩ : ∃ X, S ++ Utf8.encode (48 + r) = X := ⟨_, rfl⟩
 have hadd : ∀ W, (Op.stringOp .add S (Utf8.encode (48 + r))).run Tryz.prog W = .ok (.string X) W := fun W => by rw [← hX]; exact run_string_add_sum W S _ (by rw [h8]; omega)
 rw [hX] at hc
 have HC := Lib.hid hc
 have HX := Lib.hid hX
 have HI := hide ih
 clear ih h0 h1 hv hr hc hs h8 hX
 go_enter Tryz.func119, Tryz.ntmps119
 go_wp2_with fail
 refine ((aa HI) _).mono ?_
 rintro e W2 ⟨rfl, Em⟩
 replace Em := Em.symm
 subst Em
 go_wp2_with fail
 go_ret
 exact ⟨by first | (rw [← HC.out]; rfl) | (rw [← HC.out, ← HX.out]; rfl), rfl⟩
theorem aba (u : Nat) (h : u ≤ 9223372036854775807) : (Lib.decDigits u).length ≤ 19 := Wd.aki 19 u om om
theorem adt : ∀ (f u : Nat) (w : World), u ≤ f → u ≤ 9223372036854775807 → Calls Tryz.prog 119 #[.int .i64 (u : Int)] w fun e w' => e = .returned (.string ⟨(Lib.decDigits u).toArray⟩) ∧ w' = w
 | 0, u, w, hf, _ => by
  obtain rfl : u = 0 := by omega
  have := ana 0 w om
  rw [Lib.decDigits, dif_pos om]
  exact this
 | f + 1, u, w, hf, hu => by
  by_cases h : u < 10
  ·
   rw [Lib.decDigits, dif_pos h]; exact ana u w h
  ·
   have hu' : Lib.decDigits u = Lib.decDigits (u / 10) ++ [UInt8.ofNat (48 + u % 10)] := by rw [Lib.decDigits, dif_neg h]
   rw [hu']
   exact bbe (u : Int) ((u / 10 : Nat) : Int) ((u % 10 : Nat) : Int) _ _ w om om (by rw [Int.tdiv_eq_ediv_of_nonneg om]; omega) (by rw [Int.tmod_eq_emod_of_nonneg om]; omega) om om (bhj _ _ om) (by rw [← Ng]; exact Nat.le_trans (aba (u / 10) om) om) (by rw [Uu _ om]; rfl) (fun W => adt f (u / 10) W om om)
set_option maxHeartbeats 16000000 in
theorem bhh (z v : Int) (S S' : ByteArray) (w : World) (h0 : z < 0) (e1 : -z = v) (hv : 0 ≤ v ∧ v ≤ 9223372036854775807) (hc : (⟨#[45]⟩ : ByteArray) ++ S = S') (hs : S.size ≤ 1000)
  (ih : ∀ W, Calls Tryz.prog 119 #[.int .i64 v] W fun e w' => e = .returned (.string S) ∧ w' = W) :
  Calls Tryz.prog 119 #[.int .i64 z] w fun e w' => e = .returned (.string S') ∧ w' = w := by
 have d1 : decide (z < 0) = true := decide_eq_true h0
 have w4 : IntKind.i64.wrap (-z) = v := by rw [e1]; exact IntWalk.i64_in _ om
 have w5 : wrap64 (-z) = v := by rw [e1]; exact IntWalk.wrap64_in _ om
 have s45 : (⟨#[45]⟩ : ByteArray).size = 1 := rfl
 have ban : ¬ ((⟨#[45]⟩ : ByteArray).size + S.size > 9223372036854775807) := by rw [s45]; omega
 have bju : ¬ (1 + S.size > 9223372036854775807) := by omega
 obtain ⟨X, hX⟩ : ∃ X, (⟨#[45]⟩ : ByteArray) ++ S = X := ⟨_, rfl⟩
 have hadd : ∀ W, (Op.stringOp .add ⟨#[45]⟩ S).run Tryz.prog W = .ok (.string X) W := fun W => by rw [← hX]; exact run_string_add_sum W _ S (by rw [s45]; omega)
 rw [hX] at hc
 have HC := Lib.hid hc
 have HX := Lib.hid hX
 have HI := hide ih
 clear ih h0 hv hc e1 hs s45 hX
 go_enter Tryz.func119, Tryz.ntmps119
 go_wp2_with fail
 refine ((aa HI) _).mono ?_
 rintro e W2 ⟨rfl, Em⟩
 replace Em := Em.symm
 subst Em
 go_wp2_with fail
 go_ret
 exact ⟨by first | (rw [← HC.out]; rfl) | (rw [← HC.out, ← HX.out]; rfl), rfl⟩
theorem adu (n : Int) (w : World) (h1 : -1000000000000 ≤ n) (h2 : n ≤ 1000000000000) :
  Calls Tryz.prog 119 #[.int .i64 n] w fun e w' => e = .returned (.string ⟨(Lib.itoa n).toArray⟩) ∧ w' = w := by
 unfold Lib.itoa
 by_cases h : n < 0
 ·
  rw [if_pos h]
  refine bhh n (n.natAbs : Int) ⟨(Lib.decDigits n.natAbs).toArray⟩ _ w h om om ?_ (by rw [← Ng]; exact Nat.le_trans (aba n.natAbs om) om) (fun W => adt n.natAbs n.natAbs W (Nat.le_refl _) om)
  apply Pw; rw [Yf]; rfl
 ·
  rw [if_neg h]
  have := adt n.toNat n.toNat w (Nat.le_refl _) om
  rwa [show (n.toNat : Int) = n by omega] at this
set_option maxHeartbeats 16000000 in
theorem asb (n d : Int) (w : World) (ok : Wd.nu n d) (hd : d = 1) :
  Calls Tryz.prog 67 #[.agg #[.int .i64 n, .int .i64 d]] w fun e w' => e = .returned (.string ⟨(Wd.Kg n d).toArray⟩) ∧ Below w.heap.size w w' := by
 subst hd
 have HI := hide (fun W => adu n W ok.2.2.1 ok.2.2.2.1)
 have HE := Lib.hid (show Lib.itoa n = Wd.Kg n 1 from (if_pos rfl).symm)
 clear ok
 go_enter Tryz.func67, Tryz.ntmps67
 go_upto_region 1 with fail
 obtain ⟨nx, hsz, hw0⟩ := Db w (.cells #[.int .i64 n, .int .i64 1] 23)
 generalize w.alloc (.cells #[.int .i64 n, .int .i64 1] 23) = W0 at *
 have k0 : W0.cell? ⟨w.heap.size, 0, none⟩ = some (.int .i64 n) := ag nx 0
 have k1 : W0.cell? ⟨w.heap.size, 1, none⟩ = some (.int .i64 1) := ag nx 1
 clear hsz nx
 go_wp2_with fail
 refine ((aa HI) _).mono ?_
 rintro e W2 ⟨rfl, Em⟩
 replace Em := Em.symm
 subst Em
 go_wp2_with fail
 go_ret
 exact ⟨by rw [HE.out]; rfl, by first | exact hw0 | exact hw0.drew⟩
set_option maxHeartbeats 16000000 in
theorem aob (n d : Int) (w : World) (ok : Wd.nu n d) (hd : ¬ d = 1) :
  Calls Tryz.prog 67 #[.agg #[.int .i64 n, .int .i64 d]] w fun e w' => e = .returned (.string ⟨(Wd.Kg n d).toArray⟩) ∧ Below w.heap.size w w' := by
 obtain ⟨o1, o2, o3, o4, _⟩ := id ok
 have hI1 := fun W => adu n W o3 o4
 have hI2 := fun W => adu d W om o2
 have g1 := Td o3 o4
 have g2 := Td (n := d) om o2
 obtain ⟨a, ha⟩ : ∃ a : ByteArray, a = ⟨(Lib.itoa n).toArray⟩ := ⟨_, rfl⟩
 obtain ⟨b, hb⟩ : ∃ b : ByteArray, b = ⟨(Lib.itoa d).toArray⟩ := ⟨_, rfl⟩
 have la : a.data.toList = Lib.itoa n := by rw [ha]
 have lb : b.data.toList = Lib.itoa d := by rw [hb]
 have sa : a.size ≤ 14 := by rw [← Ng, la]; exact g1
 have sb : b.size ≤ 14 := by rw [← Ng, lb]; exact g2
 rw [← ha] at hI1
 rw [← hb] at hI2
 have s47 : (⟨#[47]⟩ : ByteArray).size = 1 := rfl
 have aqa : ∀ W, (Op.stringOp .add a ⟨#[47]⟩).run Tryz.prog W = .ok (.string (a ++ ⟨#[47]⟩)) W := fun W => run_string_add_sum W a _ (by rw [s47]; omega)
 have ban : ¬ (a.size + (⟨#[47]⟩ : ByteArray).size > 9223372036854775807) := by rw [s47]; omega
 have bju : ¬ (a.size + 1 > 9223372036854775807) := by omega
 have sy : (a ++ ⟨#[47]⟩ : ByteArray).size = a.size + 1 := by rw [aic]; rfl
 have ly : (a ++ ⟨#[47]⟩ : ByteArray).data.toList = Lib.itoa n ++ [47] := by rw [Yf, la]
 obtain ⟨y, hy⟩ : ∃ y, a ++ ⟨#[47]⟩ = y := ⟨_, rfl⟩
 rw [hy] at aqa sy ly
 have apz : ∀ W, (Op.stringOp .add y b).run Tryz.prog W = .ok (.string (y ++ b)) W := fun W => run_string_add_sum W y b om
 have bud : ¬ (y.size + b.size > 9223372036854775807) := by omega
 have lz : (y ++ b).data.toList = Wd.Kg n d := by
  rw [Yf, ly, lb]; unfold Wd.Kg; rw [if_neg hd, List.append_assoc]; rfl
 obtain ⟨z, hz⟩ : ∃ z, y ++ b = z := ⟨_, rfl⟩
 rw [hz] at apz lz
 have HZ := Lib.hid (Pw lz)
 have e1 : (d == 1) = false := beq_eq_false_iff_ne.2 hd
 have HI1 := hide hI1; have HI2 := hide hI2
 clear ok o1 o2 o3 o4 g1 g2 ha hb la lb sa sb sy ly lz hy hz hI1 hI2 s47
 go_enter Tryz.func67, Tryz.ntmps67
 go_upto_region 1 with fail
 obtain ⟨nx, hsz, hw0⟩ := Db w (.cells #[.int .i64 n, .int .i64 d] 23)
 generalize w.alloc (.cells #[.int .i64 n, .int .i64 d] 23) = W0 at *
 have k0 : W0.cell? ⟨w.heap.size, 0, none⟩ = some (.int .i64 n) := ag nx 0
 have k1 : W0.cell? ⟨w.heap.size, 1, none⟩ = some (.int .i64 d) := ag nx 1
 clear hsz nx
 have qx : w.heap.size < W0.heap.size := World.block_lt_of_cell? W0 ⟨w.heap.size, 0, none⟩ k0
 have KEEP := hide (show ∀ X, Below W0.heap.size W0 X → X.cell? ⟨w.heap.size, 0, none⟩ = some (.int .i64 n) ∧ X.cell? ⟨w.heap.size, 1, none⟩ = some (.int .i64 d) from fun X hB => ⟨ai hB qx k0, ai hB qx k1⟩)
 go_upto_region 3 with fail
 go_region_held3 (fun w' => w'.cell? ⟨w.heap.size, 0, none⟩ = some (.int .i64 n) ∧ w'.cell? ⟨w.heap.size, 1, none⟩ = some (.int .i64 d)) (exact (aa KEEP) _ (by (repeat (first | with_reducible exact Below.refl _ _ | with_reducible assumption | with_reducible refine Below.drew ?_)))) (first | (go_at_call_of 119 (Value.int .i64 n); refine ((aa HI1) _).mono ?_; rintro e w' ⟨rfl, Em⟩; replace Em := Em.symm; subst Em) | (go_at_call_of 119 (Value.int .i64 d); refine ((aa HI2) _).mono ?_; rintro e w' ⟨rfl, Em⟩; replace Em := Em.symm; subst Em))
 all_goals
  go_wp2_with fail
  go_ret
  exact ⟨by rw [HZ.out]; rfl, by first | exact hw0 | exact hw0.drew⟩
theorem asc (n d : Int) (w : World) (ok : Wd.nu n d) : Calls Tryz.prog 67 #[.agg #[.int .i64 n, .int .i64 d]] w fun e w' => e = .returned (.string ⟨(Wd.Kg n d).toArray⟩) ∧ Below w.heap.size w w' := by
 by_cases hd : d = 1
 ·
  exact asb n d w ok hd
 ·
  exact aob n d w ok hd
set_option maxHeartbeats 16000000 in
theorem aog (n d : Int) (w : World) (ok : ¬ Wd.nu n d) :
  Calls Tryz.prog 21 #[.agg #[.int .i64 n, .int .i64 d]] w fun e w' => e = .returned (.tuple #[.string ⟨#[]⟩, .int .i64 1]) ∧ Below w.heap.size w w' := by
 have HV := hide (fun W (hW : Below w.heap.size w W) => Cc n d W)
 rw [decide_eq_false ok] at HV
 clear ok
 go_enter Tryz.func21, Tryz.ntmps21
 go_wp2_with fail
 obtain ⟨nx, hsz, hw0⟩ := Db w (.cells #[.int .i64 n, .int .i64 d] 23)
 generalize w.alloc (.cells #[.int .i64 n, .int .i64 d] 23) = W0 at *
 clear hsz
 refine ((aa HV) _ (by first | exact hw0 | exact hw0.drew)).mono ?_
 rintro e W1 ⟨rfl, hb⟩
 replace nx := (hb.block _ (lt_of_block nx)).trans nx
 replace hw0 := au hw0 hb
 have k0 : W1.cell? ⟨w.heap.size, 0, none⟩ = some (.int .i64 n) := ag nx 0
 have k1 : W1.cell? ⟨w.heap.size, 1, none⟩ = some (.int .i64 d) := ag nx 1
 have qx := lt_of_block nx
 clear hb nx
 go_wp2_with fail
 all_goals first | go_ret2 | skip
 exact ⟨rfl, hw0⟩
set_option maxHeartbeats 16000000 in
theorem asi (n d : Int) (w : World) (ok : Wd.nu n d) :
  Calls Tryz.prog 21 #[.agg #[.int .i64 n, .int .i64 d]] w fun e w' => e = .returned (.tuple #[.string ⟨(Wd.Kg n d).toArray⟩, .int .i64 0]) ∧ Below w.heap.size w w' := by
 have HV := hide (fun W (hW : Below w.heap.size w W) => Cc n d W)
 rw [decide_eq_true ok] at HV
 have HTX := hide (fun W => asc n d W ok)
 obtain ⟨S, hS⟩ : ∃ S : ByteArray, S = ⟨(Wd.Kg n d).toArray⟩ := ⟨_, rfl⟩
 rw [← hS] at HTX ⊢
 clear ok hS
 go_enter Tryz.func21, Tryz.ntmps21
 go_wp2_with fail
 obtain ⟨nx, hsz, hw0⟩ := Db w (.cells #[.int .i64 n, .int .i64 d] 23)
 generalize w.alloc (.cells #[.int .i64 n, .int .i64 d] 23) = W0 at *
 clear hsz
 refine ((aa HV) _ (by first | exact hw0 | exact hw0.drew)).mono ?_
 rintro e W1 ⟨rfl, hb⟩
 replace nx := (hb.block _ (lt_of_block nx)).trans nx
 replace hw0 := au hw0 hb
 have k0 : W1.cell? ⟨w.heap.size, 0, none⟩ = some (.int .i64 n) := ag nx 0
 have k1 : W1.cell? ⟨w.heap.size, 1, none⟩ = some (.int .i64 d) := ag nx 1
 have qx := lt_of_block nx
 clear hb nx
 go_wp2_with fail
 refine ((aa HTX) _).mono ?_
 rintro e W3 ⟨rfl, hb⟩
 replace hw0 := au hw0 hb
 clear hb HTX
 go_wp2_with fail
 all_goals first | go_ret2 | skip
 exact ⟨rfl, hw0⟩

end Go.Proofs.YtpjgoogeokbaaaaGreatDoor
