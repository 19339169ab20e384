/- Texts beneath a law of layer 1. -/
import Derived.Test.YtpjgoogeokbaaaaGreatDoorCk7
import Derived.BigQuiet
import Derived.Deep.QuietTactic
import Derived.Laws.Bits64b
import Derived.Deep.CutBlock
import Derived.Deep.DeepCutAuto
set_option maxRecDepth 100000
namespace Go.Proofs.YtpjgoogeokbaaaaGreatDoor
namespace Wd

def simp : Nat → Nat → Nat → Nat → Nat → Nat × Nat
 | 0, _, _, _, _ => (0, 1)
 | f + 1, a, b, c, d => if b = 1 then (a, 1) else if a / b < c / d then (a / b + 1, 1)
  else (a / b * (simp f d (c - a / b * d) b (a - a / b * b)).1 + (simp f d (c - a / b * d) b (a - a / b * b)).2, (simp f d (c - a / b * d) b (a - a / b * b)).1)

structure akq (a b c d : Nat) : Prop where
 pa : 0 < a
 pb : 0 < b
 pc : 0 < c
 pd : 0 < d
 co : a.Coprime b
 co2 : c.Coprime d
 le : a * d ≤ c * b

theorem Vz (a b : Nat) : a - a / b * b = a % b := by
 have := Nat.div_add_mod a b
 rw [Nat.mul_comm] at this
 omega
theorem akq.step {a b c d : Nat} (h : akq a b c d) (hb : b ≠ 1) (hk : ¬ a / b < c / d) :
  akq d (c - a / b * d) b (a - a / b * b) ∧ c / d = a / b ∧ c - a / b * d = c % d ∧ c - a / b * d < d ∧ a - a / b * b < b := by
 have ha := h.pa; have hb0 := h.pb; have hc := h.pc; have hd := h.pd
 have e1 := Nat.div_add_mod a b
 have r0 : a % b ≠ 0 := fun e => by
  have hdv := Nat.dvd_of_mod_eq_zero e
  have := Nat.Coprime.eq_one_of_dvd h.co.symm hdv
  exact hb this
 have hkd : a / b ≤ c / d := by
  rw [Nat.le_div_iff_mul_le hd]
  have h2 : a / b * b * d ≤ c * b := Nat.le_trans (Nat.mul_le_mul_right _ (Nat.div_mul_le_self a b)) h.le
  rw [Nat.mul_right_comm] at h2
  exact Nat.le_of_mul_le_mul_right h2 hb0
 have hq : c / d = a / b := by omega
 have e2 : c - a / b * d = c % d := by rw [← hq]; exact Vz c d
 have e3 := Vz a b
 have e4 := Nat.div_add_mod c d
 have hle : a % b * d ≤ c % d * b := by
  have hle := h.le
  rw [hq] at e4
  generalize a / b = k at *
  generalize a % b = r at *
  generalize c % d = s at *
  subst e1 e4
  rw [Nat.add_mul, Nat.add_mul] at hle
  have : b * k * d = d * k * b := by rw [Nat.mul_comm b k, Nat.mul_assoc, Nat.mul_comm b d, ← Nat.mul_assoc, Nat.mul_comm k d]
  omega
 have s0 : 0 < c % d := by
  rcases Nat.eq_zero_or_pos (c % d) with e | e
  ·
   rw [e, Nat.zero_mul] at hle
   have := Nat.mul_pos (Nat.pos_of_ne_zero r0) hd
   omega
  ·
   exact e
 rw [e2, e3]
 refine ⟨⟨hd, s0, hb0, Nat.pos_of_ne_zero r0, ?_, ?_, ?_⟩, hq, rfl, Nat.mod_lt _ hd, Nat.mod_lt _ hb0⟩
 ·
  have := h.co2
  unfold Nat.Coprime at *
  rw [Nat.gcd_comm, ← Nat.gcd_rec, Nat.gcd_comm]; exact this
 ·
  have := h.co
  unfold Nat.Coprime at *
  rw [Nat.gcd_comm, ← Nat.gcd_rec, Nat.gcd_comm]; exact this
 ·
  rw [Nat.mul_comm, Nat.mul_comm b]; exact hle
def fr (n d : Nat) : Rat := Rat.divInt (n : Int) (d : Int)
end Wd
end Go.Proofs.YtpjgoogeokbaaaaGreatDoor
namespace Go.Proofs.YtpjgoogeokbaaaaGreatDoor
namespace Wd

def cf : Nat → Int → Int → List Int
 | 0, _, _ => []
 | f + 1, n, d => if d = 0 then [] else n / d :: cf f d (n % d)
theorem avy : ∀ (f : Nat) (n d : Int), (cf f n d).length ≤ f
 | 0, _, _ => Nat.le_refl _
 | f + 1, n, d => by
  unfold cf
  split
  ·
   exact Nat.zero_le _
  ·
   have := avy f d (n % d)
   rw [List.length_cons]; omega
theorem bhi (f : Nat) (n : Int) : cf f n 0 = [] := by
 cases f with
 | zero => rfl
 | succ f => simp [cf]
structure Nl (L l : List Int) (n d : Int) : Prop where
 ok : ∃ f : Nat, d < f ∧ l ++ cf f n d = L ∧ L.length ≤ l.length + f
 d0 : 0 ≤ d
 nb : -1000000000000 ≤ n ∧ n ≤ 1000000000000
 db : d ≤ 1000000000000
theorem Nl.start {n d : Int} (h : nu n d) : Nl (cf (d.toNat + 1) n d) [] n d := by
 obtain ⟨h1, h2, h3, h4, _⟩ := h
 exact ⟨⟨d.toNat + 1, by omega, rfl, by have := avy (d.toNat + 1) n d; simpa using this⟩, by omega, ⟨by omega, by omega⟩, by omega⟩
theorem Nl.step {L l : List Int} {n d : Int} (h : Nl L l n d) (hd : 0 < d) : Nl L (l ++ [n / d]) d (n % d) ∧ n - n / d * d = n % d ∧ -1000000000000 ≤ n / d ∧ n / d ≤ 1000000000000 ∧ -2000000000000 ≤ n / d * d ∧ n / d * d ≤ 2000000000000 := by
 obtain ⟨⟨f, h1, h2, h3⟩, h4, h5, h6⟩ := h
 have e1 := Int.emod_nonneg n (show d ≠ 0 by omega)
 have e2 := Int.emod_lt_of_pos n hd
 have e3 := Int.mul_ediv_add_emod n d
 rw [Int.mul_comm] at e3
 have lo : -1000000000000 ≤ n / d := by
  rw [Int.le_ediv_iff_mul_le hd]
  omega
 have hi : n / d ≤ 1000000000000 := by
  rcases Int.lt_or_le n 0 with hn | hn
  ·
   have : n / d < 0 := Int.ediv_neg_of_neg_of_pos hn hd
   omega
  ·
   have := Int.ediv_le_self d hn
   omega
 have e4 : n - n / d * d = n % d ∧ -2000000000000 ≤ n / d * d ∧ n / d * d ≤ 2000000000000 := by
  generalize n / d * d = t at *
  generalize n % d = r at *
  exact ⟨by omega, by omega, by omega⟩
 refine ⟨⟨?_, e1, by omega, by omega⟩, e4.1, lo, hi, e4.2.1, e4.2.2⟩
 cases f with
 | zero => omega
 | succ f =>
  refine ⟨f, by omega, ?_, by simp; omega⟩
  rw [← h2]
  simp only [cf, if_neg (show ¬ d = 0 by omega), List.append_assoc, List.cons_append, List.nil_append]
theorem Nl.done {L l : List Int} {n : Int} (h : Nl L l n 0) : l = L := by
 obtain ⟨⟨f, h1, h2, h3⟩, _, _, _⟩ := h
 rw [bhi, List.append_nil] at h2
 exact h2
theorem Nl.len {L l : List Int} {n d : Int} (h : Nl L l n d) (hL : L.length ≤ 1000000000001) : l.length ≤ 1000000000001 := by
 obtain ⟨⟨f, h1, h2, h3⟩, _, _, _⟩ := h
 rw [← h2, List.length_append] at hL
 omega
end Wd
end Go.Proofs.YtpjgoogeokbaaaaGreatDoor
namespace Go.Proofs.YtpjgoogeokbaaaaGreatDoor
namespace Wd

theorem yg (a : Int) : (Rat.divInt a 1).num = a ∧ ((Rat.divInt a 1).den : Int) = 1 := by
 have h : Rat.divInt a 1 = (a : Rat) := by
  rw [← Rat.num_divInt_den (a : Rat)]; rfl
 rw [h]
 exact ⟨rfl, rfl⟩
def awi (l : List Int) : Prop := 0 < l.length ∧ (∀ i, i < l.length → 1 ≤ i → 1 ≤ l.getD i 0) ∧ (l.length = 1 ∨ l.getD (l.length - 1) 0 ≠ 1)
instance (l : List Int) : Decidable (awi l) := by unfold awi; infer_instance
end Wd
end Go.Proofs.YtpjgoogeokbaaaaGreatDoor
namespace Go.Proofs.YtpjgoogeokbaaaaGreatDoor
open Go.RowKit

set_option maxHeartbeats 16000000 in
theorem Rf (a b c d k kc kd u v : Int) (w : World) (h1 : k * c = kc) (h2 : k * d = kd) (h3 : a + kc = u) (h4 : b + kd = v)
  (b1 : -9223372036854775808 ≤ kc ∧ kc ≤ 9223372036854775807) (b2 : -9223372036854775808 ≤ kd ∧ kd ≤ 9223372036854775807) (b3 : -9223372036854775808 ≤ u ∧ u ≤ 9223372036854775807) (b4 : -9223372036854775808 ≤ v ∧ v ≤ 9223372036854775807) :
  Calls Tryz.prog 111 #[(Value.agg #[.int .i64 a, .int .i64 b]), (Value.agg #[.int .i64 c, .int .i64 d]), .int .i64 k] w fun e w' => e = .returned (Value.agg #[.int .i64 u, .int .i64 v]) ∧ Below w.heap.size w w' := by
 have e1 : wrap64 (k * c) = kc := by rw [h1]; exact IntWalk.wrap64_in _ b1
 have e2 : wrap64 (k * d) = kd := by rw [h2]; exact IntWalk.wrap64_in _ b2
 have e3 : wrap64 (a + kc) = u := by rw [h3]; exact IntWalk.wrap64_in _ b3
 have e4 : wrap64 (b + kd) = v := by rw [h4]; exact IntWalk.wrap64_in _ b4
 clear h1 h2 h3 h4 b1 b2 b3 b4
 go_enter Tryz.func111, Tryz.ntmps111
 go_wp2
 exact bodyPost_ret (v := (Value.agg #[.int .i64 u, .int .i64 v])) (by simp [results, Tryz.results111, go_sem]) rfl
  ⟨rfl, je (je (je (Below.refl _ _) _) _) _⟩

end Go.Proofs.YtpjgoogeokbaaaaGreatDoor
namespace Go.Proofs.YtpjgoogeokbaaaaGreatDoor
open Go.RowKit

theorem aqd (n d : Int) (hd : 0 < d) : (n.tmod d < 0 → n.tdiv d - 1 = n / d) ∧ (¬ n.tmod d < 0 → n.tdiv d = n / d) := by
 have h1 := Int.tmod_add_mul_tdiv n d
 have h2 := Int.tmod_lt_of_pos n hd
 have h3 := Int.lt_tmod_of_pos n hd
 generalize n.tmod d = r at *
 generalize n.tdiv d = t at *
 constructor
 ·
  intro h
  exact ((Int.ediv_emod_unique hd (r := r + d) (q := t - 1)).2 ⟨by rw [Int.mul_sub]; omega, by omega, by omega⟩).1.symm
 ·
  intro h
  exact ((Int.ediv_emod_unique hd (r := r) (q := t)).2 ⟨by omega, by omega, by omega⟩).1.symm
theorem tdiv_le (n d : Int) : (n.tdiv d).natAbs ≤ n.natAbs := by rw [Int.natAbs_tdiv]; exact Nat.div_le_self _ _
set_option maxHeartbeats 16000000 in
theorem Ou (n d : Int) (w : World) (b1 : -9223372036854775808 < n) (b2 : n ≤ 9223372036854775807) (hd : 0 < d) (b4 : d ≤ 9223372036854775807) :
  Calls Tryz.prog 55 #[.int .i64 n, .int .i64 d] w fun e w' => e = .returned (.int .i64 (n / d)) ∧ w' = w := by
 have hm := aqd n d hd
 have hq := tdiv_le n d
 have hz : (d == 0) = false := beq_eq_false_iff_ne.2 om
 have hz' : ¬ d = 0 := by omega
 obtain ⟨t, ht⟩ : ∃ t, t = n.tdiv d := ⟨_, rfl⟩
 obtain ⟨r, hr⟩ : ∃ r, r = n.tmod d := ⟨_, rfl⟩
 obtain ⟨q, hqq⟩ : ∃ q, q = n / d := ⟨_, rfl⟩
 rw [← ht, ← hr, ← hqq] at hm
 rw [← ht] at hq
 rw [← hqq]
 have e1 : IntKind.i64.wrap t = t := IntWalk.i64_in _ om
 have e2 : wrap64 t = t := IntWalk.wrap64_in _ om
 have hr2 := Int.tmod_lt_of_pos n hd
 have hr3 := Int.lt_tmod_of_pos n hd
 rw [← hr] at hr2 hr3
 have e3 : IntKind.i64.wrap r = r := IntWalk.i64_in _ om
 have e4 : wrap64 r = r := IntWalk.wrap64_in _ om
 have e5 := ht.symm
 have e6 := hr.symm
 by_cases h : r < 0
 ·
  have d1 : decide (r < 0) = true := decide_eq_true h
  have e7 : wrap64 (t - 1) = q := by rw [← hm.1 h]; exact IntWalk.wrap64_in _ om
  have e8 : IntKind.i64.wrap (t - 1) = q := by rw [← hm.1 h]; exact IntWalk.i64_in _ om
  clear hm hq ht hr hqq hr2 hr3 h b1 b2 hd b4
  go_enter Tryz.func55, Tryz.ntmps55
  go_wp2
  go_ret
  exact ⟨rfl, rfl⟩
 ·
  have d1 : decide (r < 0) = false := decide_eq_false h
  have e7 : t = q := hm.2 h
  subst e7
  clear hm hq ht hr hqq hr2 hr3 h b1 b2 hd b4
  go_enter Tryz.func55, Tryz.ntmps55
  go_wp2
  go_ret
  exact ⟨rfl, rfl⟩
def Ut (n d : Int) : Int := if Wd.nu n d then n / d else 0
set_option maxHeartbeats 16000000 in
theorem afc (n d : Int) (w : World) (hT : rz w) :
  Calls Tryz.prog 14 #[.agg #[.int .i64 n, .int .i64 d]] w fun e w' => e = .returned (.tuple #[.int .i64 (Ut n d), .int .i64 (Cz n d)]) ∧ Below w.heap.size w w' := by
 have HV := hide (Ah n d)
 have HT := hide hT
 unfold Ut
 by_cases ok : Wd.nu n d
 ·
  have hv : Cz n d = 0 := if_pos ok
  rw [if_pos ok]
  rw [hv] at HV ⊢
  have HF := hide (fun W => Ou n d W (by have := ok.2.2.1; omega) (by have := ok.2.2.2.1; omega) (by have := ok.1; omega) (by have := ok.2.1; omega))
  obtain ⟨q, hq⟩ : ∃ q, q = n / d := ⟨_, rfl⟩
  rw [← hq] at HF ⊢
  clear ok hv hT hq
  go_enter Tryz.func14, Tryz.ntmps14
  go_wp2_with fail
  have nb := heap_alloc_new w (.cells #[.int .i64 n, .int .i64 d] 23)
  have hw0 : Below w.heap.size w (w.alloc (.cells #[.int .i64 n, .int .i64 d] 23)) := je (Below.refl _ _) _
  generalize w.alloc (.cells #[.int .i64 n, .int .i64 d] 23) = W0 at *
  refine ((aa HV) _ ((aa HT).below hw0)).mono ?_
  rintro e W1 ⟨rfl, hb⟩
  have nb1 := (hb.block _ (lt_of_block nb)).trans nb
  have k0 : W1.cell? ⟨w.heap.size, 0, none⟩ = some (.int .i64 n) := ag nb1 0
  have k1 : W1.cell? ⟨w.heap.size, 1, none⟩ = some (.int .i64 d) := ag nb1 1
  have gp := au hw0 hb
  clear nb nb1 hb
  go_wp2_with fail
  refine ((aa HF) _).mono ?_
  rintro e W2 ⟨rfl, rfl⟩
  go_wp2_with fail
  exact bodyPost_ret (v := .tuple #[.int .i64 q, .int .i64 0]) (by simp [results, Tryz.results14, go_sem]) rfl ⟨rfl, gp⟩
 ·
  have hv : Cz n d = 1 := if_neg ok
  rw [if_neg ok]
  rw [hv] at HV ⊢
  clear ok hv hT
  go_enter Tryz.func14, Tryz.ntmps14
  go_wp2_with fail
  have hw0 : Below w.heap.size w (w.alloc (.cells #[.int .i64 n, .int .i64 d] 23)) := je (Below.refl _ _) _
  refine ((aa HV) _ ((aa HT).below hw0)).mono ?_
  rintro e W1 ⟨rfl, hb⟩
  have gp := au hw0 hb
  go_wp2_with fail
  exact bodyPost_ret (v := .tuple #[.int .i64 0, .int .i64 1]) (by simp [results, Tryz.results14, go_sem]) rfl ⟨rfl, gp⟩

end Go.Proofs.YtpjgoogeokbaaaaGreatDoor
namespace Go.Proofs.YtpjgoogeokbaaaaGreatDoor
open Go.RowKit

def OpC (w : World) (F : Nat) (x y : Rat) (o : Int) : Prop := ∀ (s1 : Int) (bz : Bool) (A1 : Option Addr) (c1 : Nat) (l1 : List Nat) (s2 : Int) (cu : Bool) (A2 : Option Addr) (c2 : Nat) (l2 : List Nat) (s3 : Int) (ze : Bool) (A3 : Option Addr) (c3 : Nat) (l3 : List Nat) (s4 : Int) (yc : Bool) (A4 : Option Addr) (c4 : Nat) (l4 : List Nat) (W : World), Below w.heap.size w W → dz W s1 bz A1 c1 l1 x.num → dz W s2 cu A2 c2 l2 (x.den : Int) → dz W s3 ze A3 c3 l3 y.num → dz W s4 yc A4 c4 l4 (y.den : Int) → Calls Tryz.prog F #[(Value.agg #[.int .i64 s1, .bool bz, .slice A1 l1.length c1, .int .i64 s2, .bool cu, .slice A2 l2.length c2]), (Value.agg #[.int .i64 s3, .bool ze, .slice A3 l3.length c3, .int .i64 s4, .bool yc, .slice A4 l4.length c4])] W fun e w' => e = .returned (.int .i64 o) ∧ Below W.heap.size W w'
set_option maxHeartbeats 16000000 in
theorem atn (s1 : Int) (bz : Bool) (A1 : Option Addr) (c1 : Nat) (l1 : List Nat) (s2 : Int) (cu : Bool) (A2 : Option Addr) (c2 : Nat) (l2 : List Nat) (s3 : Int) (ze : Bool) (A3 : Option Addr) (c3 : Nat) (l3 : List Nat) (s4 : Int) (yc : Bool) (A4 : Option Addr) (c4 : Nat) (l4 : List Nat) (z1 z2 z3 z4 m1 m2 : Int) (w : World) (f1 : dz w s1 bz A1 c1 l1 z1) (f2 : dz w s2 cu A2 c2 l2 z2) (f3 : dz w s3 ze A3 c3 l3 z3) (f4 : dz w s4 yc A4 c4 l4 z4) (g1 : Ir w 112 z1 z4 m1) (g2 : Ir w 112 z3 z2 m2) :
  Calls Tryz.prog 62 #[(Value.agg #[.int .i64 s1, .bool bz, .slice A1 l1.length c1, .int .i64 s2, .bool cu, .slice A2 l2.length c2]), (Value.agg #[.int .i64 s3, .bool ze, .slice A3 l3.length c3, .int .i64 s4, .bool yc, .slice A4 l4.length c4])] w fun e w' => e = .returned (.int .i64 (gm (m1 - m2))) ∧ Below w.heap.size w w' := by
 have H1 := hide f1
 have H2 := hide f2
 have H3 := hide f3
 have H4 := hide f4
 have Fu := hide g1
 have HG2 := hide g2
 obtain ⟨o, ho⟩ : ∃ o, o = gm (m1 - m2) := ⟨_, rfl⟩
 have HCM := hide (fun (s5 : Int) (si : Bool) (A5 : Option Addr) (c5 : Nat) (l5 : List Nat) (s6 : Int) (xg : Bool) (A6 : Option Addr) (c6 : Nat) (l6 : List Nat) (W : World) (f5 : dz W s5 si A5 c5 l5 m1) (f6 : dz W s6 xg A6 c6 l6 m2) => (show Calls Tryz.prog 113 #[(Value.agg #[.int .i64 s5, .bool si, .slice A5 l5.length c5]), (Value.agg #[.int .i64 s6, .bool xg, .slice A6 l6.length c6])] W fun e w' => e = .returned (.int .i64 o) ∧ Below W.heap.size W w' by rw [ho]; exact azt s5 si A5 c5 l5 m1 s6 xg A6 c6 l6 m2 W f5 f6))
 rw [← ho]
 clear f1 f2 f3 f4 g1 g2 ho
 go_enter Tryz.func62, Tryz.ntmps62
 go_wp2_with fail
 obtain ⟨El, Ej, hsz, hw0⟩ := jm w (.cells #[.int .i64 s1, .bool bz, .slice A1 l1.length c1, .int .i64 s2, .bool cu, .slice A2 l2.length c2] 63) (.cells #[.int .i64 s3, .bool ze, .slice A3 l3.length c3, .int .i64 s4, .bool yc, .slice A4 l4.length c4] 63)
 generalize ((w.alloc (.cells #[.int .i64 s1, .bool bz, .slice A1 l1.length c1, .int .i64 s2, .bool cu, .slice A2 l2.length c2] 63)).alloc (.cells #[.int .i64 s3, .bool ze, .slice A3 l3.length c3, .int .i64 s4, .bool yc, .slice A4 l4.length c4] 63)) = W0 at *
 have jl : W0.cell? ⟨w.heap.size, 0, none⟩ = some (.int .i64 s1) := ag El 0
 have jk : W0.cell? ⟨w.heap.size, 1, none⟩ = some (.bool bz) := ag El 1
 have jy : W0.cell? ⟨w.heap.size, 2, none⟩ = some (.slice A1 l1.length c1) := ag El 2
 have ky : W0.cell? ⟨w.heap.size, 3, none⟩ = some (.int .i64 s2) := ag El 3
 have Ag : W0.cell? ⟨w.heap.size, 4, none⟩ = some (.bool cu) := ag El 4
 have Af : W0.cell? ⟨w.heap.size, 5, none⟩ = some (.slice A2 l2.length c2) := ag El 5
 have jq : W0.cell? ⟨w.heap.size + 1, 0, none⟩ = some (.int .i64 s3) := ag Ej 0
 have jo : W0.cell? ⟨w.heap.size + 1, 1, none⟩ = some (.bool ze) := ag Ej 1
 have lh : W0.cell? ⟨w.heap.size + 1, 2, none⟩ = some (.slice A3 l3.length c3) := ag Ej 2
 have lv : W0.cell? ⟨w.heap.size + 1, 3, none⟩ = some (.int .i64 s4) := ag Ej 3
 have Dw : W0.cell? ⟨w.heap.size + 1, 4, none⟩ = some (.bool yc) := ag Ej 4
 have Dv : W0.cell? ⟨w.heap.size + 1, 5, none⟩ = some (.slice A4 l4.length c4) := ag Ej 5
 have q0 : w.heap.size < W0.heap.size := by omega
 have q1 : w.heap.size + 1 < W0.heap.size := by omega
 clear El Ej hsz
 replace H1 := hide ((aa H1).below hw0)
 replace H2 := hide ((aa H2).below hw0)
 replace H3 := hide ((aa H3).below hw0)
 replace H4 := hide ((aa H4).below hw0)
 have KEEP := hide (show ∀ X, Below W0.heap.size W0 X → X.cell? ⟨w.heap.size, 0, none⟩ = some (.int .i64 s1) ∧ X.cell? ⟨w.heap.size, 1, none⟩ = some (.bool bz) ∧ X.cell? ⟨w.heap.size, 2, none⟩ = some (.slice A1 l1.length c1) ∧ X.cell? ⟨w.heap.size, 3, none⟩ = some (.int .i64 s2) ∧ X.cell? ⟨w.heap.size, 4, none⟩ = some (.bool cu) ∧ X.cell? ⟨w.heap.size, 5, none⟩ = some (.slice A2 l2.length c2) ∧ X.cell? ⟨w.heap.size + 1, 0, none⟩ = some (.int .i64 s3) ∧ X.cell? ⟨w.heap.size + 1, 1, none⟩ = some (.bool ze) ∧ X.cell? ⟨w.heap.size + 1, 2, none⟩ = some (.slice A3 l3.length c3) ∧ X.cell? ⟨w.heap.size + 1, 3, none⟩ = some (.int .i64 s4) ∧ X.cell? ⟨w.heap.size + 1, 4, none⟩ = some (.bool yc) ∧ X.cell? ⟨w.heap.size + 1, 5, none⟩ = some (.slice A4 l4.length c4) from fun X hX => ⟨ai hX q0 jl, ai hX q0 jk, ai hX q0 jy, ai hX q0 ky, ai hX q0 Ag, ai hX q0 Af, ai hX q1 jq, ai hX q1 jo, ai hX q1 lh, ai hX q1 lv, ai hX q1 Dw, ai hX q1 Dv⟩)
 go_region_held3 (fun w' => w'.cell? ⟨w.heap.size, 0, none⟩ = some (.int .i64 s1) ∧ w'.cell? ⟨w.heap.size, 1, none⟩ = some (.bool bz) ∧ w'.cell? ⟨w.heap.size, 2, none⟩ = some (.slice A1 l1.length c1) ∧ w'.cell? ⟨w.heap.size, 3, none⟩ = some (.int .i64 s2) ∧ w'.cell? ⟨w.heap.size, 4, none⟩ = some (.bool cu) ∧ w'.cell? ⟨w.heap.size, 5, none⟩ = some (.slice A2 l2.length c2) ∧ w'.cell? ⟨w.heap.size + 1, 0, none⟩ = some (.int .i64 s3) ∧ w'.cell? ⟨w.heap.size + 1, 1, none⟩ = some (.bool ze) ∧ w'.cell? ⟨w.heap.size + 1, 2, none⟩ = some (.slice A3 l3.length c3) ∧ w'.cell? ⟨w.heap.size + 1, 3, none⟩ = some (.int .i64 s4) ∧ w'.cell? ⟨w.heap.size + 1, 4, none⟩ = some (.bool yc) ∧ w'.cell? ⟨w.heap.size + 1, 5, none⟩ = some (.slice A4 l4.length c4)) (exact (aa KEEP) _ bel) (first | (go_at_call_of 112 (Value.agg #[.int .i64 s1, .bool bz, .slice A1 l1.length c1]); refine ((aa Fu) s1 bz A1 c1 l1 s4 yc A4 c4 l4 _ (au hw0 bel) (dz.below (aa H1) bel) (dz.below (aa H4) bel)).mono ?_; rintro e w' ⟨s5, si, A5, c5, l5, rfl, kz, hb5⟩; have hbw := ay (w := W0) bel hb5; have hsw := hbw.size; obtain ⟨hc, hfz⟩ := az hbw) | (go_at_call_of 112 (Value.agg #[.int .i64 s3, .bool ze, .slice A3 l3.length c3]); refine ((aa HG2) s3 ze A3 c3 l3 s2 cu A2 c2 l2 _ (au hw0 bel) (dz.below (aa H3) bel) (dz.below (aa H2) bel)).mono ?_; rintro e w' ⟨s6, xg, A6, c6, l6, rfl, og, hb6⟩; have kz := dz.below (dz.below kz bel) hb6; have hbw := ay (w := W0) bel hb6; have hsw := hbw.size; obtain ⟨hc, hfz⟩ := az hbw) | (go_at_call_of 113 (Value.agg #[.int .i64 s5, .bool si, .slice A5 l5.length c5]); refine ((aa HCM) s5 si A5 c5 l5 s6 xg A6 c6 l6 _ (dz.below kz bel) (dz.below og bel)).mono ?_; rintro e w' ⟨rfl, yf⟩; have hbw := ay (w := W0) bel yf; have hsw := hbw.size; obtain ⟨hc, hfz⟩ := az hbw))
 all_goals
  have gp : Below w.heap.size w w' := au hw0 hbw
  go_wp2_with fail
  exact bodyPost_ret (v := .int .i64 o) (by simp [results, Tryz.results62, go_sem]) rfl ⟨rfl, gp⟩
theorem Vm (w : World) {K : Nat} (x y : Rat) (hx : xy K x) (hy : xy K y) (hK : K ≤ lim) : OpC w 62 x y (gm (x.num * y.den - y.num * x.den)) :=
 fun s1 bz A1 c1 l1 s2 cu A2 c2 l2 s3 ze A3 c3 l3 s4 yc A4 c4 l4 W hW f1 f2 f3 f4 => atn s1 bz A1 c1 l1 s2 cu A2 c2 l2 s3 ze A3 c3 l3 s4 yc A4 c4 l4 x.num (x.den : Int) y.num (y.den : Int) _ _ W f1 f2 f3 f4 (Ue hx.1 hy.2 hK rfl) (Ue hy.1 hx.2 hK rfl)

end Go.Proofs.YtpjgoogeokbaaaaGreatDoor
namespace Go.Proofs.YtpjgoogeokbaaaaGreatDoor
open Go.RowKit

theorem Fb {n d : Int} (h : Wd.nu n d) : xy 1 (Wd.qR n d) := by
 obtain ⟨e1, e2⟩ := Wd.Cf h
 obtain ⟨h1, h2, h3, h4, _⟩ := h
 have B : (1000000000000 : Nat) < dm := by rw [gu]; omega
 exact ⟨by rw [e1]; exact Wd.Sz.of_le om wz (Nat.le_refl _), by rw [e2]; exact Wd.Sz.of_le om wz (Nat.le_refl _)⟩
theorem apd : 1 + 1 + 1 ≤ lim := by unfold lim; omega
end Go.Proofs.YtpjgoogeokbaaaaGreatDoor
namespace Go.Proofs.YtpjgoogeokbaaaaGreatDoor
open Go.RowKit

theorem Ea {W : World} {b : Nat} {a0 a1 u0 u1 : Value} {T : TypeId} (h : W.heap[b]? = some (.cells #[a0, a1] T (0, 0))) : ((W.setCell ⟨b, 0, none⟩ u0).setCell ⟨b, 1, none⟩ u1).heap[b]? = some (.cells #[u0, u1] T (0, 0)) := by
 simp [World.setCell, Array.getElem?_modify, h]
structure NbW (w wr : World) (b0 b1 l0 l1 : Int) : Prop where
 below : Below w.heap.size w wr
 x : wr.heap[w.heap.size]? = some (.cells #[.int .i64 22, .int .i64 7] 23 (0, 0))
 lo : wr.heap[w.heap.size + 1]? = some (.cells #[.int .i64 0, .int .i64 0] 23 (0, 0))
 hi : wr.heap[w.heap.size + 2]? = some (.cells #[.int .i64 0, .int .i64 0] 23 (0, 0))
 Ga : wr.heap[w.heap.size + 3]? = some (.cells #[.int .i64 b0, .int .i64 b1] 23 (0, 0))
 last : wr.heap[w.heap.size + 4]? = some (.cells #[.int .i64 l0, .int .i64 l1] 23 (0, 0))
theorem NbW.step {w wr w' : World} {b0 b1 l0 l1 : Int} (h : NbW w wr b0 b1 l0 l1) (hb : Below wr.heap.size wr w') : NbW w w' b0 b1 l0 l1 :=
 ⟨au h.below hb, (hb.block _ (lt_of_block h.x)).trans h.x, (hb.block _ (lt_of_block h.lo)).trans h.lo, (hb.block _ (lt_of_block h.hi)).trans h.hi, (hb.block _ (lt_of_block h.Ga)).trans h.Ga, (hb.block _ (lt_of_block h.last)).trans h.last⟩
theorem NbW.set {w wr : World} {b0 b1 l0 l1 : Int} (h : NbW w wr b0 b1 l0 l1) (u0 u1 v0 v1 : Int) :
  NbW w ((((wr.setCell ⟨w.heap.size + 3, 0, none⟩ (.int .i64 u0)).setCell ⟨w.heap.size + 3, 1, none⟩ (.int .i64 u1)).setCell ⟨w.heap.size + 4, 0, none⟩ (.int .i64 v0)).setCell ⟨w.heap.size + 4, 1, none⟩ (.int .i64 v1)) u0 u1 v0 v1 := by
 have g1 := fq wr (w.heap.size + 3) (.int .i64 u0) (.int .i64 u1)
 have g2 := fq ((wr.setCell ⟨w.heap.size + 3, 0, none⟩ (.int .i64 u0)).setCell ⟨w.heap.size + 3, 1, none⟩ (.int .i64 u1)) (w.heap.size + 4) (.int .i64 v0) (.int .i64 v1)
 have s1 := g1.size
 have old : ∀ k, k < w.heap.size + 3 → ((((wr.setCell ⟨w.heap.size + 3, 0, none⟩ (.int .i64 u0)).setCell ⟨w.heap.size + 3, 1, none⟩ (.int .i64 u1)).setCell ⟨w.heap.size + 4, 0, none⟩ (.int .i64 v0)).setCell ⟨w.heap.size + 4, 1, none⟩ (.int .i64 v1)).heap[k]? = wr.heap[k]? := fun k hk => by
  have hl := lt_of_block h.last
  exact (g2.block k om (fun e => by injection e with e; omega)).trans (g1.block k om (fun e => by injection e with e; omega))
 have hl := lt_of_block h.last
 have e1 := Ea (u0 := .int .i64 u0) (u1 := .int .i64 u1) h.Ga
 refine ⟨(h.below.grown g1 h.below.size (fun k hk => by injection hk with hk; omega)).grown g2 (by have := h.below.size; omega) (fun k hk => by injection hk with hk; omega), (old _ om).trans h.x, (old _ om).trans h.lo, (old _ om).trans h.hi, ?_, ?_⟩
 ·
  exact (g2.block _ (lt_of_block e1) (fun e => by injection e with e; omega)).trans e1
 ·
  exact Ea ((g1.block _ hl (fun e => by injection e with e; omega)).trans h.last)
theorem aze (w : World) (n : Nat) : NbW w ((((((w.alloc (.cells #[.int .i64 22, .int .i64 7] 23)).alloc (.cells #[.int .i64 0, .int .i64 0] 23)).alloc (.cells #[.int .i64 0, .int .i64 0] 23)).alloc (.cells #[.int .i64 0, .int .i64 1] 23)).alloc (.cells #[.int .i64 1, .int .i64 0] 23)).drewN n) 0 1 1 0 := by
 obtain ⟨h1, h2, h3, h4, h5⟩ := ll w (.cells #[.int .i64 22, .int .i64 7] 23) (.cells #[.int .i64 0, .int .i64 0] 23) (.cells #[.int .i64 0, .int .i64 0] 23)
 obtain ⟨g1, g2, g3, g4⟩ := jm (((w.alloc (.cells #[.int .i64 22, .int .i64 7] 23)).alloc (.cells #[.int .i64 0, .int .i64 0] 23)).alloc (.cells #[.int .i64 0, .int .i64 0] 23)) (.cells #[.int .i64 0, .int .i64 1] 23) (.cells #[.int .i64 1, .int .i64 0] 23)
 have up := g4.block
 rw [h4] at g1 g2 up
 exact ⟨(au h5 g4).grown (Qc (Dk _ none) n) (by have := (au h5 g4).size; omega) (fun k hk => by cases hk), (up _ om).trans h1, (up _ om).trans h2, (up _ om).trans h3, g1, g2⟩
theorem Wv {W w' : World} {o : Obj} (hb : Below (W.alloc o).heap.size (W.alloc o) w') : w'.heap[W.heap.size]? = some o := (hb.block _ (by simp)).trans (heap_alloc_new W o)
theorem aal {W w' : World} {o : Obj} (hb : Below (W.alloc o).drew.heap.size (W.alloc o).drew w') : w'.heap[W.heap.size]? = some o := (hb.block _ (show W.heap.size < (W.alloc o).heap.size by simp)).trans (heap_alloc_new W o)
set_option maxHeartbeats 16000000 in
theorem azg (w : World) :
  Calls Tryz.prog 60 #[(Value.agg #[.int .i64 22, .int .i64 7]), .int .i64 5] w fun e w' => e = .returned (.tuple #[(Value.agg #[.int .i64 3, .int .i64 1]), (Value.agg #[.int .i64 16, .int .i64 5])]) ∧ Below w.heap.size w w' := by
 have HF1 := hide (fun W => Ou 22 7 W om om om om)
 have HF2 := hide (fun W => Ou 7 1 W om om om om)
 rw [show (22 : Int) / 7 = 3 by decide] at HF1
 rw [show (7 : Int) / 1 = 7 by decide] at HF2
 have HM1 := hide (fun W => Rf 0 1 1 0 3 3 0 3 1 W rfl rfl rfl rfl om om om om)
 have HM2 := hide (fun W => Rf 1 0 3 1 7 21 7 22 7 W rfl rfl rfl rfl om om om om)
 have HM3 := hide (fun W => Rf 1 0 3 1 5 15 5 16 5 W rfl rfl rfl rfl om om om om)
 have Gf := hide (fun W => Ex 16 5 W om om om om)
 have Pf := hide (fun W => Ex 22 7 W om om om om)
 have o1 : Wd.nu 16 5 := by decide
 have o2 : Wd.nu 22 7 := by decide
 obtain ⟨e1, e2⟩ := Wd.Cf o1
 obtain ⟨e3, e4⟩ := Wd.Cf o2
 have hcc := Vm w (Wd.qR 16 5) (Wd.qR 22 7) (Fb o1) (Fb o2) (by unfold lim; omega)
 unfold OpC at hcc
 rw [e1, e2, e3, e4, show gm (16 * 7 - 22 * 5) = 1 by decide] at hcc
 have HCC := hide hcc
 clear hcc e1 e2 e3 e4 o1 o2
 go_enter Tryz.func60, Tryz.ntmps60
 go_wp2_with fail
 go_quiet (fail)
 go_wp2_with fail
 go_loopw [8, 9] (fun nv dv wr => (nv = .int .i64 22 ∧ dv = .int .i64 7 ∧ NbW w wr 0 1 1 0) ∨ (nv = .int .i64 7 ∧ dv = .int .i64 1 ∧ NbW w wr 1 0 3 1)) (fun _ dv _ => (intOf dv).toNat)
 case atStart => exact .inl ⟨rfl, rfl, aze w _⟩
 case round =>
  rcases hrel with ⟨rfl, rfl, hw⟩ | ⟨rfl, rfl, hw⟩
  ·
   have b0 : wr.cell? ⟨w.heap.size + 1 + 1 + 1, 0, none⟩ = some (.int .i64 0) := ag hw.Ga 0
   have b1 : wr.cell? ⟨w.heap.size + 1 + 1 + 1, 1, none⟩ = some (.int .i64 1) := ag hw.Ga 1
   have l0 : wr.cell? ⟨w.heap.size + 1 + 1 + 1 + 1, 0, none⟩ = some (.int .i64 1) := ag hw.last 0
   have l1 : wr.cell? ⟨w.heap.size + 1 + 1 + 1 + 1, 1, none⟩ = some (.int .i64 0) := ag hw.last 1
   have HW := hide hw
   clear hw
   go_wp2_with fail
   refine ((aa HF1) _).mono ?_
   rintro e w1 ⟨rfl, rfl⟩
   go_wp2_with fail
   refine ((aa HM1) _).mono ?_
   rintro e w2 ⟨rfl, hb⟩
   have hw2 := ((aa HW).step hb).step (je (Below.refl _ _) (.cells #[.int .i64 3, .int .i64 1] 23))
   have hn := heap_alloc_new w2 (.cells #[.int .i64 3, .int .i64 1] 23)
   have HWo := HW
   have hb0 := hb
   clear b0 b1 l0 l1 hb HW
   have c0 : (w2.alloc (.cells #[.int .i64 3, .int .i64 1] 23)).cell? ⟨w.heap.size + 1 + 1 + 1 + 1, 0, none⟩ = some (.int .i64 1) := ag hw2.last 0
   have c1 : (w2.alloc (.cells #[.int .i64 3, .int .i64 1] 23)).cell? ⟨w.heap.size + 1 + 1 + 1 + 1, 1, none⟩ = some (.int .i64 0) := ag hw2.last 1
   have c2 : (w2.alloc (.cells #[.int .i64 3, .int .i64 1] 23)).cell? ⟨w.heap.size + 1 + 1 + 1, 0, none⟩ = some (.int .i64 0) := ag hw2.Ga 0
   have c3 : (w2.alloc (.cells #[.int .i64 3, .int .i64 1] 23)).cell? ⟨w.heap.size + 1 + 1 + 1, 1, none⟩ = some (.int .i64 1) := ag hw2.Ga 1
   have d0 : (w2.alloc (.cells #[.int .i64 3, .int .i64 1] 23)).cell? ⟨w2.heap.size, 0, none⟩ = some (.int .i64 3) := ag hn 0
   have d1 : (w2.alloc (.cells #[.int .i64 3, .int .i64 1] 23)).cell? ⟨w2.heap.size, 1, none⟩ = some (.int .i64 1) := ag hn 1
   have f0 : (w2.alloc (.cells #[.int .i64 3, .int .i64 1] 23)).frozen? ⟨w.heap.size + 1 + 1 + 1 + 1, 0, none⟩ = false := ah hw2.last 0
   have f1 : (w2.alloc (.cells #[.int .i64 3, .int .i64 1] 23)).frozen? ⟨w.heap.size + 1 + 1 + 1 + 1, 1, none⟩ = false := ah hw2.last 1
   have f2 : (w2.alloc (.cells #[.int .i64 3, .int .i64 1] 23)).frozen? ⟨w.heap.size + 1 + 1 + 1, 0, none⟩ = false := ah hw2.Ga 0
   have f3 : (w2.alloc (.cells #[.int .i64 3, .int .i64 1] 23)).frozen? ⟨w.heap.size + 1 + 1 + 1, 1, none⟩ = false := ah hw2.Ga 1
   have HW2 := hide hw2
   have HN := hide hn
   have HN2 := hide (show w.heap.size + 1 + 1 + 1 + 1 < w2.heap.size from lt_of_block ((aa HWo).step hb0).last)
   clear hw2 hn
   go_upto_region 5 with fail
   generalize w2.alloc (.cells #[.int .i64 3, .int .i64 1] 23) = w3 at *
   obtain ⟨p, hp⟩ : ∃ p, p = w2.heap.size := ⟨_, rfl⟩
   rw [← hp] at d0 d1 ⊢
   have hpn : w.heap.size + 1 + 1 + 1 + 1 < p := by rw [hp]; exact aa HN2
   clear HN hp
   go_wp2_with fail
   go_region
   all_goals go_wp2_with fail
   go_roundw
   case rel => exact .inr ⟨by go_num, by go_num, ((aa HW2).step (Below.refl _ _).drew).set 1 0 3 1⟩
   case measure => simp [intOf]
  ·
   have b0 : wr.cell? ⟨w.heap.size + 1 + 1 + 1, 0, none⟩ = some (.int .i64 1) := ag hw.Ga 0
   have b1 : wr.cell? ⟨w.heap.size + 1 + 1 + 1, 1, none⟩ = some (.int .i64 0) := ag hw.Ga 1
   have l0 : wr.cell? ⟨w.heap.size + 1 + 1 + 1 + 1, 0, none⟩ = some (.int .i64 3) := ag hw.last 0
   have l1 : wr.cell? ⟨w.heap.size + 1 + 1 + 1 + 1, 1, none⟩ = some (.int .i64 1) := ag hw.last 1
   have HW := hide hw
   clear hw
   go_wp2_with fail
   refine ((aa HF2) _).mono ?_
   rintro e w1 ⟨rfl, rfl⟩
   go_wp2_with fail
   refine ((aa HM2) _).mono ?_
   rintro e w2 ⟨rfl, hb⟩
   have hw2 := ((aa HW).step hb).step (je (Below.refl _ _) (.cells #[.int .i64 22, .int .i64 7] 23))
   have hn := heap_alloc_new w2 (.cells #[.int .i64 22, .int .i64 7] 23)
   clear b0 b1 l0 l1 hb HW
   have d1 : (w2.alloc (.cells #[.int .i64 22, .int .i64 7] 23)).cell? ⟨w2.heap.size, 1, none⟩ = some (.int .i64 7) := ag hn 1
   have HW2 := hide hw2
   clear hw2 hn
   go_upto_region 5 with fail
   generalize w2.alloc (.cells #[.int .i64 22, .int .i64 7] 23) = w3 at *
   go_upto_region 8 with fail
   have c0 : w3.cell? ⟨w.heap.size + 1 + 1 + 1 + 1, 0, none⟩ = some (.int .i64 3) := ag (aa HW2).last 0
   have c1 : w3.cell? ⟨w.heap.size + 1 + 1 + 1 + 1, 1, none⟩ = some (.int .i64 1) := ag (aa HW2).last 1
   have c2 : w3.cell? ⟨w.heap.size + 1 + 1 + 1, 0, none⟩ = some (.int .i64 1) := ag (aa HW2).Ga 0
   have c3 : w3.cell? ⟨w.heap.size + 1 + 1 + 1, 1, none⟩ = some (.int .i64 0) := ag (aa HW2).Ga 1
   have q4 : w.heap.size + 1 + 1 + 1 + 1 < w3.heap.size := lt_of_block (aa HW2).last
   have q3 : w.heap.size + 1 + 1 + 1 < w3.heap.size := lt_of_block (aa HW2).Ga
   have KEEP := hide (show ∀ X, Below w3.heap.size w3 X → X.cell? ⟨w.heap.size + 1 + 1 + 1 + 1, 0, none⟩ = some (.int .i64 3) ∧ X.cell? ⟨w.heap.size + 1 + 1 + 1 + 1, 1, none⟩ = some (.int .i64 1) ∧ X.cell? ⟨w.heap.size + 1 + 1 + 1, 0, none⟩ = some (.int .i64 1) ∧ X.cell? ⟨w.heap.size + 1 + 1 + 1, 1, none⟩ = some (.int .i64 0) from fun X hB => ⟨ai hB q4 c0, ai hB q4 c1, ai hB q3 c2, ai hB q3 c3⟩)
   clear d1 q3 q4 c0 c1 c2 c3
   have ew : IntKind.i64.wrap 5 = 5 := by decide
   go_cut [12] (fun s12 wx => ∃ b12 : Nat, s12 = .pointer (some ⟨b12, 0, none⟩) ∧ wx.heap[b12]? = some (.cells #[.int .i64 16, .int .i64 5] 23 (0, 0)) ∧ Below w3.heap.size w3 wx ∧ w3.heap.size ≤ b12)
   case first =>
    go_region_held3 (fun w' => w'.cell? ⟨w.heap.size + 1 + 1 + 1 + 1, 0, none⟩ = some (.int .i64 3) ∧ w'.cell? ⟨w.heap.size + 1 + 1 + 1 + 1, 1, none⟩ = some (.int .i64 1) ∧ w'.cell? ⟨w.heap.size + 1 + 1 + 1, 0, none⟩ = some (.int .i64 1) ∧ w'.cell? ⟨w.heap.size + 1 + 1 + 1, 1, none⟩ = some (.int .i64 0)) (exact (aa KEEP) _ (by (repeat (first | with_reducible exact Below.refl _ _ | with_reducible assumption | with_reducible refine Below.drew ?_ | with_reducible refine je ?_ _ | (with_reducible refine Eg ?_ ?_ _ _; rotate_left; (first | omega | (simp <;> omega))))))) ((go_at_call 111; refine ((aa HM3) _).mono ?_; rintro e w' ⟨rfl, hb⟩; have hbw := ay (w := w3) bel hb; have hsw := hbw.size; (try (have un : w'.heap[w3.heap.size]? = some (.cells #[.int .i64 0, .int .i64 0] 23 (0, 0)) := (by first | exact Wv hb | exact aal hb); have un0 : w'.cell? ⟨w3.heap.size, 0, none⟩ = some (.int .i64 0) := ag un 0; have un1 : w'.cell? ⟨w3.heap.size, 1, none⟩ = some (.int .i64 0) := ag un 1; have un2 := ah un 0; have un3 := ah un 1))))
    all_goals
     go_wp2_with fail
     go_meet
     first
      | exact ⟨_, rfl, heap_alloc_new w' _, je hbw _, hsw⟩
      | exact ⟨_, rfl, Ea un, hbw.grown (fq _ _ _ _) hbw.size (fun k hk => by injection hk with hk; omega), Nat.le_refl _⟩
   case rest =>
    revert hcut
    generalize wc = W5
    intro hcut
    obtain ⟨b12, rfl, Om, hb5, ob⟩ := hcut
    have ol := lt_of_block (aa HW2).last
    have i1 : ¬ (b12 = w.heap.size + 1) := by omega
    have i2 : ¬ (w.heap.size + 1 = b12) := by omega
    have i3 : ¬ (b12 = w.heap.size + 1 + 1) := by omega
    have i4 : ¬ (w.heap.size + 1 + 1 = b12) := by omega
    clear ob ol
    have Pq := (aa HW2).step hb5
    have a0 : W5.cell? ⟨b12, 0, none⟩ = some (.int .i64 16) := ag Om 0
    have a1 : W5.cell? ⟨b12, 1, none⟩ = some (.int .i64 5) := ag Om 1
    have x0 : W5.cell? ⟨w.heap.size, 0, none⟩ = some (.int .i64 22) := ag Pq.x 0
    have x1 : W5.cell? ⟨w.heap.size, 1, none⟩ = some (.int .i64 7) := ag Pq.x 1
    have q12 := lt_of_block Om
    have qx := lt_of_block Pq.x
    have HW5 := hide Pq
    have Yj := hide Om
    clear KEEP HW2 hb5 Pq Om
    have KEEP := hide (show ∀ X, Below W5.heap.size W5 X → X.cell? ⟨b12, 0, none⟩ = some (.int .i64 16) ∧ X.cell? ⟨b12, 1, none⟩ = some (.int .i64 5) ∧ X.cell? ⟨w.heap.size, 0, none⟩ = some (.int .i64 22) ∧ X.cell? ⟨w.heap.size, 1, none⟩ = some (.int .i64 7) from fun X hB => ⟨ai hB q12 a0, ai hB q12 a1, ai hB qx x0, ai hB qx x1⟩)
    go_upto_region 9 with fail
    go_region_held3 (fun w' => w'.cell? ⟨b12, 0, none⟩ = some (.int .i64 16) ∧ w'.cell? ⟨b12, 1, none⟩ = some (.int .i64 5) ∧ w'.cell? ⟨w.heap.size, 0, none⟩ = some (.int .i64 22) ∧ w'.cell? ⟨w.heap.size, 1, none⟩ = some (.int .i64 7)) (exact (aa KEEP) _ bel) (first | (go_at_call_of 50 (Value.agg #[.int .i64 16, .int .i64 5]); refine ((aa Gf) _).mono ?_; rintro e w' ⟨s5, si, A5, c5, l5, s6, xg, A6, c6, l6, rfl, kz, og, hb5⟩; have hbw := ay (w := W5) bel hb5; have hsw := hbw.size; obtain ⟨hc, hfz⟩ := az hbw) | (go_at_call_of 50 (Value.agg #[.int .i64 22, .int .i64 7]); refine ((aa Pf) _).mono ?_; rintro e w' ⟨s7, Dc, A7, c7, l7, s8, Fg, A8, c8, l8, rfl, Au, wh, yf⟩; have kz := dz.below (dz.below kz bel) yf; have og := dz.below (dz.below og bel) yf; have hbw := ay (w := W5) bel yf; have hsw := hbw.size; obtain ⟨hc, hfz⟩ := az hbw) | (go_at_call_of 62 (Value.agg #[.int .i64 s5, .bool si, .slice A5 l5.length c5, .int .i64 s6, .bool xg, .slice A6 l6.length c6]); refine ((aa HCC) s5 si A5 c5 l5 s6 xg A6 c6 l6 s7 Dc A7 c7 l7 s8 Fg A8 c8 l8 _ (au (aa HW5).below bel) (dz.below kz bel) (dz.below og bel) (dz.below Au bel) (dz.below wh bel)).mono ?_; rintro e w' ⟨rfl, gp⟩; have hbw := ay (w := W5) bel gp; have hsw := hbw.size; obtain ⟨hc, hfz⟩ := az hbw))
    clear kz og Au wh hc hfz a0 a1 x0 x1 KEEP
    have Co := (aa HW5).step hbw
    have oz := (hbw.block _ (lt_of_block (aa Yj))).trans (aa Yj)
    have a0 : w'.cell? ⟨b12, 0, none⟩ = some (.int .i64 16) := ag oz 0
    have a1 : w'.cell? ⟨b12, 1, none⟩ = some (.int .i64 5) := ag oz 1
    have c0 : w'.cell? ⟨w.heap.size + 1 + 1 + 1 + 1, 0, none⟩ = some (.int .i64 3) := ag Co.last 0
    have c1 : w'.cell? ⟨w.heap.size + 1 + 1 + 1 + 1, 1, none⟩ = some (.int .i64 1) := ag Co.last 1
    have r0 : w'.cell? ⟨w.heap.size + 1, 0, none⟩ = some (.int .i64 0) := ag Co.lo 0
    have r1 : w'.cell? ⟨w.heap.size + 1, 1, none⟩ = some (.int .i64 0) := ag Co.lo 1
    have r2 : w'.cell? ⟨w.heap.size + 1 + 1, 0, none⟩ = some (.int .i64 0) := ag Co.hi 0
    have r3 : w'.cell? ⟨w.heap.size + 1 + 1, 1, none⟩ = some (.int .i64 0) := ag Co.hi 1
    have f0 : w'.frozen? ⟨w.heap.size + 1, 0, none⟩ = false := ah Co.lo 0
    have f1 : w'.frozen? ⟨w.heap.size + 1, 1, none⟩ = false := ah Co.lo 1
    have f2 : w'.frozen? ⟨w.heap.size + 1 + 1, 0, none⟩ = false := ah Co.hi 0
    have f3 : w'.frozen? ⟨w.heap.size + 1 + 1, 1, none⟩ = false := ah Co.hi 1
    have Qb := Co.below
    have hs : w.heap.size + 1 + 1 < w'.heap.size := lt_of_block Co.hi
    clear Co oz HW5 Yj
    go_wp2_with fail
    go_region
    all_goals go_wp2_with fail
    exact bodyPost_ret (v := .tuple #[(Value.agg #[.int .i64 3, .int .i64 1]), (Value.agg #[.int .i64 16, .int .i64 5])]) (by simp [results, Tryz.results60, go_sem, r0, r1, r2, r3, hs]) rfl
     ⟨rfl, ((Qb.grown (fq _ _ _ _) Qb.size (fun k hk => by injection hk with hk; omega)).grown (fq _ _ _ _) (Nat.le_trans Qb.size (fq w' (w.heap.size + 1) (.int .i64 3) (.int .i64 1)).size) (fun k hk => by injection hk with hk; omega)).drew⟩

end Go.Proofs.YtpjgoogeokbaaaaGreatDoor
namespace Go.Proofs.YtpjgoogeokbaaaaGreatDoor
open Go.RowKit

structure IQ (w : World) (Eu : Int) (zw : Bool) (Ct : Option Addr) (c1a : Nat) (Cn : List Nat) (Et : Int) (zu : Bool) (Cs : Option Addr) (Cr : Nat) (Cm : List Nat) (q : Rat) : Prop where
 n : dz w Eu zw Ct c1a Cn q.num
 d : dz w Et zu Cs Cr Cm (q.den : Int)
theorem IQ.below {w w' : World} {Eu : Int} {zw : Bool} {Ct : Option Addr} {c1a : Nat} {Cn : List Nat} {Et : Int} {zu : Bool} {Cs : Option Addr} {Cr : Nat} {Cm : List Nat} {q : Rat} (h : IQ w Eu zw Ct c1a Cn Et zu Cs Cr Cm q) (hb : Below w.heap.size w w') : IQ w' Eu zw Ct c1a Cn Et zu Cs Cr Cm q := ⟨h.n.below hb, h.d.below hb⟩
end Go.Proofs.YtpjgoogeokbaaaaGreatDoor
namespace Go.Proofs.YtpjgoogeokbaaaaGreatDoor
open Go.RowKit

def gi (l : List Int) (i : Nat) : Int := l.getD i 0
def Zs (w : World) (B : Nat) (A : Option Addr) (l : List Int) : Prop := 0 < l.length → ∃ b off, A = some ⟨b, off, none⟩ ∧ b < B ∧ ∀ j, j < l.length → w.cell? ⟨b, off + j, none⟩ = some (.int .i64 (gi l j))
theorem Zs.below {w w' : World} {A : Option Addr} {l : List Int} (h : Zs w w.heap.size A l) (hb : Below w.heap.size w w') : Zs w' w'.heap.size A l := fun hl => by
 obtain ⟨b, off, rfl, h1, h2⟩ := h hl
 exact ⟨b, off, rfl, Nat.lt_of_lt_of_le h1 hb.size, fun j hj => (hb.cell (p := ⟨b, off + j, none⟩) h1).trans (h2 j hj)⟩

end Go.Proofs.YtpjgoogeokbaaaaGreatDoor
namespace Go.Proofs.YtpjgoogeokbaaaaGreatDoor
open Go.RowKit

structure rq (w : World) (A : Option Addr) (cap : Nat) (l : List Nat) (n : Nat) : Prop where
 ws : Ws .u32 w w.heap.size A l
 uk : l.length ≤ cap
 cap2 : cap ≤ 9223372036854775807
 lt : ∀ x ∈ l, x < di
 norm : Wd.Norm l
 val : Wd.val di l = n

theorem rq.below {w w' : World} {A : Option Addr} {cap : Nat} {l : List Nat} {n : Nat} (h : rq w A cap l n) (hb : Below w.heap.size w w') : rq w' A cap l n :=
 ⟨(h.ws.below hb).more hb.size, h.uk, h.cap2, h.lt, h.norm, h.val⟩
theorem rq.len {w : World} {A : Option Addr} {cap : Nat} {l : List Nat} {n k : Nat} (h : rq w A cap l n) (hn : n < di ^ k) : l.length ≤ k :=
 Wd.Xl zx l h.norm k (by rw [h.val]; exact hn)
theorem rq.Qa (w : World) (cap : Nat) (hc : cap ≤ 9223372036854775807) : rq w none cap [] 0 := ⟨Ws.Qa, by simp, hc, by simp, .inl rfl, rfl⟩
theorem rq.Mk {w : World} {A : Option Addr} {cap : Nat} {l : List Nat} {n : Nat} (h : rq w A cap l n) : n < di ^ l.length := by
 rw [← h.val]; exact Wd.Cy l h.lt

def aqx (w : World) (n : Nat) (e : Ending) (w' : World) : Prop := ∃ A cap l, e = .returned (.slice A l.length cap) ∧ rq w' A cap l n ∧ Below w.heap.size w w'

theorem rq.Dt {w : World} {b cap : Nat} {T : TypeId} {zs : List Nat} {k : Nat} (hz : ZB .u32 w b T zs) (hlt : ∀ x ∈ zs, x < di) (ht : Wd.Ic zs (zs.take k)) (hk : k ≤ zs.length) (hc : zs.length ≤ cap) (hc2 : cap ≤ 9223372036854775807) :
  rq w (some ⟨b, 0, none⟩) cap (zs.take k) (Wd.val di zs) :=
 ⟨(hz.Fx _ hz.lt).Pn k, by simp; omega, hc2, fun x hx => hlt x (List.mem_of_mem_take hx), ht.norm, ht.val _⟩

set_option maxHeartbeats 400000 in
theorem Dl (A : Option Addr) (cap : Nat) (l : List Nat) (B : Nat) (w : World) (hr : Ws .u32 w B A l) (hcap : l.length ≤ cap) (hm : cap ≤ 9223372036854775807) :
  Calls Tryz.prog 142 #[.slice A l.length cap] w fun e w' => (∃ k, e = .returned (.slice A k cap) ∧ Wd.Ic l (l.take k) ∧ k ≤ l.length) ∧ w' = w := by
 go_enter Tryz.func142, Tryz.ntmps142
 go_wp2
 go_loop [0] (fun v => ∃ k : Nat, k ≤ l.length ∧ v = .slice A k cap ∧ ∀ i, k ≤ i → i < l.length → l.getD i 0 = 0) (fun v => slen v)
 case atStart => exact ⟨l.length, Nat.le_refl _, rfl, fun i h1 h2 => by omega⟩
 case round =>
  obtain ⟨k, hk, rfl, hz⟩ := hrel
  have HZ := Lib.hid hz
  clear hz
  by_cases h0 : k = 0
  ·
   subst h0
   go_wp2
   go_ret
   exact ⟨⟨0, rfl, ⟨0, Nat.zero_le _, rfl, HZ.out, .inl rfl⟩, Nat.zero_le _⟩, rfl⟩
  ·
   obtain ⟨b, off, rfl, hb, hc⟩ := hr om
   have hck := hc (k - 1) om
   clear hc
   go_wp2
   ·
    have ht : (((Wd.g l (k - 1) : Nat) : Int) == 0) = true := by assumption
    go_round
    case rel =>
     refine ⟨k - 1, by omega, rfl, fun i h1 h2 => ?_⟩
     by_cases hi : i = k - 1
     ·
      subst hi; have := beq_iff_eq.1 ht; rw [Wd.ry] at this; omega
     ·
      exact HZ.out i om h2
    case measure => simp [slen]; omega
   ·
    have ht : (((Wd.g l (k - 1) : Nat) : Int) == 0) = false := by assumption
    go_ret
    refine ⟨⟨k, rfl, ⟨k, hk, rfl, HZ.out, .inr ?_⟩, hk⟩, rfl⟩
    have := beq_eq_false_iff_ne.1 ht; rw [Wd.ry] at this; omega

theorem Nj {w w1 : World} (h : ∃ t, w1 = w.drewN t) (k : Nat) : ∃ t, w1.drewN k = w.drewN t := by
 obtain ⟨t, rfl⟩ := h
 exact ⟨t + k, by simp [World.drewN, Nat.add_assoc]⟩
theorem World.drewN_drewN (w : World) (a b : Nat) : (w.drewN a).drewN b = w.drewN (a + b) := by
 simp [World.drewN, Nat.add_assoc]
set_option maxHeartbeats 2000000 in
theorem Ij (Ax Ay : Option Addr) (cx cy : Nat) (xl yl : List Nat) (n m : Nat) (w : World) (hx : rq w Ax cx xl n) (hy : rq w Ay cy yl m) :
  Calls Tryz.prog 144 #[.slice Ax xl.length cx, .slice Ay yl.length cy] w fun e w' => e = .returned (.int .i64 (vw n m)) ∧ ∃ k, w' = w.drewN k := by
 have hx1 := hx.uk; have hx2 := hx.cap2; have hy1 := hy.uk; have hy2 := hy.cap2
 by_cases hl : xl.length = yl.length
 ·
  have hb : (((xl.length : Nat) : Int) != ((yl.length : Nat) : Int)) = false := by simp; omega
  go_enter Tryz.func144, Tryz.ntmps144
  go_wp2
  go_loopw [5] (fun iv wr => ∃ i : Int, -1 ≤ i ∧ i < xl.length ∧ iv = .int .i64 i ∧ Hid (∀ j : Nat, i < j → j < xl.length → xl.getD j 0 = yl.getD j 0) ∧ Hid (∃ t, wr = w.drewN t)) (fun iv _ => (intOf iv + 1).toNat)
  case atStart => exact ⟨(xl.length : Int) - 1, by omega, by omega, by go_num, fun j h1 h2 => by omega, ⟨0, rfl⟩⟩
  case round =>
   obtain ⟨i, hi1, hi2, rfl, hall, ht⟩ := hrel
   by_cases h0 : i < 0
   ·
    have hv : vw n m = 0 := by
     have : xl = yl := Wd.Mw xl yl hl (fun j hj => hall.out j om hj)
     rw [← hx.val, ← hy.val, this]
     unfold vw
     rw [if_neg om, if_neg om]
    have HV := Lib.hid hv
    clear hv hl
    go_wp2
    go_ret
    exact ⟨xh HV.out.symm, ht.out⟩
   ·
    obtain ⟨j, rfl⟩ := Int.eq_ofNat_of_zero_le (show 0 ≤ i by omega)
    have Un : j < xl.length := by omega
    have hjy : j < yl.length := by omega
    obtain ⟨bx, ox, rfl, hbx, hcx⟩ := hx.ws om
    obtain ⟨by', oy, rfl, hby, hcy⟩ := hy.ws om
    have hsame : ∀ p, wr.cell? p = w.cell? p := fun p => by obtain ⟨t, rfl⟩ := ht.out; rfl
    have Fs := (hsame _).trans (hcx j Un)
    have Oj := (hsame _).trans (hcy j hjy)
    clear hcx hcy hsame
    obtain ⟨xj, hxj⟩ : ∃ xj, xj = Wd.g xl j := ⟨_, rfl⟩
    obtain ⟨yj, hyj⟩ : ∃ yj, yj = Wd.g yl j := ⟨_, rfl⟩
    rw [← hxj] at Fs
    rw [← hyj] at Oj
    by_cases hlt : xj < yj
    ·
     have d1 : decide ((xj : Int) < (yj : Int)) = true := decide_eq_true om
     have d1' : decide (xj < yj) = true := decide_eq_true hlt
     have hv : vw n m = -1 := by
      rw [← hx.val, ← hy.val]
      unfold vw
      rw [if_pos (Wd.Ii xl yl hx.lt hl j Un (fun t h1 h2 => hall.out t om h2) (by show Wd.g xl j < Wd.g yl j; omega))]
     have HV := Lib.hid hv
     clear hv hxj hyj hl hlt
     go_wp2_with fail
     go_quiet (fail)
     go_wp2_with fail
     go_ret
     exact ⟨xh HV.out.symm, by first | exact Nj (Nj ht.out _) _ | exact Nj ht.out _⟩
    ·
     have d1 : decide ((xj : Int) < (yj : Int)) = false := decide_eq_false om
     have d1' : decide (xj < yj) = false := decide_eq_false hlt
     by_cases hgt : yj < xj
     ·
      have d2 : decide ((yj : Int) < (xj : Int)) = true := decide_eq_true om
      have d2' : decide (yj < xj) = true := decide_eq_true hgt
      have hv : vw n m = 1 := by
       rw [← hx.val, ← hy.val]
       unfold vw
       have := Wd.Ii yl xl hy.lt hl.symm j hjy (fun t h1 h2 => (hall.out t om om).symm) (by show Wd.g yl j < Wd.g xl j; omega)
       rw [if_neg om, if_pos this]
      have HV := Lib.hid hv
      clear hv hxj hyj hl hlt hgt
      go_wp2_with fail
      go_quiet (fail)
      go_wp2_with fail
      go_quiet (fail)
      go_wp2_with fail
      go_ret
      exact ⟨xh HV.out.symm, by first | exact Nj (Nj ht.out _) _ | exact Nj ht.out _⟩
     ·
      have d2 : decide ((yj : Int) < (xj : Int)) = false := decide_eq_false om
      have d2' : decide (yj < xj) = false := decide_eq_false hgt
      have hnext : ∀ t : Nat, ((j : Int) - 1 < t) → t < xl.length → xl.getD t 0 = yl.getD t 0 := fun t h1 h2 => by
       by_cases ht : t = j
       ·
        subst ht; exact hxj.symm.trans ((show xj = yj by omega).trans hyj)
       ·
        exact hall.out t om h2
      have HN := hide hnext
      clear hnext hxj hyj hl hlt hgt
      go_wp2_with fail
      go_quiet (fail)
      go_wp2_with fail
      go_quiet (fail)
      go_wp2_with fail
      go_roundw
      case rel => exact ⟨(j : Int) - 1, by omega, by omega, by go_num, HN, by first | exact Nj (Nj ht.out _) _ | exact Nj ht.out _⟩
      case measure => simp [intOf] <;> omega
 ·
  have hb : (((xl.length : Nat) : Int) != ((yl.length : Nat) : Int)) = true := by simp; omega
  have ho : vw n m = if xl.length < yl.length then -1 else 1 := by
   unfold vw
   rw [← hx.val, ← hy.val]
   by_cases h : xl.length < yl.length
   ·
    rw [if_pos h, if_pos (Wd.Ap zx xl yl hx.lt hy.norm h)]
   ·
    have := Wd.Ap zx yl xl hy.lt hx.norm om
    rw [if_neg h, if_neg om, if_pos this]
  have HO := Lib.hid ho
  clear ho
  go_enter Tryz.func144, Tryz.ntmps144
  go_wp2
  all_goals
   go_ret
   refine ⟨xh ?_, ⟨0, rfl⟩⟩
   rw [HO.out]
  ·
   rw [if_pos om]
  ·
   rw [if_neg om]
end Go.Proofs.YtpjgoogeokbaaaaGreatDoor
namespace Go.Proofs.YtpjgoogeokbaaaaGreatDoor
open Go.RowKit

end Go.Proofs.YtpjgoogeokbaaaaGreatDoor
namespace Go.Proofs.YtpjgoogeokbaaaaGreatDoor
open Go.RowKit

end Go.Proofs.YtpjgoogeokbaaaaGreatDoor
namespace Go.Proofs.YtpjgoogeokbaaaaGreatDoor
open Go.RowKit

set_option maxHeartbeats 16000000 in
theorem aml (Eu : Int) (zw : Bool) (Ct : Option Addr) (c1a : Nat) (Cn : List Nat) (Et : Int) (zu : Bool) (Cs : Option Addr) (Cr : Nat) (Cm : List Nat) (x : Rat) (n K : Nat) (w : World) (h : IQ w Eu zw Ct c1a Cn Et zu Cs Cr Cm x) (sx : xy K x) (hK : K * n + 1 ≤ lim) (hK2 : K ≤ lim) (hn : n ≤ 9223372036854775806) :
  Calls Tryz.prog 51 #[(Value.agg #[.int .i64 Eu, .bool zw, .slice Ct Cn.length c1a, .int .i64 Et, .bool zu, .slice Cs Cm.length Cr]), .int .i64 (n : Int)] w fun e w' => Gr w (x ^ n).num ((x ^ n).den : Int) e w' := by
 have HP3 := hide (fun W (h : dz W Eu zw Ct c1a Cn x.num) => ajh Eu zw Ct c1a Cn x.num n K W h sx.1 hK hK2 hn)
 have HP5 := hide (fun W (h : dz W Et zu Cs Cr Cm (x.den : Int)) => ajh Et zu Cs Cr Cm (x.den : Int) n K W h sx.2 hK hK2 hn)
 rw [show (x ^ n).num = x.num ^ n from rfl, show ((x ^ n).den : Int) = (x.den : Int) ^ n from Int.natCast_pow _ _]
 have HH := hide h
 have d0 : decide ((n : Int) < 0) = false := decide_eq_false om
 clear h sx hK hK2
 go_enter Tryz.func51, Tryz.ntmps51
 go_upto_region 1 with fail
 obtain ⟨n0, nr, hsz, hw0⟩ := jm w (.cells #[.int .i64 Eu, .bool zw, .slice Ct Cn.length c1a, .int .i64 Et, .bool zu, .slice Cs Cm.length Cr] 63) (.cells #[.int .i64 0, .bool false, .slice none 0 0, .int .i64 0, .bool false, .slice none 0 0] 63)
 generalize ((w.alloc (.cells #[.int .i64 Eu, .bool zw, .slice Ct Cn.length c1a, .int .i64 Et, .bool zu, .slice Cs Cm.length Cr] 63)).alloc (.cells #[.int .i64 0, .bool false, .slice none 0 0, .int .i64 0, .bool false, .slice none 0 0] 63)) = V at *
 have k0 : V.cell? ⟨w.heap.size, 0, none⟩ = some (.int .i64 Eu) := ag n0 0
 have k1 : V.cell? ⟨w.heap.size, 1, none⟩ = some (.bool zw) := ag n0 1
 have k2 : V.cell? ⟨w.heap.size, 2, none⟩ = some (.slice Ct Cn.length c1a) := ag n0 2
 have k3 : V.cell? ⟨w.heap.size, 3, none⟩ = some (.int .i64 Et) := ag n0 3
 have k4 : V.cell? ⟨w.heap.size, 4, none⟩ = some (.bool zu) := ag n0 4
 have k5 : V.cell? ⟨w.heap.size, 5, none⟩ = some (.slice Cs Cm.length Cr) := ag n0 5
 have r0 : V.cell? ⟨w.heap.size + 1, 0, none⟩ = some (.int .i64 0) := ag nr 0
 have fr0 := ah nr 0
 have r1 : V.cell? ⟨w.heap.size + 1, 1, none⟩ = some (.bool false) := ag nr 1
 have fr1 := ah nr 1
 have r2 : V.cell? ⟨w.heap.size + 1, 2, none⟩ = some (.slice none 0 0) := ag nr 2
 have fr2 := ah nr 2
 have r3 : V.cell? ⟨w.heap.size + 1, 3, none⟩ = some (.int .i64 0) := ag nr 3
 have fr3 := ah nr 3
 have r4 : V.cell? ⟨w.heap.size + 1, 4, none⟩ = some (.bool false) := ag nr 4
 have fr4 := ah nr 4
 have r5 : V.cell? ⟨w.heap.size + 1, 5, none⟩ = some (.slice none 0 0) := ag nr 5
 have fr5 := ah nr 5
 have q0 := lt_of_block n0
 have qr := lt_of_block nr
 have NR := hide nr; have HW0 := hide hw0; have F1 := hide ((aa HH).below hw0)
 clear n0 nr hsz hw0 HH
 go_wp2_with fail
 go_region_with (first | (go_at_call_of 104 (Value.agg #[.int .i64 Eu, .bool zw, .slice Ct Cn.length c1a]); refine ((aa HP3) _ (((aa F1).below (by (first | with_reducible assumption | (repeat (first | with_reducible exact Below.refl _ _ | with_reducible assumption | refine Below.drew ?_ | (refine Below.alloc ?_ (by simp <;> omega) _) | refine qd ?_ _))))).n)).mono ?_; rintro e w' ⟨s3a, Vq, A3a, c3a, l3a, rfl, g1, hb3⟩; (try (first | replace i5 := dz.below i5 hb3 | replace i5 := (dz.below i5 (Below.drew (Below.refl _ _))).below hb3)); have i3 := g1; clear g1; have hbw := ay (w := V) (by (first | with_reducible assumption | (repeat (first | with_reducible exact Below.refl _ _ | with_reducible assumption | refine Below.drew ?_ | (refine Below.alloc ?_ (by simp <;> omega) _) | refine qd ?_ _)))) hb3; obtain ⟨hc, hfz⟩ := az hbw) | (go_at_call_of 104 (Value.agg #[.int .i64 Et, .bool zu, .slice Cs Cm.length Cr]); refine ((aa HP5) _ (((aa F1).below (by (first | with_reducible assumption | (repeat (first | with_reducible exact Below.refl _ _ | with_reducible assumption | refine Below.drew ?_ | (refine Below.alloc ?_ (by simp <;> omega) _) | refine qd ?_ _))))).d)).mono ?_; rintro e w' ⟨s3b, Vp, A3b, c3b, l3b, rfl, g1, hb5⟩; (try (first | replace i3 := dz.below i3 hb5 | replace i3 := (dz.below i3 (Below.drew (Below.refl _ _))).below hb5)); have i5 := g1; clear g1; have hbw := ay (w := V) (by (first | with_reducible assumption | (repeat (first | with_reducible exact Below.refl _ _ | with_reducible assumption | refine Below.drew ?_ | (refine Below.alloc ?_ (by simp <;> omega) _) | refine qd ?_ _)))) hb5; obtain ⟨hc, hfz⟩ := az hbw))
 all_goals
  have i3' : dz w' s3a Vq A3a c3a l3a (x.num ^ n) := by first | exact i3 | exact dz.below i3 (Below.drew (Below.refl _ _))
  have i5' : dz w' s3b Vp A3b c3b l3b ((x.den : Int) ^ n) := by first | exact i5 | exact dz.below i5 (Below.drew (Below.refl _ _))
  have jr := (hbw.block _ qr).trans (aa NR)
  have jd := Lib.hid jr
  have Kb := (aa HW0).trans (hbw.mono (by have := (aa HW0).size; omega))
  have HW9 := hide Kb
  have I3 := hide i3'; have I5 := hide i5'
  clear jr Kb i3 i5 i3' i5'
  go_wp2_with fail
  exact bodyPost_ret (v := (Value.agg #[.int .i64 s3a, .bool Vq, .slice A3a l3a.length c3a, .int .i64 s3b, .bool Vp, .slice A3b l3b.length c3b])) (by simp [results, Tryz.results51, go_sem, hc, r0, r1, r2, r3, r4, r5, qr]) rfl
   ⟨s3a, Vq, A3a, c3a, l3a, s3b, Vp, A3b, c3b, l3b, rfl, (aa I3).upto jd.out (Ai _ _ _ _ _ _ _ _ _ _) (pq _ _ _ _ _ _ _ _), (aa I5).upto jd.out (Ai _ _ _ _ _ _ _ _ _ _) (pq _ _ _ _ _ _ _ _), (aa HW9).grown (pq _ _ _ _ _ _ _ _) (aa HW9).size (fun k hk => by injection hk with hk; omega)⟩
set_option maxHeartbeats 16000000 in
theorem ayi (Eu : Int) (zw : Bool) (Ct : Option Addr) (c1a : Nat) (Cn : List Nat) (Et : Int) (zu : Bool) (Cs : Option Addr) (Cr : Nat) (Cm : List Nat) (x : Rat) (n K : Nat) (w : World) (h : IQ w Eu zw Ct c1a Cn Et zu Cs Cr Cm x) (sx : xy K x) (h0 : x.num ≠ 0) (hp : 0 < n) (hK : K * n + 1 ≤ lim) (hK2 : K ≤ lim) (hn : n ≤ 9223372036854775806) :
  Calls Tryz.prog 51 #[(Value.agg #[.int .i64 Eu, .bool zw, .slice Ct Cn.length c1a, .int .i64 Et, .bool zu, .slice Cs Cm.length Cr]), .int .i64 (-(n : Int))] w fun e w' => Gr w (x⁻¹ ^ n).num ((x⁻¹ ^ n).den : Int) e w' := by
 have HIV := hide (bgu w x h0)
 have Jj : Hid (∀ Wi Lv Ph Ow Od Wh Lu Pg Ov Oc W, IQ W Wi Lv Ph Ow Od Wh Lu Pg Ov Oc (x⁻¹) → Calls Tryz.prog 51 #[(Value.agg #[.int .i64 Wi, .bool Lv, .slice Ph (List.length Od) Ow, .int .i64 Wh, .bool Lu, .slice Pg (List.length Oc) Ov]), .int .i64 (n : Int)] W fun e w' => Gr W (x⁻¹ ^ n).num ((x⁻¹ ^ n).den : Int) e w') :=
  fun Wi Lv Ph Ow Od Wh Lu Pg Ov Oc W hi => aml Wi Lv Ph Ow Od Wh Lu Pg Ov Oc x⁻¹ n K W hi (sx.inv h0) hK hK2 hn
 have HH := hide h
 have d0 : decide (-(n : Int) < 0) = true := decide_eq_true om
 have d1 : decide ((0 : Int) < (n : Int)) = true := decide_eq_true om
 have d2 : decide (0 < n) = true := decide_eq_true hp
 have e1 : IntKind.i64.wrap (n : Int) = (n : Int) := IntWalk.i64_in _ om
 have e2 : wrap64 (n : Int) = (n : Int) := IntWalk.wrap64_in _ om
 clear h sx h0 hp hK hK2 hn
 go_enter Tryz.func51, Tryz.ntmps51
 go_upto_region 1 with fail
 obtain ⟨n0, nr, hsz, hw0⟩ := jm w (.cells #[.int .i64 Eu, .bool zw, .slice Ct Cn.length c1a, .int .i64 Et, .bool zu, .slice Cs Cm.length Cr] 63) (.cells #[.int .i64 0, .bool false, .slice none 0 0, .int .i64 0, .bool false, .slice none 0 0] 63)
 generalize ((w.alloc (.cells #[.int .i64 Eu, .bool zw, .slice Ct Cn.length c1a, .int .i64 Et, .bool zu, .slice Cs Cm.length Cr] 63)).alloc (.cells #[.int .i64 0, .bool false, .slice none 0 0, .int .i64 0, .bool false, .slice none 0 0] 63)) = V at *
 have k0 : V.cell? ⟨w.heap.size, 0, none⟩ = some (.int .i64 Eu) := ag n0 0
 have k1 : V.cell? ⟨w.heap.size, 1, none⟩ = some (.bool zw) := ag n0 1
 have k2 : V.cell? ⟨w.heap.size, 2, none⟩ = some (.slice Ct Cn.length c1a) := ag n0 2
 have k3 : V.cell? ⟨w.heap.size, 3, none⟩ = some (.int .i64 Et) := ag n0 3
 have k4 : V.cell? ⟨w.heap.size, 4, none⟩ = some (.bool zu) := ag n0 4
 have k5 : V.cell? ⟨w.heap.size, 5, none⟩ = some (.slice Cs Cm.length Cr) := ag n0 5
 have q0 := lt_of_block n0
 have qr := lt_of_block nr
 have F1 := hide ((aa HH).below hw0)
 clear n0 hsz HH
 go_wp2_with fail
 refine ((aa HIV) Eu zw Ct c1a Cn Et zu Cs Cr Cm _ (by first | exact hw0 | exact hw0.drew) ((aa F1).below (by first | exact Below.refl _ _ | exact (Below.refl _ _).drew)).n ((aa F1).below (by first | exact Below.refl _ _ | exact (Below.refl _ _).drew)).d).mono ?_
 rintro e W2 ⟨Wi, Lv, Ph, Ow, Od, Wh, Lu, Pg, Ov, Oc, rfl, g1, g2, hb⟩
 have hw2 := au hw0 hb
 have j2 := (hb.block _ (by simpa using qr)).trans nr
 have qr2 := lt_of_block j2
 have I2 := hide (IQ.mk g1 g2); have HW2 := hide hw2; have J2 := hide j2
 clear g1 g2 hb hw0 nr qr q0 hw2 j2 F1 HIV k0 k1 k2 k3 k4 k5
 go_wp2_with fail
 refine ((aa Jj) Wi Lv Ph Ow Od Wh Lu Pg Ov Oc _ ((aa I2).below (by first | exact Below.refl _ _ | exact (Below.refl _ _).drew))).mono ?_
 rintro e W3 ⟨s3a, Vq, A3a, c3a, l3a, s3b, Vp, A3b, c3b, l3b, rfl, g1, g2, hb⟩
 have hw3 := au (aa HW2) hb
 have j3 := (hb.block _ (by simpa using qr2)).trans (aa J2)
 have r0 : W3.cell? ⟨w.heap.size + 1, 0, none⟩ = some (.int .i64 0) := ag j3 0
 have fr0 := ah j3 0
 have r1 : W3.cell? ⟨w.heap.size + 1, 1, none⟩ = some (.bool false) := ag j3 1
 have fr1 := ah j3 1
 have r2 : W3.cell? ⟨w.heap.size + 1, 2, none⟩ = some (.slice none 0 0) := ag j3 2
 have fr2 := ah j3 2
 have r3 : W3.cell? ⟨w.heap.size + 1, 3, none⟩ = some (.int .i64 0) := ag j3 3
 have fr3 := ah j3 3
 have r4 : W3.cell? ⟨w.heap.size + 1, 4, none⟩ = some (.bool false) := ag j3 4
 have fr4 := ah j3 4
 have r5 : W3.cell? ⟨w.heap.size + 1, 5, none⟩ = some (.slice none 0 0) := ag j3 5
 have fr5 := ah j3 5
 have qr := lt_of_block j3
 have I3 := hide (IQ.mk g1 g2); have jd := Lib.hid j3; have HW9 := hide hw3
 clear g1 g2 hb hw3 j3 Jj I2 HW2 J2
 go_wp2_with fail
 exact bodyPost_ret (v := (Value.agg #[.int .i64 s3a, .bool Vq, .slice A3a l3a.length c3a, .int .i64 s3b, .bool Vp, .slice A3b l3b.length c3b])) (by simp [results, Tryz.results51, go_sem, r0, r1, r2, r3, r4, r5, qr]) rfl
  ⟨s3a, Vq, A3a, c3a, l3a, s3b, Vp, A3b, c3b, l3b, rfl, (aa I3).n.upto jd.out (Ai _ _ _ _ _ _ _ _ _ _) (pq _ _ _ _ _ _ _ _), (aa I3).d.upto jd.out (Ai _ _ _ _ _ _ _ _ _ _) (pq _ _ _ _ _ _ _ _), (aa HW9).grown (pq _ _ _ _ _ _ _ _) (aa HW9).size (fun k hk => by injection hk with hk; omega)⟩

end Go.Proofs.YtpjgoogeokbaaaaGreatDoor
namespace Go.Proofs.YtpjgoogeokbaaaaGreatDoor
open Go.RowKit

theorem aae : (Tryz.prog.info? 136).map (fun i => (i.zero, i.size, i.bytes)) = some (some (.int .u32 0), 1, 4) := by kernel_rfl
theorem Zh (n : Nat) (h : n ≤ 35184372088832) (w : World) : (Instr.makeSlice 48 (.int .i64 (n : Int)) (.int .i64 (n : Int))).run Tryz.prog w =
  .ok (.slice (some ⟨w.heap.size, 0, none⟩) n n) (w.alloc (.cells (xu .u32 (List.replicate n 0)) 136)) := by
 obtain ⟨i0, hi, hz0, hz1, hz2⟩ := info_parts aae
 have hr := run_make (P := Tryz.prog) w 48 136 i0 (.int .u32 0) Tryz.underlying48 hi hz0 .i64 .i64 n n om (Int.le_refl _) (by rw [hz2]; omega) om
 simp only [Int.toNat_natCast] at hr
 rw [hr, hz1, Km]

theorem jf {a : Int} {c : Nat} (h : a = (c : Int)) (hc : c < dm) : IntKind.u64.wrap a = ((c : Nat) : Int) := by
 rw [IntKind.wrap_u64, h]; rw [gu] at hc; omega
theorem Di (c : Nat) : IntKind.u32.wrap (c : Int) = ((c % di : Nat) : Int) := by
 rw [IntKind.wrap_u32, fo]; omega

set_option maxHeartbeats 2000000 in
theorem aoa (Ax Ay : Option Addr) (cx cy : Nat) (xl yl : List Nat) (n m : Nat) (w : World) (hx : rq w Ax cx xl n) (hy : rq w Ay cy yl m) (hk : xl.length + yl.length ≤ 35184372088832) :
  Calls Tryz.prog 146 #[.slice Ax xl.length cx, .slice Ay yl.length cy] w fun e w' => aqx w (n * m) e w' := by
 have hmk := Zh (xl.length + yl.length) hk
 simp only [Int.natCast_add] at hmk
 have hx1 := hx.uk; have hx2 := hx.cap2; have hy1 := hy.uk; have hy2 := hy.cap2
 go_enter Tryz.func146, Tryz.ntmps146
 go_wp2
 go_loopw [6] (fun iv wr => ∃ (i : Nat) (zr : List Nat), i ≤ xl.length ∧ iv = .int .i64 ((i : Nat) : Int) ∧ Wd.Ia di xl yl zr i ∧ ZB .u32 wr w.heap.size 136 zr ∧ Below w.heap.size w wr) (fun iv _ => xl.length - (intOf iv).toNat)
 case atStart => exact ⟨0, List.replicate (xl.length + yl.length) 0, Nat.zero_le _, rfl, Wd.Ia.start _ _ _ (by rw [fo]; omega) (by simp) (Nf _), heap_alloc_new w _, (Below.refl _ _).alloc (Nat.le_refl _) _⟩
 case round =>
  obtain ⟨i, zr, hi, rfl, hinv, oo, hg⟩ := hrel
  obtain ⟨wo, rfl⟩ : ∃ wo : World, wo = wr := ⟨_, rfl⟩
  have hlen := hinv.len
  have HI := Lib.hid hinv
  clear hinv
  by_cases hlt : i < xl.length
  ·
   obtain ⟨bx, ox, rfl, hbx, hcx⟩ := hx.ws om
   have bji := hcx i hlt
   have HX := hide (And.intro hbx bji)
   clear hcx bji
   obtain ⟨xi, hxi⟩ : ∃ xi, xi = Wd.g xl i := ⟨_, rfl⟩
   rw [← hxi] at HX
   have zo : xi < di := by rw [hxi]; exact Wd.getD_lt (by rw [fo]; omega) _ hx.lt i
   have HXI := Lib.hid hxi
   have HXB := hide zo
   clear hxi zo
   go_wp2_with fail
   go_loopw [7, 8] (fun cv jv wr => ∃ (j c : Nat) (zc : List Nat), j ≤ yl.length ∧ cv = .int .u64 ((c : Nat) : Int) ∧ jv = .int .i64 ((j : Nat) : Int) ∧ Wd.Gv di zr yl zc i (Wd.g xl i) j c ∧ ZB .u32 wr w.heap.size 136 zc ∧ Below w.heap.size w wr) (fun _ jv _ => yl.length - (intOf jv).toNat)
   case atStart => exact ⟨0, 0, zr, Nat.zero_le _, rfl, rfl, Wd.Gv.start _ _ _ _ (by rw [fo]; omega) HI.out.lt, oo, hg⟩
   case round =>
    obtain ⟨j, c, zc, hj, rfl, rfl, Tg, hzc, hgc⟩ := hrel
    have Ti := Tg.len
    have HM := Lib.hid Tg
    clear Tg
    have Fs := (hgc.cell (p := ⟨bx, ox + i, none⟩) (aa HX).1).trans (aa HX).2
    by_cases hjl : j < yl.length
    ·
     obtain ⟨by', oy, rfl, hby, hcy⟩ := hy.ws om
     have Oj := (hgc.cell (p := ⟨by', oy + j, none⟩) hby).trans (hcy j hjl)
     clear hcy
     have Ul := hzc.cell (i + j) om
     have Oh := hzc.frozen (i + j)
     obtain ⟨yj, hyj⟩ : ∃ yj, yj = Wd.g yl j := ⟨_, rfl⟩
     obtain ⟨z, hz⟩ : ∃ z, z = Wd.g zc (i + j) := ⟨_, rfl⟩
     rw [← hyj] at Oj
     rw [← hz] at Ul
     have Df : yj < di := by rw [hyj]; exact Wd.getD_lt (by rw [fo]; omega) _ hy.lt j
     have Iq : z < di := by rw [hz]; exact Wd.getD_lt (by rw [fo]; omega) _ HM.out.lt _
     have hbd := Wd.Mi (aa HXB) Df HM.out.c1 Iq
     have hBB : di * di = dm := by rw [fo, gu]
     rw [hBB] at hbd
     obtain ⟨p, hp⟩ : ∃ t, t = xi * yj := ⟨_, rfl⟩
     obtain ⟨s, hs⟩ : ∃ t, t = p + z := ⟨_, rfl⟩
     obtain ⟨r, hr⟩ : ∃ t, t = c + s := ⟨_, rfl⟩
     obtain ⟨d, hd⟩ : ∃ t, t = r % di := ⟨_, rfl⟩
     obtain ⟨q, hq⟩ : ∃ t, t = r / di := ⟨_, rfl⟩
     rw [← hp] at hbd
     have e1 : IntKind.u64.wrap ((xi : Int) * (yj : Int)) = (p : Int) := jf (by rw [hp]; simp) om
     have e2 : IntKind.u64.wrap ((p : Int) + (z : Int)) = (s : Int) := jf (by rw [hs]; simp) om
     have e3 : IntKind.u64.wrap ((c : Int) + (s : Int)) = (r : Int) := jf (by rw [hr]; simp) om
     have e4 : IntKind.u32.wrap (r : Int) = (d : Int) := by rw [Di, hd]
     have e4' : (r : Int) % 4294967296 = (d : Int) := by rw [hd, fo]; omega
     have b64 : ∀ t : Nat, t < di → t < dm := fun t ht => by rw [fo] at ht; rw [gu]; omega
     have e6 : IntKind.u64.wrap (xi : Int) = (xi : Int) := jf rfl (b64 _ (aa HXB))
     have e7 : IntKind.u64.wrap (yj : Int) = (yj : Int) := jf rfl (b64 _ Df)
     have e8 : IntKind.u64.wrap (z : Int) = (z : Int) := jf rfl (b64 _ Iq)
     have e5 : (r : Int) / 4294967296 = (q : Int) := by rw [hq, fo]; omega
     have hfin : ∀ t W, W = (wr.drewN t).setCell ⟨w.heap.size, i + j, none⟩ (.int .u32 (d : Int)) → Wd.Gv di zr yl (zc.set (i + j) d) i (Wd.g xl i) (j + 1) q ∧ ZB .u32 W w.heap.size 136 (zc.set (i + j) d) ∧ Below w.heap.size w W := by
      rintro t W rfl
      refine ⟨?_, (hzc.drewN t).Ei _ _, (qd hgc t).setCell (by simp) _⟩
      have := HM.out.step zx (by rw [← HXI.out]; exact aa HXB) hy.lt om
      have e : r = Wd.g xl i * yl.getD j 0 + c + zc.getD (i + j) 0 := by
       rw [hr, hs, hp, HXI.out, hyj, hz]; show c + (Wd.g xl i * yl.getD j 0 + zc.getD (i + j) 0) = _; omega
      rw [hd, hq, e]
      exact this
     have HF := hide hfin
     clear hfin b64 hbd hBB hp hs hr hd hq hyj hz Df Iq hzc hgc oo hg hlen Ti
     go_wp2_with fail
     go_quiet (fail)
     go_wp2_with fail
     go_roundw
     case rel =>
      obtain ⟨r1, r2, r3⟩ := (aa HF) _ _ rfl
      exact ⟨j + 1, q, zc.set (i + j) d, by omega, rfl, by go_num, r1, r2, r3⟩
     case measure => simp [intOf]; omega
    ·
     have e : j = yl.length := by omega
     subst e
     have Ul := hzc.cell (i + yl.length) om
     have Oh := hzc.frozen (i + yl.length)
     have hrow := HI.out.step hlt HM.out
     have HR := Lib.hid hrow
     have hc32 : (c : Int) % 4294967296 = (c : Int) := by have := HM.out.c1; rw [fo] at this; omega
     have cgc : IntKind.u32.wrap (c : Int) = (c : Int) := by rw [IntKind.wrap_u32]; exact hc32
     clear hrow
     have hfin : ∀ W, W = wr.setCell ⟨w.heap.size, i + yl.length, none⟩ (.int .u32 (c : Int)) → ZB .u32 W w.heap.size 136 (zc.set (i + yl.length) c) ∧ Below w.heap.size w W := by
      rintro W rfl
      exact ⟨hzc.Ei _ _, hgc.setCell (by simp) _⟩
     have HF := hide hfin
     clear hfin hzc hgc oo hg hlen Ti Fs
     go_wp2_with fail
     go_roundw
     case rel =>
      obtain ⟨r2, r3⟩ := (aa HF) _ rfl
      exact ⟨i + 1, zc.set (i + yl.length) c, by omega, by go_num, HR.out, r2, r3⟩
     case measure => simp [intOf]; omega
  ·
   have e : i = xl.length := by omega
   subst e
   have hlt2 := HI.out.lt
   have hv := HI.out.done
   rw [hx.val, hy.val] at hv
   have HV := Lib.hid hv
   have Jk := hide hlt2
   clear hv hlt2
   go_wp2_with fail
   have htr := Dl (some ⟨w.heap.size, 0, none⟩) zr.length zr (wo.heap.size) wo (oo.Fx _ oo.lt) (Nat.le_refl _) om
   rw [hlen] at htr
   refine htr.mono ?_
   rintro e w' ⟨⟨k, rfl, ht, hk2⟩, rfl⟩
   go_wp2_with fail
   go_ret
   have hk3 : k = (zr.take k).length := by simp; omega
   refine ⟨some ⟨w.heap.size, 0, none⟩, xl.length + yl.length, zr.take k, Gh hk3, ?_, hg⟩
   have := rq.Dt (cap := xl.length + yl.length) oo (aa Jk) ht om om om
   rwa [HV.out] at this
end Go.Proofs.YtpjgoogeokbaaaaGreatDoor
namespace Go.Proofs.YtpjgoogeokbaaaaGreatDoor
open Go.RowKit

theorem Px (a b : Nat) (ha : a < di) (hb : b < di) : Go.bits .or .u32 (a : Int) (b : Int) = ((a ||| b : Nat) : Int) := by
 rw [fo] at ha hb
 have hx : a ||| b < 2 ^ 32 := Nat.or_lt_two_pow om om
 have h1 : (BitVec.ofInt 32 (a : Int)).toNat = a := by
  rw [BitVec.ofInt_natCast, BitVec.toNat_ofNat]; exact Nat.mod_eq_of_lt om
 have h2 : (BitVec.ofInt 32 (b : Int)).toNat = b := by
  rw [BitVec.ofInt_natCast, BitVec.toNat_ofNat]; exact Nat.mod_eq_of_lt om
 show IntKind.u32.wrap ((BitVec.ofInt 32 (a : Int) ||| BitVec.ofInt 32 (b : Int)).toNat : Int) = _
 rw [BitVec.toNat_or, h1, h2, IntKind.wrap_u32]
 omega
theorem Ee (s : Nat) (hs : s ≤ 32) : 2 ^ s * 2 ^ (32 - s) = di := by
 rw [← Nat.pow_add, show s + (32 - s) = 32 by omega]; rfl
theorem atd {m s : Nat} (hm : m < di) (hs : s < 32) : m * 2 ^ s < dm := by
 have h1 : 2 ^ s < 2 ^ 32 := Nat.pow_lt_pow_right om hs
 have h2 : m * 2 ^ s ≤ m * 2 ^ 32 := Nat.mul_le_mul_left _ om
 rw [fo] at hm; rw [gu]; omega
theorem atc {m s : Nat} (hs : s < 32) : m * 2 ^ s % di = m % 2 ^ (32 - s) * 2 ^ s ∧ m * 2 ^ s / di = m / 2 ^ (32 - s) := by
 rw [← Ee s om, Nat.mul_comm (2 ^ s), Nat.mul_mod_mul_right]
 exact ⟨rfl, Nat.mul_div_mul_right _ _ (Nat.pow_pos om)⟩

def buz (w : World) (xl : List Nat) (v : Nat) (e : Ending) (w' : World) : Prop :=
 ∃ zr, e = .returned (.slice (some ⟨w.heap.size, 0, none⟩) (xl.length + 1) (xl.length + 1)) ∧ zr.length = xl.length + 1 ∧ (∀ x ∈ zr, x < di) ∧ Wd.val di zr = v ∧ ZB .u32 w' w.heap.size 136 zr ∧ Below w.heap.size w w'

set_option maxHeartbeats 1000000 in
theorem alo (Ax : Option Addr) (cx : Nat) (xl : List Nat) (n s : Nat) (w : World) (hx : rq w Ax cx xl n) (hs : s < 32) (hk : xl.length + 1 ≤ 35184372088832) :
  Calls Tryz.prog 169 #[.slice Ax xl.length cx, .int .u64 ((s : Nat) : Int)] w fun e w' => buz w xl (n * 2 ^ s) e w' := by
 have hmk := Zh (xl.length + 1) hk
 simp only [Int.natCast_add, Int.cast_ofNat_Int] at hmk
 have hx1 := hx.uk; have hx2 := hx.cap2
 go_enter Tryz.func169, Tryz.ntmps169
 go_wp2
 go_loopw [6] (fun iv wr => ∃ (i : Nat) (zr : List Nat), i ≤ xl.length ∧ iv = .int .i64 ((i : Nat) : Int) ∧ Hid (Wd.Gb di (2 ^ s) xl zr i) ∧ ZB .u32 wr w.heap.size 136 zr ∧ Below w.heap.size w wr) (fun iv _ => xl.length - (intOf iv).toNat)
 case atStart => exact ⟨0, List.replicate (xl.length + 1) 0, Nat.zero_le _, rfl, Wd.Gb.start _ _ (Nat.pow_pos om) (by rw [fo]; omega) (by simp) (Nf _), heap_alloc_new w _, (Below.refl _ _).alloc (Nat.le_refl _) _⟩
 case round =>
  obtain ⟨i, zr, hi, rfl, HI, oo, hg⟩ := hrel
  have hlen := HI.out.len
  by_cases hlt : i < xl.length
  ·
   obtain ⟨bx, ox, rfl, hbx, hcx⟩ := hx.ws om
   have Fs := (hg.cell (p := ⟨bx, ox + i, none⟩) hbx).trans (hcx i hlt)
   clear hcx
   have hzc := oo.cell i om
   have Oh := oo.frozen i
   have btr := oo.cell (i + 1) om
   have bjh := oo.frozen (i + 1)
   obtain ⟨m, hm⟩ : ∃ m, m = Wd.g xl i := ⟨_, rfl⟩
   obtain ⟨z, hz⟩ : ∃ z, z = Wd.g zr i := ⟨_, rfl⟩
   rw [← hm] at Fs
   rw [← hz] at hzc
   have Kz : m < di := by rw [hm]; exact Wd.getD_lt (by rw [fo]; omega) _ hx.lt i
   have Iq : z < di := by rw [hz]; exact Wd.getD_lt (by rw [fo]; omega) _ HI.out.lt i
   have hzS : z < 2 ^ s := by rw [hz]; exact HI.out.low
   obtain ⟨x, Gj⟩ : ∃ x, x = m * 2 ^ s := ⟨_, rfl⟩
   obtain ⟨p, hp⟩ : ∃ p, p = x % di := ⟨_, rfl⟩
   obtain ⟨r, hr⟩ : ∃ r, r = z + p := ⟨_, rfl⟩
   obtain ⟨q, hq⟩ : ∃ q, q = x / di := ⟨_, rfl⟩
   have Bw := atc (m := m) hs
   rw [← Gj, ← hp, ← hq] at Bw
   have Rq : p < di := by rw [hp]; exact Nat.mod_lt _ (by rw [fo]; omega)
   have Nb : q < di := by rw [hq, Nat.div_lt_iff_lt_mul (by rw [fo]; omega)]; have := atd Kz hs; rw [Gj, fo]; rw [gu] at this; omega
   have e0 : IntKind.u64.wrap (m : Int) = (m : Int) := jf rfl (by rw [fo] at Kz; rw [gu]; omega)
   have e1 : IntKind.u64.wrap ((m : Int) * 2 ^ s) = (x : Int) := jf (by rw [Gj]; simp) (by rw [Gj]; exact atd Kz hs)
   have e2 : Go.bits .or .u32 (z : Int) (p : Int) = (r : Int) := by
    rw [Px z p Iq Rq, hr, Bw.1, Nr hzS]
   have e3 : (x : Int) / 4294967296 = (q : Int) := by rw [hq, fo]; omega
   have e4 : (x : Int) % 4294967296 = (p : Int) := by rw [hp, fo]; omega
   have e5 : (q : Int) % 4294967296 = (q : Int) := by rw [fo] at Nb; omega
   have e6 : IntKind.u32.wrap (x : Int) = (p : Int) := by rw [Di, hp]
   have e7 : IntKind.u32.wrap (q : Int) = (q : Int) := by rw [IntKind.wrap_u32]; exact e5
   have hfin : ∀ W, W = (wr.setCell ⟨w.heap.size, i, none⟩ (.int .u32 (r : Int))).setCell ⟨w.heap.size, i + 1, none⟩ (.int .u32 (q : Int)) → Hid (Wd.Gb di (2 ^ s) xl ((zr.set i r).set (i + 1) q) (i + 1)) ∧ ZB .u32 W w.heap.size 136 ((zr.set i r).set (i + 1) q) ∧ Below w.heap.size w W := by
    rintro W rfl
    refine ⟨?_, (oo.Ei _ _).Ei _ _, (hg.setCell (by simp) _).setCell (by simp) _⟩
    have := HI.out.step (Ee s om) (Nat.pow_pos om) hlt (by rw [← Wd.ry, ← hm]; exact Kz)
    rw [hr, Bw.1, Bw.2, hm, hz]
    exact this
   have HF := hide hfin
   clear hfin Bw hp hr hq hm hz hzS oo hg Gj Rq Nb Kz Iq
   go_wp2_with fail
   go_roundw
   case rel =>
    obtain ⟨r1, r2, r3⟩ := (aa HF) _ rfl
    exact ⟨i + 1, _, by omega, by go_num, r1, r2, r3⟩
   case measure => simp [intOf] <;> omega
  ·
   have e : i = xl.length := by omega
   subst e
   have hv := HI.out.done
   rw [hx.val] at hv
   have HV := Lib.hid hv
   clear hv
   go_wp2_with fail
   go_ret
   exact ⟨zr, rfl, hlen, HI.out.lt, HV.out, oo, hg⟩
end Go.Proofs.YtpjgoogeokbaaaaGreatDoor
namespace Go.Proofs.YtpjgoogeokbaaaaGreatDoor
namespace Wd

structure Yh (B top head Q q r : Nat) : Prop where
 eq : q * top + r = head
 ge : Q ≤ q
 lt : q < B
theorem Yh.step {B top next head d Q q r : Nat} (hQ : Q * (top * B + next) ≤ head * B + d) (h : Yh B top head Q q r) (hlt : r * B + d < q * next) : 1 ≤ q ∧ Yh B top head Q (q - 1) (r + top) := by
 have h1 : Q < q := by
  rcases Nat.lt_or_ge Q q with h1 | h1
  ·
   exact h1
  ·
   have h2 : q * (top * B + next) ≤ Q * (top * B + next) := Nat.mul_le_mul_right _ h1
   have h3 : q * (top * B + next) = q * top * B + q * next := by rw [Nat.mul_add, Nat.mul_assoc]
   have h4 : head * B = q * top * B + r * B := by rw [← h.eq, Nat.add_mul]
   omega
 have he := h.eq
 obtain ⟨p, rfl⟩ : ∃ p, q = p + 1 := ⟨q - 1, by omega⟩
 refine ⟨by omega, ⟨?_, by omega, by have := h.lt; omega⟩⟩
 rw [Nat.add_sub_cancel]
 rw [Nat.add_mul, Nat.one_mul] at he
 omega
theorem Yh.fits {B top next head d Q q r : Nat} (hn : next < B) (h : Yh B top head Q q r) (hs : B ≤ r ∨ q * next ≤ r * B + d) : q * (top * B + next) ≤ head * B + d := by
 have h3 : q * (top * B + next) = q * top * B + q * next := by rw [Nat.mul_add, Nat.mul_assoc]
 have h4 : head * B = q * top * B + r * B := by rw [← h.eq, Nat.add_mul]
 have h5 : q * next ≤ r * B + d := by
  rcases hs with h1 | h1
  ·
   have h6 : q * next ≤ B * B := Nat.mul_le_mul (Nat.le_of_lt h.lt) (Nat.le_of_lt hn)
   have h7 : B * B ≤ r * B := Nat.mul_le_mul_right _ h1
   omega
  ·
   exact h1
 omega
theorem avo {B P X Y U3 Yt Q q : Nat} (hP : 0 < P) (hX : U3 * P ≤ X) (hY : Y < (Yt + 1) * P) (hY0 : 0 < Y) (hQ : Q = X / Y) (hq : q * Yt ≤ U3) (hB : q ≤ Yt) : q ≤ Q + 1 := by
 rcases Nat.eq_zero_or_pos q with h | h
 ·
  omega
 obtain ⟨p, rfl⟩ : ∃ p, q = p + 1 := ⟨q - 1, by omega⟩
 suffices p ≤ Q by omega
 rw [hQ, Nat.le_div_iff_mul_le hY0]
 have h1 : p * Y ≤ p * ((Yt + 1) * P) := Nat.mul_le_mul_left _ (Nat.le_of_lt hY)
 have h2 : p * ((Yt + 1) * P) = (p * Yt + p) * P := by rw [← Nat.mul_assoc, Nat.mul_add, Nat.mul_one]
 have h3 : (p * Yt + p) * P ≤ ((p + 1) * Yt) * P := Nat.mul_le_mul_right _ (by rw [Nat.add_mul]; omega)
 have h4 : (p + 1) * Yt * P ≤ U3 * P := Nat.mul_le_mul_right _ hq
 omega

structure Oz (B : Nat) (ul vl zc : List Nat) (q i c b : Nat) : Prop where
 len : zc.length = ul.length
 same : ∀ j, i ≤ j → zc.getD j 0 = ul.getD j 0
 lt : ∀ x ∈ zc, x < B
 eq : val B (zc.take i) + q * val B (vl.take i) = val B (ul.take i) + B ^ i * (c + b)
 c1 : c < B
 b1 : b ≤ 1
theorem Oz.start {B : Nat} (ul vl : List Nat) (q : Nat) (hB : 0 < B) (h : ∀ x ∈ ul, x < B) : Oz B ul vl ul q 0 0 0 := ⟨rfl, fun _ _ => rfl, h, by simp [val], hB, by omega⟩
theorem Oz.step {B : Nat} {ul vl zc : List Nat} {q i c b d b' t : Nat} (h : Oz B ul vl zc q i c b) (hi : i < ul.length) (ht : t = c + q * vl.getD i 0) (Ty : t < B * B) (hd : d < B) (hb : b' ≤ 1)
  (e : d + t % B + b = ul.getD i 0 + B * b') : Oz B ul vl (zc.set i d) q (i + 1) (t / B) b' := by
 have hlen := h.len
 have hB : 0 < B := by omega
 refine ⟨by simp [hlen], fun j hj => ?_, Bv _ _ _ h.lt hd, ?_, ?_, hb⟩
 ·
  rw [Ff _ _ _ _ om, h.same j om]
 ·
  rw [Bh _ _ _ om, Ci, ou, ou, List.length_take, Nat.min_eq_left om, Nat.pow_succ]
  have he := h.eq
  have Dg := Nat.div_add_mod t B
  generalize B ^ i = P at *
  generalize val B (zc.take i) = Z at *
  generalize val B (vl.take i) = V at *
  generalize val B (ul.take i) = U at *
  generalize vl.getD i 0 = y at *
  generalize ul.getD i 0 = x at *
  generalize t / B = hi at *
  generalize t % B = lo at *
  have k1 : P * d + P * lo + P * b = P * x + P * (B * b') := by rw [← Nat.mul_add, ← Nat.mul_add, e, Nat.mul_add]
  have k2 : P * (B * hi) + P * lo = P * c + P * (q * y) := by rw [← Nat.mul_add, Dg, ht, Nat.mul_add]
  rw [Nat.mul_add] at he
  rw [Nat.mul_add, Nat.mul_add, show q * (P * y) = P * (q * y) by simp only [Nat.mul_left_comm], Nat.mul_assoc, Nat.mul_assoc]
  omega
 ·
  rw [Nat.div_lt_iff_lt_mul hB]; exact Ty
theorem Oz.done {B : Nat} {ul vl zc : List Nat} {q b : Nat} (h : Oz B ul vl zc q ul.length 0 b) (hv : vl.length ≤ ul.length) : val B zc + q * val B vl = val B ul + B ^ ul.length * b := by
 have e := h.eq
 have hl := h.len
 rwa [jw _ zc _ om, jw _ vl _ hv, jw _ _ _ (Nat.le_refl _), Nat.zero_add] at e
end Wd
end Go.Proofs.YtpjgoogeokbaaaaGreatDoor
namespace Go.Proofs.YtpjgoogeokbaaaaGreatDoor
open Go.RowKit

structure StepT (ul vl zr : List Nat) (q : Nat) : Prop where
 len : zr.length = ul.length
 lt : ∀ x ∈ zr, x < di
 quo : q = Wd.val di ul / Wd.val di vl
 rem : Wd.val di zr = Wd.val di ul % Wd.val di vl

theorem ahx {x lo b s1 s2 : Nat} (hx : x < di) (hlo : lo < di) (hb : b ≤ 1) (h1 : (s1 : Int) = ((x : Int) - (lo : Int)) % 18446744073709551616) (h2 : (s2 : Int) = ((s1 : Int) - (b : Int)) % 18446744073709551616) :
  s2 % di < di ∧ s2 / 9223372036854775808 ≤ 1 ∧ s2 % di + lo + b = x + di * (s2 / 9223372036854775808) := by
 rw [fo] at *
 omega
theorem bhu {B : Nat} (hB : 0 < B) (l : List Nat) (n : Nat) (hn : 2 ≤ n) (hl : l.length = n + 1) (hlt : ∀ x ∈ l, x < B) :
  ((l.getD n 0 * B + l.getD (n - 1) 0) * B + l.getD (n - 2) 0) * B ^ (n - 2) ≤ Wd.val B l ∧ Wd.val B l < ((l.getD n 0 * B + l.getD (n - 1) 0) * B + l.getD (n - 2) 0 + 1) * B ^ (n - 2) := by
 have h1 := Wd.rf B l n om
 rw [Wd.jw _ _ _ om] at h1
 have h2 := Wd.rf B l (n - 1) om
 rw [show n - 1 + 1 = n by omega] at h2
 have h2' := Wd.rf B l (n - 2) om
 rw [show n - 2 + 1 = n - 1 by omega] at h2'
 have h3 := Wd.Cy (B := B) (l.take (n - 2)) (fun x hx => hlt x (List.mem_of_mem_take hx))
 rw [List.length_take, Nat.min_eq_left om] at h3
 have e : B ^ n = B ^ (n - 2) * B * B := by rw [← Nat.pow_succ, ← Nat.pow_succ, show (n - 2).succ.succ = n by omega]
 have e' : B ^ (n - 1) = B ^ (n - 2) * B := by rw [← Nat.pow_succ, show (n - 2).succ = n - 1 by omega]
 rw [h1, h2, h2', e, e']
 generalize B ^ (n - 2) = P at *
 generalize l.getD n 0 = a at *
 generalize l.getD (n - 1) 0 = b at *
 generalize l.getD (n - 2) 0 = c at *
 have k1 : ((a * B + b) * B + c) * P = P * B * B * a + P * B * b + P * c := by
  simp only [Nat.add_mul, Nat.mul_add, Nat.mul_comm, Nat.mul_left_comm, Nat.mul_assoc]
 rw [Nat.add_mul _ 1 P, Nat.one_mul, k1]
 omega
theorem aoh {B : Nat} (l : List Nat) (n : Nat) (hn : 2 ≤ n) (hl : l.length = n) (hlt : ∀ x ∈ l, x < B) :
  (l.getD (n - 1) 0 * B + l.getD (n - 2) 0) * B ^ (n - 2) ≤ Wd.val B l ∧ Wd.val B l < (l.getD (n - 1) 0 * B + l.getD (n - 2) 0 + 1) * B ^ (n - 2) := by
 have h2 := Wd.rf B l (n - 1) om
 rw [show n - 1 + 1 = n by omega, Wd.jw _ _ _ om] at h2
 have h2' := Wd.rf B l (n - 2) om
 rw [show n - 2 + 1 = n - 1 by omega] at h2'
 have h3 := Wd.Cy (B := B) (l.take (n - 2)) (fun x hx => hlt x (List.mem_of_mem_take hx))
 rw [List.length_take, Nat.min_eq_left om] at h3
 have e' : B ^ (n - 1) = B ^ (n - 2) * B := by rw [← Nat.pow_succ, show (n - 2).succ = n - 1 by omega]
 rw [h2, h2', e']
 generalize B ^ (n - 2) = P at *
 generalize l.getD (n - 1) 0 = b at *
 generalize l.getD (n - 2) 0 = c at *
 have k1 : (b * B + c) * P = P * B * b + P * c := by
  simp only [Nat.add_mul, Nat.mul_add, Nat.mul_comm, Nat.mul_left_comm, Nat.mul_assoc]
 rw [Nat.add_mul _ 1 P, Nat.one_mul, k1]
 omega
theorem aiu {a z : Nat} (ha : a < di) (hz : z < di) : Go.bits .or .u64 ((a * di : Nat) : Int) (z : Int) = ((a * di + z : Nat) : Int) := by
 have h := Nr (z := z) (a := a) (s := 32) (by rw [fo] at hz; omega)
 rw [bits_or_u64_nat _ _ (by rw [fo] at *; omega) (by rw [fo] at *; omega), Nat.or_comm, fo]
 rw [show (2 : Nat) ^ 32 = 4294967296 from rfl] at h
 rw [h, Nat.add_comm]

structure Ke (ul vl : List Nat) (n : Nat) : Prop where
 n2 : 2 ≤ n
 Ob : vl.length = n
 Du : ul.length = n + 1
 ltu : ∀ x ∈ ul, x < di
 Zo : ∀ x ∈ vl, x < di
 top : vl.getD (n - 1) 0 ≠ 0
 pre : Wd.val di ul < di * Wd.val di vl
theorem Ke.start {ul vl : List Nat} {n head top : Nat} (h : Ke ul vl n) (hh : head = ul.getD n 0 * di + ul.getD (n - 1) 0) (ht : top = vl.getD (n - 1) 0) :
  Wd.Yh di top head (Wd.val di ul / Wd.val di vl) (min (head / top) 4294967295) (head - min (head / top) 4294967295 * top) ∧ min (head / top) 4294967295 * top ≤ head := by
 have hB : 0 < di := by rw [fo]; omega
 have hV := (aoh vl n h.n2 h.Ob h.Zo).1
 have hU := bhv hB ul n (by have := h.n2; omega) h.Du h.ltu
 have h1 := axr (B := di) vl n (by have := h.n2; omega) h.Ob
 rw [← ht] at h1
 rw [← hh] at hU
 have ht0 : 0 < top := by rw [ht]; exact Nat.pos_of_ne_zero h.top
 have Kc : 0 < Wd.val di vl := by
  have h2 : 0 < di ^ (n - 1) := Nat.pow_pos hB
  have := Nat.mul_pos ht0 h2; omega
 have hQ : Wd.val di ul / Wd.val di vl * top ≤ head := Wd.Yc h1 hU (Nat.div_mul_le_self _ _)
 have hQB : Wd.val di ul / Wd.val di vl < di := by rw [Nat.div_lt_iff_lt_mul Kc]; exact h.pre
 have hle : min (head / top) 4294967295 * top ≤ head := Nat.le_trans (Nat.mul_le_mul_right _ (Nat.min_le_left _ _)) (Nat.div_mul_le_self _ _)
 refine ⟨⟨Nat.add_sub_of_le hle, ?_, ?_⟩, hle⟩
 ·
  rw [Nat.le_min]
  exact ⟨(Nat.le_div_iff_mul_le ht0).2 hQ, Nat.le_of_lt_succ (by rw [fo] at hQB; exact hQB)⟩
 ·
  exact Nat.lt_of_le_of_lt (Nat.min_le_right (head / top) 4294967295) (by rw [fo]; omega)
theorem Ke.low {ul vl : List Nat} {n : Nat} (h : Ke ul vl n) : Wd.val di ul / Wd.val di vl * (vl.getD (n - 1) 0 * di + vl.getD (n - 2) 0) ≤ (ul.getD n 0 * di + ul.getD (n - 1) 0) * di + ul.getD (n - 2) 0 := by
 have hB : 0 < di := by rw [fo]; omega
 exact Wd.Yc (aoh vl n h.n2 h.Ob h.Zo).1 (bhu hB ul n h.n2 h.Du h.ltu).2 (Nat.div_mul_le_self _ _)
theorem Ke.one {ul vl : List Nat} {n q : Nat} (h : Ke ul vl n) (hq : q * (vl.getD (n - 1) 0 * di + vl.getD (n - 2) 0) ≤ (ul.getD n 0 * di + ul.getD (n - 1) 0) * di + ul.getD (n - 2) 0) (hlt : q < di) : q ≤ Wd.val di ul / Wd.val di vl + 1 := by
 have hB : 0 < di := by rw [fo]; omega
 have ht0 : 1 ≤ vl.getD (n - 1) 0 := Nat.pos_of_ne_zero h.top
 have h1 : 1 * di ≤ vl.getD (n - 1) 0 * di := Nat.mul_le_mul_right _ ht0
 have hV := (aoh vl n h.n2 h.Ob h.Zo)
 have hP : 0 < di ^ (n - 2) := Nat.pow_pos hB
 have Kc : 0 < Wd.val di vl := by
  have := Nat.mul_pos (show 0 < vl.getD (n - 1) 0 * di + vl.getD (n - 2) 0 by omega) hP; omega
 exact Wd.avo (B := di) hP (bhu hB ul n h.n2 h.Du h.ltu).1 hV.2 Kc rfl hq om
end Go.Proofs.YtpjgoogeokbaaaaGreatDoor
