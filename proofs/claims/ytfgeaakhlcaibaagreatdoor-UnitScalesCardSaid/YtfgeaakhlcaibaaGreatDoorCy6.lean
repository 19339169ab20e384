/- Texts beneath a law of layer 1. -/
import Derived.Test.YtfgeaakhlcaibaaGreatDoorCy5
import Derived.Deep.DeepCutAuto
import Derived.Deep.CutBlock
set_option maxRecDepth 100000
set_option maxHeartbeats 16000000
namespace Go.Proofs.YtfgeaakhlcaibaaGreatDoor
namespace Wd

def MX : Nat := 1000000000000
theorem Og : MX = 1000000000000 := rfl

def oo (n d : Int) : Prop := 1 ≤ d ∧ d ≤ 1000000000000 ∧ -1000000000000 ≤ n ∧ n ≤ 1000000000000 ∧ n.natAbs.gcd d.natAbs = 1
instance (n d : Int) : Decidable (oo n d) := by unfold oo; infer_instance

def qR (n d : Int) : Rat := Rat.divInt n d

theorem Nl {n d : Int} (h : oo n d) : (qR n d).num = n ∧ ((qR n d).den : Int) = d := by
 obtain ⟨h1, h2, h3, h4, h5⟩ := h
 have hd : (d.natAbs : Int) = d := by omega
 have e : qR n d = Rat.mk' n d.natAbs om h5 := by
  rw [Rat.mk_eq_divInt, hd]; rfl
 rw [e]; exact ⟨rfl, hd⟩
theorem ajg (q : Rat) : qR q.num q.den = q := by
 unfold qR; exact Rat.num_divInt_den q
theorem baf {n d : Int} (h : oo n d) : qR n d = 0 ↔ n = 0 := by
 constructor
 ·
  intro e
  have := (Nl h).1
  rw [e] at this; exact this.symm
 ·
  rintro rfl
  unfold qR; exact Rat.zero_divInt d

def fits (q : Rat) : Prop := q.num.natAbs ≤ MX ∧ q.den ≤ MX
instance (q : Rat) : Decidable (fits q) := by unfold fits; infer_instance
theorem bav {q : Rat} (h : fits q) : oo q.num q.den := by
 obtain ⟨h1, h2⟩ := h
 rw [Og] at h1 h2
 have h3 := q.den_pos
 exact ⟨by omega, by omega, by omega, by omega, by rw [Int.natAbs_natCast]; exact q.reduced⟩
theorem ban {n d : Int} (h : oo n d) : fits (qR n d) := by
 obtain ⟨e1, e2⟩ := Nl h
 obtain ⟨h1, h2, h3, h4, h5⟩ := h
 unfold fits; rw [Og, e1]
 exact ⟨by omega, by omega⟩

structure Told where
 n : Int
 d : Int
 e : Int
def told (q : Rat) : Told := if fits q then ⟨q.num, q.den, 0⟩ else ⟨0, 0, 3⟩
theorem bcj (q : Rat) : (told q).e = 0 ↔ fits q := by
 unfold told
 by_cases h : fits q
 ·
  rw [if_pos h]; exact ⟨fun _ => h, fun _ => rfl⟩
 ·
  rw [if_neg h]; exact ⟨fun e => by simp at e, fun e => absurd e h⟩
theorem aac {q : Rat} (h : (told q).e = 0) : oo (told q).n (told q).d ∧ qR (told q).n (told q).d = q := by
 have hf := (bcj q).1 h
 unfold told; rw [if_pos hf]
 exact ⟨bav hf, ajg q⟩
theorem Qc {n d : Int} (h : oo n d) : told (qR n d) = ⟨n, d, 0⟩ := by
 unfold told; rw [if_pos (ban h)]
 obtain ⟨e1, e2⟩ := Nl h
 rw [e1, e2]

def two (f : Rat → Rat → Rat) (a b c d : Int) : Told := if oo a b ∧ oo c d then told (f (qR a b) (qR c d)) else ⟨0, 0, 1⟩
end Wd
namespace Wd

def Sz (B K : Nat) (z : Int) : Prop := z.natAbs < B ^ K

theorem Sz.mono {B K L : Nat} {z : Int} (hB : 1 < B) (h : Sz B K z) (hk : K ≤ L) : Sz B L z := Nat.lt_of_lt_of_le h (Nat.pow_le_pow_right om hk)
theorem Sz.mul {B K L : Nat} {a b : Int} (ha : Sz B K a) (hb : Sz B L b) : Sz B (K + L) (a * b) := by
 unfold Sz at *; rw [Int.natAbs_mul, Nat.pow_add]
 exact Nat.mul_lt_mul_of_lt_of_le ha (Nat.le_of_lt hb) om
theorem Sz.add {B K : Nat} {a b : Int} (hB : 1 < B) (ha : Sz B K a) (hb : Sz B K b) : Sz B (K + 1) (a + b) := by
 unfold Sz at *
 have h1 := Int.natAbs_add_le a b
 have h2 : 2 * B ^ K ≤ B ^ (K + 1) := by rw [Nat.pow_succ, Nat.mul_comm]; exact Nat.mul_le_mul_left _ hB
 omega
theorem Sz.neg {B K : Nat} {a : Int} (ha : Sz B K a) : Sz B K (-a) := by unfold Sz at *; rwa [Int.natAbs_neg]
theorem Sz.le {B K : Nat} {a b : Int} (ha : Sz B K a) (h : b.natAbs ≤ a.natAbs) : Sz B K b := Nat.lt_of_le_of_lt h ha
theorem Sz.tdiv {B K : Nat} {a : Int} (ha : Sz B K a) (b : Int) : Sz B K (a.tdiv b) := ha.le (by rw [Int.natAbs_tdiv]; exact Nat.div_le_self _ _)
theorem Sz.gcd_left {B K : Nat} {a b : Int} (ha : Sz B K a) (h0 : a ≠ 0) : Sz B K ((a.natAbs.gcd b.natAbs : Nat) : Int) := ha.le (by rw [Int.natAbs_natCast]; exact Nat.gcd_le_left _ om)
theorem Sz.gcd_right {B K : Nat} {a b : Int} (hb : Sz B K b) (h0 : b ≠ 0) : Sz B K ((a.natAbs.gcd b.natAbs : Nat) : Int) := hb.le (by rw [Int.natAbs_natCast]; exact Nat.gcd_le_right _ om)
theorem Sz.gcd {B K : Nat} {a b : Int} (ha : Sz B K a) (hb : Sz B K b) : Sz B K ((a.natAbs.gcd b.natAbs : Nat) : Int) := by
 by_cases h0 : a = 0
 ·
  subst h0
  refine hb.le ?_
  simp
 ·
  exact ha.gcd_left h0
theorem Sz.of_le {B K : Nat} {z : Int} (h : z.natAbs < B) (hB : 1 < B) (hK : 1 ≤ K) : Sz B K z := by
 have : Sz B 1 z := by unfold Sz; rwa [Nat.pow_one]
 exact this.mono hB hK

theorem acu (x y : Rat) (g h : Nat) (n : Int) (hg : g = x.den.gcd y.den) (hn : n = x.num * (y.den : Int).tdiv g + y.num * (x.den : Int).tdiv g) (hh : h = g.gcd n.natAbs) :
  (x + y).num = n.tdiv h ∧ ((x + y).den : Int) = (x.den : Int).tdiv g * (y.den : Int).tdiv h := by
 have e1 : (y.den : Int).tdiv g = ((y.den / g : Nat) : Int) := (Int.ofNat_tdiv _ _).symm
 have e2 : (x.den : Int).tdiv g = ((x.den / g : Nat) : Int) := (Int.ofNat_tdiv _ _).symm
 have e3 : (y.den : Int).tdiv h = ((y.den / h : Nat) : Int) := (Int.ofNat_tdiv _ _).symm
 rw [e1, e2] at hn
 have := ark x y g h n hg hn hh
 rw [this.1, this.2, e2, e3, Int.natCast_mul]
 exact ⟨rfl, rfl⟩
theorem aco (x y : Rat) (g h : Nat) (hg : g = x.num.natAbs.gcd y.den) (hh : h = y.num.natAbs.gcd x.den) :
  (x * y).num = x.num.tdiv g * y.num.tdiv h ∧ ((x * y).den : Int) = (x.den : Int).tdiv h * (y.den : Int).tdiv g := by
 have e1 : (y.den : Int).tdiv g = ((y.den / g : Nat) : Int) := (Int.ofNat_tdiv _ _).symm
 have e2 : (x.den : Int).tdiv h = ((x.den / h : Nat) : Int) := (Int.ofNat_tdiv _ _).symm
 have := aqb x y g h hg hh
 rw [this.1, this.2, e1, e2, Int.natCast_mul]
 exact ⟨rfl, rfl⟩
theorem Tn (q : Rat) (h : q.num ≠ 0) : (q.num < 0 → (q⁻¹).num = -(q.den : Int) ∧ ((q⁻¹).den : Int) = -q.num) ∧ (¬ q.num < 0 → (q⁻¹).num = (q.den : Int) ∧ ((q⁻¹).den : Int) = q.num) := by
 rw [Rat.num_inv, Rat.den_inv, if_neg h]
 constructor
 ·
  intro hn
  rw [Int.sign_eq_neg_one_of_neg hn]; omega
 ·
  intro hn
  rw [Int.sign_eq_one_of_pos om]; omega
end Wd
end Go.Proofs.YtfgeaakhlcaibaaGreatDoor
namespace Go.Proofs.YtfgeaakhlcaibaaGreatDoor
open Go.RowKit

def Gf (w : World) (a b : Int) (e : Ending) (w' : World) : Prop := ∃ s1 cz A1 c1 l1 s2 cu A2 c2 l2,
 e = .returned (.agg #[.int .i64 s1, .bool cz, .slice A1 (List.length l1) c1, .int .i64 s2, .bool cu, .slice A2 (List.length l2) c2]) ∧ fq w' s1 cz A1 c1 l1 a ∧ fq w' s2 cu A2 c2 l2 b ∧ Below w.heap.size w w'

theorem tu (s s' : Int) (b b' : Bool) (A A' : Option Addr) (n c n' c' : Nat) : Po #[.int .i64 s, .bool b, .slice A n c, .int .i64 s', .bool b', .slice A' n' c'] := by
 intro i n h
 match i, h with
 | 0, h => simp at h
 | 1, h => simp at h
 | 2, h => simp at h
 | 3, h => simp at h
 | 4, h => simp at h
 | 5, h => simp at h
 | i + 6, h => simp at h
theorem jw (w : World) (g : Nat) (u0 u1 u2 u3 u4 u5 : Value) : w.grownBy ((((((w.setCell ⟨g, 0, none⟩ u0).setCell ⟨g, 1, none⟩ u1).setCell ⟨g, 2, none⟩ u2).setCell ⟨g, 3, none⟩ u3).setCell ⟨g, 4, none⟩ u4).setCell ⟨g, 5, none⟩ u5) (some g) :=
 ll (ll (ll (ll (ll (ll (qo _ _) _ _) _ _) _ _) _ _) _ _) _ _
theorem mh (w : World) (g : Nat) (u0 u1 : Value) : w.grownBy ((w.setCell ⟨g, 0, none⟩ u0).setCell ⟨g, 1, none⟩ u1) (some g) :=
 ll (ll (qo _ _) _ _) _ _
theorem zz {w : World} {g : Nat} (i : Nat) (u : Value) (b o : Nat) (h : b ≠ g) : (w.setCell ⟨g, i, none⟩ u).cell? ⟨b, o, none⟩ = w.cell? ⟨b, o, none⟩ :=
 World.cell?_setCell_other _ _ _ _ (by intro e; injection e with e1; exact h (by first | exact e1 | exact e1.symm))
theorem jg {w : World} {g : Nat} (u0 u1 u2 u3 u4 u5 : Value) (b o : Nat) (h : b ≠ g) : ((((((w.setCell ⟨g, 0, none⟩ u0).setCell ⟨g, 1, none⟩ u1).setCell ⟨g, 2, none⟩ u2).setCell ⟨g, 3, none⟩ u3).setCell ⟨g, 4, none⟩ u4).setCell ⟨g, 5, none⟩ u5).cell? ⟨b, o, none⟩ = w.cell? ⟨b, o, none⟩ := by
 rw [zz _ _ _ _ h, zz _ _ _ _ h, zz _ _ _ _ h, zz _ _ _ _ h, zz _ _ _ _ h, zz _ _ _ _ h]
theorem Ob {w : World} {g : Nat} (u0 u1 : Value) (b o : Nat) (h : b ≠ g) : ((w.setCell ⟨g, 0, none⟩ u0).setCell ⟨g, 1, none⟩ u1).cell? ⟨b, o, none⟩ = w.cell? ⟨b, o, none⟩ := by
 rw [zz _ _ _ _ h, zz _ _ _ _ h]

theorem Jf (w : World) (o1 : Obj) : (w.alloc o1).heap[w.heap.size]? = some o1 ∧ (w.alloc o1).heap.size = w.heap.size + 1 ∧ Below w.heap.size w (w.alloc o1) :=
 ⟨heap_alloc_new w o1, by simp, (Below.refl _ _).alloc (Nat.le_refl _) _⟩

theorem fq.fit {w : World} {s : Int} {neg : Bool} {A : Option Addr} {cap : Nat} {l : List Nat} {z : Int} {K : Nat} (h : fq w s neg A cap l z) (hz : Wd.Sz dm K z) (hK : K ≤ lim) : l.length ≤ lim := by
 rcases h.form with ⟨h1, _⟩ | ⟨h1, _, _, h2, _⟩
 ·
  omega
 ·
  obtain ⟨n, hn⟩ := h.nat
  have hv : n = z.natAbs := by rw [← h2, hn.val]
  have := hn.len (k := K) (by rw [hv]; exact hz)
  omega

theorem Xh (s1 : Int) (cz : Bool) (A1 : Option Addr) (c1 : Nat) (l1 : List Nat) (z1 : Int) (s2 : Int) (cu : Bool) (A2 : Option Addr) (c2 : Nat) (l2 : List Nat) (z2 : Int) (w : World)
  (h1 : fq w s1 cz A1 c1 l1 z1) (h2 : fq w s2 cu A2 c2 l2 z2) (hl1 : l1.length ≤ lim) (hl2 : l2.length ≤ lim) :
  Calls Tryz.prog 147 #[.agg #[.int .i64 s1, .bool cz, .slice A1 l1.length c1], .agg #[.int .i64 s2, .bool cu, .slice A2 l2.length c2]] w fun e w' => Bq w (z1 * z2) e w' := by
 have nz := hide (fun W => qi s1 cz A1 c1 l1.length W)
 have HS2 := hide (fun W => qi s2 cu A2 c2 l2.length W)
 have hz := aee z1 z2
 have Pp : ∀ (A5 A6 : Option Addr) (c5 c6 : Nat) (l5 l6 : List Nat) (W : World), ku W A5 c5 l5 z1.natAbs → ku W A6 c6 l6 z2.natAbs → l5.length + l6.length ≤ 35184372088832 := fun _ _ _ _ _ _ _ g1 g2 => by
  have e1 := g1.len h1.Ro
  have e2 := g2.len h2.Ro
  rw [Al] at hl1 hl2
  omega
 have G1 : ∀ W0, Below w.heap.size w W0 → Hid (∀ W, Below W0.heap.size W0 W → Calls Tryz.prog 159 #[.agg #[.int .i64 s1, .bool cz, .slice A1 l1.length c1]] W fun e w' => e = .returned (.int .i64 (lh z1)) ∧ Below W.heap.size W w') := fun W0 h0 W hW => ve s1 cz A1 c1 l1 z1 W (fq.below h1 (bg h0 hW))
 have G2 : ∀ W0, Below w.heap.size w W0 → Hid (∀ W, Below W0.heap.size W0 W → Calls Tryz.prog 159 #[.agg #[.int .i64 s2, .bool cu, .slice A2 l2.length c2]] W fun e w' => e = .returned (.int .i64 (lh z2)) ∧ Below W.heap.size W w') := fun W0 h0 W hW => ve s2 cu A2 c2 l2 z2 W (fq.below h2 (bg h0 hW))
 have B1 : ∀ W0, Below w.heap.size w W0 → Hid (∀ W, Below W0.heap.size W0 W → Calls Tryz.prog 191 #[.agg #[.int .i64 s1, .bool cz, .slice A1 l1.length c1]] W fun e w' => Eb W z1.natAbs e w') := fun W0 h0 W hW => Ck s1 cz A1 c1 l1 z1 W (fq.below h1 (bg h0 hW))
 have B2 : ∀ W0, Below w.heap.size w W0 → Hid (∀ W, Below W0.heap.size W0 W → Calls Tryz.prog 191 #[.agg #[.int .i64 s2, .bool cu, .slice A2 l2.length c2]] W fun e w' => Eb W z2.natAbs e w') := fun W0 h0 W hW => Ck s2 cu A2 c2 l2 z2 W (fq.below h2 (bg h0 hW))
 have ho1 : -1 ≤ lh z1 * lh z2 ∧ lh z1 * lh z2 ≤ 1 := by unfold lh; (repeat' split) <;> omega
 have Rj := h1.bounds
 have Ri := h2.bounds
 have hsz1 : l1.length = 0 → s1.natAbs = z1.natAbs ∧ z1.natAbs < Iq := fun h => by obtain ⟨e, _, e3⟩ := h1.zh h; rw [e]; exact ⟨rfl, e3⟩
 have hsz2 : l2.length = 0 → s2.natAbs = z2.natAbs ∧ z2.natAbs < Iq := fun h => by obtain ⟨e, _, e3⟩ := h2.zh h; rw [e]; exact ⟨rfl, e3⟩
 have Z1 := hide (fun W => Jd s1 Rj.1 Rj.2 W)
 have Z2 := hide (fun W => Jd s2 Ri.1 Ri.2 W)
 obtain ⟨m1, hm1⟩ : ∃ o, o = z1.natAbs := ⟨_, rfl⟩
 obtain ⟨m2, hm2⟩ : ∃ o, o = z2.natAbs := ⟨_, rfl⟩
 obtain ⟨o1, afx⟩ : ∃ o, o = lh z1 := ⟨_, rfl⟩
 obtain ⟨o2, afw⟩ : ∃ o, o = lh z2 := ⟨_, rfl⟩
 rw [← hm1] at B1 Pp hz hsz1
 rw [← hm2] at B2 Pp hz hsz2
 rw [← afx] at G1 hz ho1
 rw [← afw] at G2 hz ho1
 obtain ⟨op, hop⟩ : ∃ o, o = o1 * o2 := ⟨_, rfl⟩
 have e1 : IntKind.i64.wrap (o1 * o2) = op := by rw [hop]; exact IntWalk.i64_in _ om
 have e1' : wrap64 (o1 * o2) = op := by rw [hop]; exact IntWalk.wrap64_in _ om
 rw [← hop] at hz
 obtain ⟨ng, hng⟩ : ∃ b, b = decide (op < 0) := ⟨_, rfl⟩
 rw [← hng] at hz
 obtain ⟨Z, hZ⟩ : ∃ o, o = z1 * z2 := ⟨_, rfl⟩
 rw [← hZ] at hz ⊢
 have HZ := Lib.hid hz.symm
 have Cb := hide G1; have HG2 := hide G2; have HB1 := hide B1; have HB2 := hide B2; have HLEN := hide Pp
 have ngE := hng.symm
 clear hm1 hm2 afx afw ho1 hop hng hz hZ G1 G2 B1 B2 h1 h2 Rj Ri Pp hl1 hl2
 by_cases hs : l1.length = 0 ∧ l2.length = 0
 ·
  obtain ⟨a1, a2⟩ := hs
  rw [decide_eq_true a1] at nz
  rw [decide_eq_true a2] at HS2
  obtain ⟨y1, y2⟩ := hsz1 a1
  obtain ⟨y3, y4⟩ := hsz2 a2
  rw [y1] at Z1
  rw [y3] at Z2
  have hB1 : m1 < dm := by have := y2; rw [uq] at this; rw [gp]; omega
  have hB2 : m2 < dm := by have := y4; rw [uq] at this; rw [gp]; omega
  obtain ⟨hi', hhi⟩ : ∃ t, t = m1 * m2 / dm := ⟨_, rfl⟩
  obtain ⟨lo, hlo⟩ : ∃ t, t = m1 * m2 % dm := ⟨_, rfl⟩
  have hM := Tk m1 m2 hB1 hB2
  rw [← hhi, ← hlo] at hM
  have HM := hide hM
  have Im : lo < dm := by rw [hlo]; exact Nat.mod_lt _ (Nat.lt_trans Nat.zero_lt_one pz)
  have HW := hide (fun W => Qb ng lo Im W)
  have Bc : hi' = 0 → lo = m1 * m2 := fun h => by
   have := Nat.div_add_mod (m1 * m2) dm
   rw [← hhi, ← hlo, h] at this
   omega
  by_cases hh : hi' = 0
  ·
   have hb0 : ((hi' : Int) == 0) = true := beq_iff_eq.2 om
   have hW' : ∀ W, Calls Tryz.prog 185 #[.bool ng, .int .u64 ((lo : Nat) : Int)] W fun e w' => Bq W Z e w' := fun W => by
    have := (aa HW) W
    rw [Bc hh] at this ⊢
    rw [HZ.out]; exact this
   have HWW := hide hW'
   clear hW' HW Bc hh hlo hhi hM hB1 hB2 Im y1 y2 y3 y4 hsz1 hsz2 a1 a2
   go_enter Tryz.func147, Tryz.ntmps147
   go_wp2_with fail
   obtain ⟨n1, n2, n3, hsz, hw0⟩ := oh w (.cells #[.int .i64 s1, .bool cz, .slice A1 l1.length c1] 77) (.cells #[.int .i64 s2, .bool cu, .slice A2 l2.length c2] 77) (.cells #[.int .i64 0, .bool false, .slice none 0 0] 77)
   generalize (((w.alloc (.cells #[.int .i64 s1, .bool cz, .slice A1 l1.length c1] 77)).alloc (.cells #[.int .i64 s2, .bool cu, .slice A2 l2.length c2] 77)).alloc (.cells #[.int .i64 0, .bool false, .slice none 0 0] 77)) = W0 at *
   have k1 := ag n1 0
   have k2 := ag n1 1
   have k3 := ag n1 2
   simp only [Array.getElem?_eq_getElem, jd, jc, jb] at k1 k2 k3
   have k4 := ag n2 0
   have k5 := ag n2 1
   have k6 := ag n2 2
   simp only [Array.getElem?_eq_getElem, jd, jc, jb] at k4 k5 k6
   have q0 : w.heap.size < W0.heap.size := by omega
   have q1 : w.heap.size + 1 < W0.heap.size := by omega
   have q2 : w.heap.size + 1 + 1 < W0.heap.size := by omega
   have k7 := ag n3 0
   have k8 := ag n3 1
   have k9 := ag n3 2
   simp only [Array.getElem?_eq_getElem, jd, jc, jb] at k7 k8 k9
   have f7 := ai n3 0
   have f8 := ai n3 1
   have f9 := ai n3 2
   have N3 := Lib.hid n3
   clear n3
   clear n1 n2
   have G1 := (aa Cb) W0 hw0; have G2 := (aa HG2) W0 hw0; have B1 := (aa HB1) W0 hw0; have B2 := (aa HB2) W0 hw0
   go_region_held3 (fun w' => w'.cell? ⟨w.heap.size, 0, none⟩ = some (.int .i64 s1) ∧ w'.cell? ⟨w.heap.size, 1, none⟩ = some (.bool cz) ∧ w'.cell? ⟨w.heap.size, 2, none⟩ = some (.slice A1 l1.length c1) ∧ w'.cell? ⟨w.heap.size + 1, 0, none⟩ = some (.int .i64 s2) ∧ w'.cell? ⟨w.heap.size + 1, 1, none⟩ = some (.bool cu) ∧ w'.cell? ⟨w.heap.size + 1, 2, none⟩ = some (.slice A2 l2.length c2)) ((first | exact ⟨(hc _ _ q0).trans k1, (hc _ _ q0).trans k2, (hc _ _ q0).trans k3, (hc _ _ q1).trans k4, (hc _ _ q1).trans k5, (hc _ _ q1).trans k6⟩ | exact ⟨k1, k2, k3, k4, k5, k6⟩)) (first | (go_at_call_of 159 (Value.agg #[.int .i64 s1, .bool cz, .slice A1 l1.length c1]); refine ((aa G1) _ bem).mono ?_; rintro e w' ⟨rfl, hb⟩; have hbw := bz (w := W0) bem hb; obtain ⟨hc, hfz⟩ := dz hbw) | (go_at_call_of 159 (Value.agg #[.int .i64 s2, .bool cu, .slice A2 l2.length c2]); refine ((aa G2) _ bem).mono ?_; rintro e w' ⟨rfl, hb⟩; have hbw := bz (w := W0) bem hb; obtain ⟨hc, hfz⟩ := dz hbw))
   go_wp2_with fail
   refine ((aa nz) _).mono ?_
   rintro e w1 ⟨rfl, hw1⟩
   have tq := mo (w := W0) bem hw1
   obtain ⟨hc, hfz⟩ := dz tq
   clear hw1
   go_wp2_with fail
   refine ((aa HS2) _).mono ?_
   rintro e w2 ⟨rfl, hw2⟩
   have hbw2 := mo (w := W0) bem hw2
   obtain ⟨hc, hfz⟩ := dz hbw2
   clear hw2
   go_wp2_with fail
   go_region_held3 (fun w' => w'.cell? ⟨w.heap.size, 0, none⟩ = some (.int .i64 s1) ∧ w'.cell? ⟨w.heap.size, 1, none⟩ = some (.bool cz) ∧ w'.cell? ⟨w.heap.size, 2, none⟩ = some (.slice A1 l1.length c1) ∧ w'.cell? ⟨w.heap.size + 1, 0, none⟩ = some (.int .i64 s2) ∧ w'.cell? ⟨w.heap.size + 1, 1, none⟩ = some (.bool cu) ∧ w'.cell? ⟨w.heap.size + 1, 2, none⟩ = some (.slice A2 l2.length c2)) ((first | exact ⟨(hc _ _ q0).trans k1, (hc _ _ q0).trans k2, (hc _ _ q0).trans k3, (hc _ _ q1).trans k4, (hc _ _ q1).trans k5, (hc _ _ q1).trans k6⟩ | exact ⟨k1, k2, k3, k4, k5, k6⟩)) (first | (go_at_call_of 186 (Value.int .i64 s1); refine ((aa Z1) _).mono ?_; rintro e w' ⟨rfl, Kj⟩; subst Kj) | (go_at_call_of 186 (Value.int .i64 s2); refine ((aa Z2) _).mono ?_; rintro e w' ⟨rfl, Kj⟩; subst Kj) | (go_at_call 189; refine ((aa HM) _).mono ?_; rintro e w' ⟨rfl, Kj⟩; subst Kj))
   go_wp2_with fail
   refine ((aa HWW) _).mono ?_
   rintro e w' ⟨s, oz, A', cap', l', rfl, hf, hb⟩
   have hbw := bz (w := W0) bem hb
   obtain ⟨hc, hfz⟩ := dz hbw
   have hblk : w'.heap[w.heap.size + 1 + 1]? = some (.cells #[.int .i64 0, .bool false, .slice none 0 0] 77 (0, 0)) := (hbw.block _ q2).trans N3.out
   have jy := Lib.hid hblk
   have jh : Below w.heap.size w w' := bg hw0 hbw
   clear hblk
   go_wp2_with fail
   exact bodyPost_ret (v := .agg #[.int .i64 s, .bool oz, .slice A' l'.length cap']) (by simp [results, Tryz.results147, go_sem, hc, k7, k8, k9, q2]) rfl
    ⟨s, oz, A', cap', l', rfl, hf.upto jy.out (si _ _ _ _ _) (ik _ _ _ _ _), jh.grown (ik _ _ _ _ _) jh.size (fun k hk => by injection hk with hk; omega)⟩
  ·
   have hb0 : ((hi' : Int) == 0) = false := beq_eq_false_iff_ne.2 om
   clear HW Bc hh hlo hhi hM hB1 hB2 Im y1 y2 y3 y4 hsz1 hsz2 a1 a2
   go_enter Tryz.func147, Tryz.ntmps147
   go_wp2_with fail
   obtain ⟨n1, n2, n3, hsz, hw0⟩ := oh w (.cells #[.int .i64 s1, .bool cz, .slice A1 l1.length c1] 77) (.cells #[.int .i64 s2, .bool cu, .slice A2 l2.length c2] 77) (.cells #[.int .i64 0, .bool false, .slice none 0 0] 77)
   generalize (((w.alloc (.cells #[.int .i64 s1, .bool cz, .slice A1 l1.length c1] 77)).alloc (.cells #[.int .i64 s2, .bool cu, .slice A2 l2.length c2] 77)).alloc (.cells #[.int .i64 0, .bool false, .slice none 0 0] 77)) = W0 at *
   have k1 := ag n1 0
   have k2 := ag n1 1
   have k3 := ag n1 2
   simp only [Array.getElem?_eq_getElem, jd, jc, jb] at k1 k2 k3
   have k4 := ag n2 0
   have k5 := ag n2 1
   have k6 := ag n2 2
   simp only [Array.getElem?_eq_getElem, jd, jc, jb] at k4 k5 k6
   have q0 : w.heap.size < W0.heap.size := by omega
   have q1 : w.heap.size + 1 < W0.heap.size := by omega
   have q2 : w.heap.size + 1 + 1 < W0.heap.size := by omega
   have k7 := ag n3 0
   have k8 := ag n3 1
   have k9 := ag n3 2
   simp only [Array.getElem?_eq_getElem, jd, jc, jb] at k7 k8 k9
   have f7 := ai n3 0
   have f8 := ai n3 1
   have f9 := ai n3 2
   have N3 := Lib.hid n3
   clear n3
   clear n1 n2
   have G1 := (aa Cb) W0 hw0; have G2 := (aa HG2) W0 hw0; have B1 := (aa HB1) W0 hw0; have B2 := (aa HB2) W0 hw0
   go_region_held3 (fun w' => w'.cell? ⟨w.heap.size, 0, none⟩ = some (.int .i64 s1) ∧ w'.cell? ⟨w.heap.size, 1, none⟩ = some (.bool cz) ∧ w'.cell? ⟨w.heap.size, 2, none⟩ = some (.slice A1 l1.length c1) ∧ w'.cell? ⟨w.heap.size + 1, 0, none⟩ = some (.int .i64 s2) ∧ w'.cell? ⟨w.heap.size + 1, 1, none⟩ = some (.bool cu) ∧ w'.cell? ⟨w.heap.size + 1, 2, none⟩ = some (.slice A2 l2.length c2)) ((first | exact ⟨(hc _ _ q0).trans k1, (hc _ _ q0).trans k2, (hc _ _ q0).trans k3, (hc _ _ q1).trans k4, (hc _ _ q1).trans k5, (hc _ _ q1).trans k6⟩ | exact ⟨k1, k2, k3, k4, k5, k6⟩)) (first | (go_at_call_of 159 (Value.agg #[.int .i64 s1, .bool cz, .slice A1 l1.length c1]); refine ((aa G1) _ bem).mono ?_; rintro e w' ⟨rfl, hb⟩; have hbw := bz (w := W0) bem hb; obtain ⟨hc, hfz⟩ := dz hbw) | (go_at_call_of 159 (Value.agg #[.int .i64 s2, .bool cu, .slice A2 l2.length c2]); refine ((aa G2) _ bem).mono ?_; rintro e w' ⟨rfl, hb⟩; have hbw := bz (w := W0) bem hb; obtain ⟨hc, hfz⟩ := dz hbw))
   go_wp2_with fail
   refine ((aa nz) _).mono ?_
   rintro e w1 ⟨rfl, hw1⟩
   have tq := mo (w := W0) bem hw1
   obtain ⟨hc, hfz⟩ := dz tq
   clear hw1
   go_wp2_with fail
   refine ((aa HS2) _).mono ?_
   rintro e w2 ⟨rfl, hw2⟩
   have hbw2 := mo (w := W0) bem hw2
   obtain ⟨hc, hfz⟩ := dz hbw2
   clear hw2
   go_wp2_with fail
   go_region_held3 (fun w' => w'.cell? ⟨w.heap.size, 0, none⟩ = some (.int .i64 s1) ∧ w'.cell? ⟨w.heap.size, 1, none⟩ = some (.bool cz) ∧ w'.cell? ⟨w.heap.size, 2, none⟩ = some (.slice A1 l1.length c1) ∧ w'.cell? ⟨w.heap.size + 1, 0, none⟩ = some (.int .i64 s2) ∧ w'.cell? ⟨w.heap.size + 1, 1, none⟩ = some (.bool cu) ∧ w'.cell? ⟨w.heap.size + 1, 2, none⟩ = some (.slice A2 l2.length c2)) ((first | exact ⟨(hc _ _ q0).trans k1, (hc _ _ q0).trans k2, (hc _ _ q0).trans k3, (hc _ _ q1).trans k4, (hc _ _ q1).trans k5, (hc _ _ q1).trans k6⟩ | exact ⟨k1, k2, k3, k4, k5, k6⟩)) (first | (go_at_call_of 186 (Value.int .i64 s1); refine ((aa Z1) _).mono ?_; rintro e w' ⟨rfl, Kj⟩; subst Kj) | (go_at_call_of 186 (Value.int .i64 s2); refine ((aa Z2) _).mono ?_; rintro e w' ⟨rfl, Kj⟩; subst Kj) | (go_at_call 189; refine ((aa HM) _).mono ?_; rintro e w' ⟨rfl, Kj⟩; subst Kj))
   go_wp2_with fail
   go_region_with (first | (go_at_call_of 191 (Value.agg #[.int .i64 s1, .bool cz, .slice A1 l1.length c1]); refine ((aa B1) _ bem).mono ?_; rintro e w' ⟨A5, cap5, l5, rfl, xc, hb⟩; have hbw := bz (w := W0) bem hb; obtain ⟨hc, hfz⟩ := dz hbw) | (go_at_call_of 191 (Value.agg #[.int .i64 s2, .bool cu, .slice A2 l2.length c2]); refine ((aa B2) _ bem).mono ?_; rintro e w' ⟨A6, cap6, l6, rfl, mq, hb⟩; have jl := xc.below hb; have hbw := bz (w := W0) bem hb; obtain ⟨hc, hfz⟩ := dz hbw) | (go_at_call 192; refine (aal A5 A6 cap5 cap6 l5 l6 m1 m2 _ (by exact jl) (by exact mq) ((aa HLEN) _ _ _ _ _ _ _ jl mq)).mono ?_; rintro e w' ⟨A7, vv, l7, rfl, vo, hb⟩; have hbw := bz (w := W0) bem hb; obtain ⟨hc, hfz⟩ := dz hbw) | (go_at_call 190; refine (yg ng A7 vv l7 (m1 * m2) _ (by exact vo)).mono ?_; rw [← HZ.out]; rintro e w' ⟨s, oz, A', cap', l', rfl, hf, hb⟩; have hbw := bz (w := W0) bem hb; obtain ⟨hc, hfz⟩ := dz hbw))
   all_goals
    have hblk : w'.heap[w.heap.size + 1 + 1]? = some (.cells #[.int .i64 0, .bool false, .slice none 0 0] 77 (0, 0)) := (hbw.block _ q2).trans N3.out
    have jy := Lib.hid hblk
    have jh : Below w.heap.size w w' := bg hw0 hbw
    clear hblk
    go_wp2_with fail
    exact bodyPost_ret (v := .agg #[.int .i64 s, .bool oz, .slice A' l'.length cap']) (by simp [results, Tryz.results147, go_sem, hc, k7, k8, k9, q2]) rfl
     ⟨s, oz, A', cap', l', rfl, hf.upto jy.out (si _ _ _ _ _) (ik _ _ _ _ _), jh.grown (ik _ _ _ _ _) jh.size (fun k hk => by injection hk with hk; omega)⟩
 ·
  by_cases a1 : l1.length = 0
  ·
   have a2 : ¬ l2.length = 0 := fun h => hs ⟨a1, h⟩
   rw [decide_eq_true a1] at nz
   rw [decide_eq_false a2] at HS2
   clear hsz1 hsz2 hs a1 a2
   go_enter Tryz.func147, Tryz.ntmps147
   go_wp2_with fail
   obtain ⟨n1, n2, n3, hsz, hw0⟩ := oh w (.cells #[.int .i64 s1, .bool cz, .slice A1 l1.length c1] 77) (.cells #[.int .i64 s2, .bool cu, .slice A2 l2.length c2] 77) (.cells #[.int .i64 0, .bool false, .slice none 0 0] 77)
   generalize (((w.alloc (.cells #[.int .i64 s1, .bool cz, .slice A1 l1.length c1] 77)).alloc (.cells #[.int .i64 s2, .bool cu, .slice A2 l2.length c2] 77)).alloc (.cells #[.int .i64 0, .bool false, .slice none 0 0] 77)) = W0 at *
   have k1 := ag n1 0
   have k2 := ag n1 1
   have k3 := ag n1 2
   simp only [Array.getElem?_eq_getElem, jd, jc, jb] at k1 k2 k3
   have k4 := ag n2 0
   have k5 := ag n2 1
   have k6 := ag n2 2
   simp only [Array.getElem?_eq_getElem, jd, jc, jb] at k4 k5 k6
   have q0 : w.heap.size < W0.heap.size := by omega
   have q1 : w.heap.size + 1 < W0.heap.size := by omega
   have q2 : w.heap.size + 1 + 1 < W0.heap.size := by omega
   have k7 := ag n3 0
   have k8 := ag n3 1
   have k9 := ag n3 2
   simp only [Array.getElem?_eq_getElem, jd, jc, jb] at k7 k8 k9
   have f7 := ai n3 0
   have f8 := ai n3 1
   have f9 := ai n3 2
   have N3 := Lib.hid n3
   clear n3
   clear n1 n2
   have G1 := (aa Cb) W0 hw0; have G2 := (aa HG2) W0 hw0; have B1 := (aa HB1) W0 hw0; have B2 := (aa HB2) W0 hw0
   go_region_held3 (fun w' => w'.cell? ⟨w.heap.size, 0, none⟩ = some (.int .i64 s1) ∧ w'.cell? ⟨w.heap.size, 1, none⟩ = some (.bool cz) ∧ w'.cell? ⟨w.heap.size, 2, none⟩ = some (.slice A1 l1.length c1) ∧ w'.cell? ⟨w.heap.size + 1, 0, none⟩ = some (.int .i64 s2) ∧ w'.cell? ⟨w.heap.size + 1, 1, none⟩ = some (.bool cu) ∧ w'.cell? ⟨w.heap.size + 1, 2, none⟩ = some (.slice A2 l2.length c2)) ((first | exact ⟨(hc _ _ q0).trans k1, (hc _ _ q0).trans k2, (hc _ _ q0).trans k3, (hc _ _ q1).trans k4, (hc _ _ q1).trans k5, (hc _ _ q1).trans k6⟩ | exact ⟨k1, k2, k3, k4, k5, k6⟩)) (first | (go_at_call_of 159 (Value.agg #[.int .i64 s1, .bool cz, .slice A1 l1.length c1]); refine ((aa G1) _ bem).mono ?_; rintro e w' ⟨rfl, hb⟩; have hbw := bz (w := W0) bem hb; obtain ⟨hc, hfz⟩ := dz hbw) | (go_at_call_of 159 (Value.agg #[.int .i64 s2, .bool cu, .slice A2 l2.length c2]); refine ((aa G2) _ bem).mono ?_; rintro e w' ⟨rfl, hb⟩; have hbw := bz (w := W0) bem hb; obtain ⟨hc, hfz⟩ := dz hbw))
   go_wp2_with fail
   refine ((aa nz) _).mono ?_
   rintro e w1 ⟨rfl, hw1⟩
   have tq := mo (w := W0) bem hw1
   obtain ⟨hc, hfz⟩ := dz tq
   clear hw1
   go_wp2_with fail
   refine ((aa HS2) _).mono ?_
   rintro e w2 ⟨rfl, hw2⟩
   have hbw2 := mo (w := W0) bem hw2
   obtain ⟨hc, hfz⟩ := dz hbw2
   clear hw2
   go_wp2_with fail
   go_region_with (first | (go_at_call_of 191 (Value.agg #[.int .i64 s1, .bool cz, .slice A1 l1.length c1]); refine ((aa B1) _ bem).mono ?_; rintro e w' ⟨A5, cap5, l5, rfl, xc, hb⟩; have hbw := bz (w := W0) bem hb; obtain ⟨hc, hfz⟩ := dz hbw) | (go_at_call_of 191 (Value.agg #[.int .i64 s2, .bool cu, .slice A2 l2.length c2]); refine ((aa B2) _ bem).mono ?_; rintro e w' ⟨A6, cap6, l6, rfl, mq, hb⟩; have jl := xc.below hb; have hbw := bz (w := W0) bem hb; obtain ⟨hc, hfz⟩ := dz hbw) | (go_at_call 192; refine (aal A5 A6 cap5 cap6 l5 l6 m1 m2 _ (by exact jl) (by exact mq) ((aa HLEN) _ _ _ _ _ _ _ jl mq)).mono ?_; rintro e w' ⟨A7, vv, l7, rfl, vo, hb⟩; have hbw := bz (w := W0) bem hb; obtain ⟨hc, hfz⟩ := dz hbw) | (go_at_call 190; refine (yg ng A7 vv l7 (m1 * m2) _ (by exact vo)).mono ?_; rw [← HZ.out]; rintro e w' ⟨s, oz, A', cap', l', rfl, hf, hb⟩; have hbw := bz (w := W0) bem hb; obtain ⟨hc, hfz⟩ := dz hbw))
   all_goals
    have hblk : w'.heap[w.heap.size + 1 + 1]? = some (.cells #[.int .i64 0, .bool false, .slice none 0 0] 77 (0, 0)) := (hbw.block _ q2).trans N3.out
    have jy := Lib.hid hblk
    have jh : Below w.heap.size w w' := bg hw0 hbw
    clear hblk
    go_wp2_with fail
    exact bodyPost_ret (v := .agg #[.int .i64 s, .bool oz, .slice A' l'.length cap']) (by simp [results, Tryz.results147, go_sem, hc, k7, k8, k9, q2]) rfl
     ⟨s, oz, A', cap', l', rfl, hf.upto jy.out (si _ _ _ _ _) (ik _ _ _ _ _), jh.grown (ik _ _ _ _ _) jh.size (fun k hk => by injection hk with hk; omega)⟩
  ·
   skip
   rw [decide_eq_false a1] at nz
   clear hsz1 hsz2 hs a1
   go_enter Tryz.func147, Tryz.ntmps147
   go_wp2_with fail
   obtain ⟨n1, n2, n3, hsz, hw0⟩ := oh w (.cells #[.int .i64 s1, .bool cz, .slice A1 l1.length c1] 77) (.cells #[.int .i64 s2, .bool cu, .slice A2 l2.length c2] 77) (.cells #[.int .i64 0, .bool false, .slice none 0 0] 77)
   generalize (((w.alloc (.cells #[.int .i64 s1, .bool cz, .slice A1 l1.length c1] 77)).alloc (.cells #[.int .i64 s2, .bool cu, .slice A2 l2.length c2] 77)).alloc (.cells #[.int .i64 0, .bool false, .slice none 0 0] 77)) = W0 at *
   have k1 := ag n1 0
   have k2 := ag n1 1
   have k3 := ag n1 2
   simp only [Array.getElem?_eq_getElem, jd, jc, jb] at k1 k2 k3
   have k4 := ag n2 0
   have k5 := ag n2 1
   have k6 := ag n2 2
   simp only [Array.getElem?_eq_getElem, jd, jc, jb] at k4 k5 k6
   have q0 : w.heap.size < W0.heap.size := by omega
   have q1 : w.heap.size + 1 < W0.heap.size := by omega
   have q2 : w.heap.size + 1 + 1 < W0.heap.size := by omega
   have k7 := ag n3 0
   have k8 := ag n3 1
   have k9 := ag n3 2
   simp only [Array.getElem?_eq_getElem, jd, jc, jb] at k7 k8 k9
   have f7 := ai n3 0
   have f8 := ai n3 1
   have f9 := ai n3 2
   have N3 := Lib.hid n3
   clear n3
   clear n1 n2
   have G1 := (aa Cb) W0 hw0; have G2 := (aa HG2) W0 hw0; have B1 := (aa HB1) W0 hw0; have B2 := (aa HB2) W0 hw0
   go_region_held3 (fun w' => w'.cell? ⟨w.heap.size, 0, none⟩ = some (.int .i64 s1) ∧ w'.cell? ⟨w.heap.size, 1, none⟩ = some (.bool cz) ∧ w'.cell? ⟨w.heap.size, 2, none⟩ = some (.slice A1 l1.length c1) ∧ w'.cell? ⟨w.heap.size + 1, 0, none⟩ = some (.int .i64 s2) ∧ w'.cell? ⟨w.heap.size + 1, 1, none⟩ = some (.bool cu) ∧ w'.cell? ⟨w.heap.size + 1, 2, none⟩ = some (.slice A2 l2.length c2)) ((first | exact ⟨(hc _ _ q0).trans k1, (hc _ _ q0).trans k2, (hc _ _ q0).trans k3, (hc _ _ q1).trans k4, (hc _ _ q1).trans k5, (hc _ _ q1).trans k6⟩ | exact ⟨k1, k2, k3, k4, k5, k6⟩)) (first | (go_at_call_of 159 (Value.agg #[.int .i64 s1, .bool cz, .slice A1 l1.length c1]); refine ((aa G1) _ bem).mono ?_; rintro e w' ⟨rfl, hb⟩; have hbw := bz (w := W0) bem hb; obtain ⟨hc, hfz⟩ := dz hbw) | (go_at_call_of 159 (Value.agg #[.int .i64 s2, .bool cu, .slice A2 l2.length c2]); refine ((aa G2) _ bem).mono ?_; rintro e w' ⟨rfl, hb⟩; have hbw := bz (w := W0) bem hb; obtain ⟨hc, hfz⟩ := dz hbw))
   go_wp2_with fail
   refine ((aa nz) _).mono ?_
   rintro e w1 ⟨rfl, hw1⟩
   have tq := mo (w := W0) bem hw1
   obtain ⟨hc, hfz⟩ := dz tq
   clear hw1
   go_wp2_with fail
   go_region_with (first | (go_at_call_of 191 (Value.agg #[.int .i64 s1, .bool cz, .slice A1 l1.length c1]); refine ((aa B1) _ bem).mono ?_; rintro e w' ⟨A5, cap5, l5, rfl, xc, hb⟩; have hbw := bz (w := W0) bem hb; obtain ⟨hc, hfz⟩ := dz hbw) | (go_at_call_of 191 (Value.agg #[.int .i64 s2, .bool cu, .slice A2 l2.length c2]); refine ((aa B2) _ bem).mono ?_; rintro e w' ⟨A6, cap6, l6, rfl, mq, hb⟩; have jl := xc.below hb; have hbw := bz (w := W0) bem hb; obtain ⟨hc, hfz⟩ := dz hbw) | (go_at_call 192; refine (aal A5 A6 cap5 cap6 l5 l6 m1 m2 _ (by exact jl) (by exact mq) ((aa HLEN) _ _ _ _ _ _ _ jl mq)).mono ?_; rintro e w' ⟨A7, vv, l7, rfl, vo, hb⟩; have hbw := bz (w := W0) bem hb; obtain ⟨hc, hfz⟩ := dz hbw) | (go_at_call 190; refine (yg ng A7 vv l7 (m1 * m2) _ (by exact vo)).mono ?_; rw [← HZ.out]; rintro e w' ⟨s, oz, A', cap', l', rfl, hf, hb⟩; have hbw := bz (w := W0) bem hb; obtain ⟨hc, hfz⟩ := dz hbw))
   all_goals
    have hblk : w'.heap[w.heap.size + 1 + 1]? = some (.cells #[.int .i64 0, .bool false, .slice none 0 0] 77 (0, 0)) := (hbw.block _ q2).trans N3.out
    have jy := Lib.hid hblk
    have jh : Below w.heap.size w w' := bg hw0 hbw
    clear hblk
    go_wp2_with fail
    exact bodyPost_ret (v := .agg #[.int .i64 s, .bool oz, .slice A' l'.length cap']) (by simp [results, Tryz.results147, go_sem, hc, k7, k8, k9, q2]) rfl
     ⟨s, oz, A', cap', l', rfl, hf.upto jy.out (si _ _ _ _ _) (ik _ _ _ _ _), jh.grown (ik _ _ _ _ _) jh.size (fun k hk => by injection hk with hk; omega)⟩


structure Fr (Wp W : World) (b : Nat) : Prop where
 old : Wp.heap.size ≤ b
 zero : W.heap[b]? = some (.cells #[.int .i64 0, .bool false, .slice none 0 0] 77 (0, 0))
theorem lt_of_block {W : World} {b : Nat} {o : Obj} (h : W.heap[b]? = some o) : b < W.heap.size := by
 rcases Nat.lt_or_ge b W.heap.size with hlt | hge
 ·
  exact hlt
 ·
  rw [Array.getElem?_eq_none hge] at h; cases h
theorem Fr.lt {Wp W : World} {b : Nat} (h : Fr Wp W b) : b < W.heap.size := lt_of_block h.zero
theorem Fr.drew {Wp W : World} {b : Nat} (h : Fr Wp W b) : Fr Wp W.drew b := ⟨h.old, h.zero⟩
theorem Fr.drewN {Wp W : World} {b : Nat} {n : Nat} (h : Fr Wp W b) : Fr Wp (W.drewN n) b := ⟨h.old, h.zero⟩
theorem Fr.below {Wp W w' : World} {b : Nat} (h : Fr Wp W b) (hb : Below W.heap.size W w') : Fr Wp w' b := ⟨h.old, (hb.block _ h.lt).trans h.zero⟩
theorem Fr.new {Wp W : World} {b : Nat} (hb : Below Wp.heap.size Wp W) (e : b = W.heap.size) : Fr Wp (W.alloc (.cells #[.int .i64 0, .bool false, .slice none 0 0] 77 (0, 0))) b := by
 subst e; exact ⟨hb.size, heap_alloc_new W _⟩
structure Zw (Wp W : World) (b c : Nat) : Prop where
 one : Fr Wp W b
 two : Fr Wp W c
 ne : b ≠ c
theorem Zw.drew {Wp W : World} {b c : Nat} (h : Zw Wp W b c) : Zw Wp W.drew b c := ⟨h.one.drew, h.two.drew, h.ne⟩
theorem Zw.drewN {Wp W : World} {b c n : Nat} (h : Zw Wp W b c) : Zw Wp (W.drewN n) b c := ⟨h.one.drewN, h.two.drewN, h.ne⟩
theorem Zw.below {Wp W w' : World} {b c : Nat} (h : Zw Wp W b c) (hb : Below W.heap.size W w') : Zw Wp w' b c := ⟨h.one.below hb, h.two.below hb, h.ne⟩
def Dn (w : World) (b : Nat) (z : Int) : Prop := ∃ s neg A cap l, w.heap[b]? = some (.cells #[.int .i64 s, .bool neg, .slice A (List.length l) cap] 77 (0, 0)) ∧ fq w s neg A cap l z
theorem Dn.below {w w' : World} {b : Nat} {z : Int} (h : Dn w b z) (hb : Below w.heap.size w w') : Dn w' b z := by
 obtain ⟨s, neg, A, cap, l, h1, h2⟩ := h
 exact ⟨s, neg, A, cap, l, (hb.block _ (lt_of_block h1)).trans h1, h2.below hb⟩
theorem Qi {W : World} {b : Nat} {a0 a1 u0 u1 : Value} {T : TypeId} (h : W.heap[b]? = some (.cells #[a0, a1] T (0, 0))) : ((W.setCell ⟨b, 0, none⟩ u0).setCell ⟨b, 1, none⟩ u1).heap[b]? = some (.cells #[u0, u1] T (0, 0)) := by
 simp [World.setCell, Array.getElem?_modify, h]
theorem Yf {W : World} {b : Nat} {a0 a1 a2 u0 u1 u2 : Value} {T : TypeId} (h : W.heap[b]? = some (.cells #[a0, a1, a2] T (0, 0))) : (((W.setCell ⟨b, 0, none⟩ u0).setCell ⟨b, 1, none⟩ u1).setCell ⟨b, 2, none⟩ u2).heap[b]? = some (.cells #[u0, u1, u2] T (0, 0)) := by
 simp [World.setCell, Array.getElem?_modify, h]
theorem Dn.new {W : World} {b : Nat} {s1 : Int} {cz : Bool} {A1 : Option Addr} {c1 : Nat} {l1 : List Nat} {z1 : Int} (h1 : fq W s1 cz A1 c1 l1 z1) (e : b = W.heap.size) : Dn (W.alloc (.cells #[.int .i64 s1, .bool cz, .slice A1 l1.length c1] 77)) b z1 := by
 subst e; exact ⟨s1, cz, A1, c1, l1, heap_alloc_new W _, h1.below ((Below.refl _ _).alloc (Nat.le_refl _) _)⟩
theorem Dn.alloc {W : World} {b : Nat} {z : Int} {o : Obj} (h : Dn W b z) : Dn (W.alloc o) b z := h.below ((Below.refl _ _).alloc (Nat.le_refl _) _)
theorem fq.alloc {W : World} {o : Obj} {s1 : Int} {cz : Bool} {A1 : Option Addr} {c1 : Nat} {l1 : List Nat} {z1 : Int} (h1 : fq W s1 cz A1 c1 l1 z1) : fq (W.alloc o) s1 cz A1 c1 l1 z1 := h1.below ((Below.refl _ _).alloc (Nat.le_refl _) _)
theorem Fr.alloc {Wp W : World} {b : Nat} {o : Obj} (h : Fr Wp W b) : Fr Wp (W.alloc o) b := ⟨h.old, (Below.heap_alloc W _ b h.lt).trans h.zero⟩
theorem awx {Wp W : World} {b : Nat} {s1 : Int} {cz : Bool} {A1 : Option Addr} {c1 : Nat} {l1 : List Nat} {z1 : Int} (h1 : fq W s1 cz A1 c1 l1 z1) (hb : Below Wp.heap.size Wp W) (e : b = W.heap.size) :
  Dn (W.alloc (.cells #[.int .i64 s1, .bool cz, .slice A1 l1.length c1] 77)) b z1 ∧ Below Wp.heap.size Wp (W.alloc (.cells #[.int .i64 s1, .bool cz, .slice A1 l1.length c1] 77)) ∧ Wp.heap.size ≤ b :=
 ⟨Dn.new h1 e, hb.alloc hb.size _, by have := hb.size; omega⟩
theorem gy {W W' : World} (h : Below W.heap.size W W') (o : Obj) : Below W.heap.size W (W'.alloc o) := h.alloc h.size o
theorem bel {P : Prop} (h : P := by (repeat (first | with_reducible exact Below.refl _ _ | with_reducible assumption | with_reducible refine Below.drew ?_ | with_reducible refine gy ?_ _))) : P := h
theorem fw {W W' : World} {b o : Nat} {v : Value} (hB : Below W.heap.size W W') (q : b < W.heap.size) (k : W.cell? ⟨b, o, none⟩ = some v) : W'.cell? ⟨b, o, none⟩ = some v := (hB.cell (p := ⟨b, o, none⟩) q).trans k
theorem acg {W W' : World} {g : Nat} (hB : Below W.heap.size W W') (hg : W.heap.size ≤ g) (o : Nat) (u : Value) : Below W.heap.size W (W'.setCell ⟨g, o, none⟩ u) :=
 hB.grown (ll (qo _ (some g)) o u) hB.size (fun k hk => by injection hk with hk; omega)
def Bl (w : World) (F : Nat) (a b c : Int) : Prop := ∀ (s1 : Int) (cz : Bool) (A1 : Option Addr) (c1 : Nat) (l1 : List Nat) (s2 : Int) (cu : Bool) (A2 : Option Addr) (c2 : Nat) (l2 : List Nat) (W : World), Below w.heap.size w W → fq W s1 cz A1 c1 l1 a → fq W s2 cu A2 c2 l2 b → Calls Tryz.prog F #[(Value.agg #[.int .i64 s1, .bool cz, .slice A1 l1.length c1]), (Value.agg #[.int .i64 s2, .bool cu, .slice A2 l2.length c2])] W fun e w' => Bq W c e w'
theorem Oy {w : World} {a b c : Int} {K : Nat} (hT : qm w) (ha : Wd.Sz dm K a) (hb : Wd.Sz dm K b) (hK : K ≤ lim) (e : c = ((a.natAbs.gcd b.natAbs : Nat) : Int)) : Bl w 164 a b c := by
 subst e
 exact fun s1 cz A1 c1 l1 s2 cu A2 c2 l2 W hW f1 f2 => aue s1 cz A1 c1 l1 a s2 cu A2 c2 l2 b W f1 f2 (f1.fit ha hK) (f2.fit hb hK) (hT.below hW)
theorem Ed {w : World} {a b c : Int} {K : Nat} (ha : Wd.Sz dm K a) (hb : Wd.Sz dm K b) (hK : K ≤ lim) (h0 : b ≠ 0) (e : c = a.tdiv b) : Bl w 165 a b c := by
 subst e
 exact fun s1 cz A1 c1 l1 s2 cu A2 c2 l2 W hW f1 f2 => auc s1 cz A1 c1 l1 a s2 cu A2 c2 l2 b W f1 f2 (f1.fit ha hK) (f2.fit hb hK) h0
theorem Ka {w : World} {a b c : Int} {K : Nat} (ha : Wd.Sz dm K a) (hb : Wd.Sz dm K b) (hK : K ≤ lim) (e : c = a * b) : Bl w 147 a b c := by
 subst e
 exact fun s1 cz A1 c1 l1 s2 cu A2 c2 l2 W hW f1 f2 => Xh s1 cz A1 c1 l1 a s2 cu A2 c2 l2 b W f1 f2 (f1.fit ha hK) (f2.fit hb hK)
theorem bdf {w : World} {a b c : Int} {K : Nat} (ha : Wd.Sz dm K a) (hb : Wd.Sz dm K b) (hK : K ≤ lim) (e : c = a + b) : Bl w 166 a b c := by
 subst e
 exact fun s1 cz A1 c1 l1 s2 cu A2 c2 l2 W hW f1 f2 => afo s1 cz A1 c1 l1 a s2 cu A2 c2 l2 b W f1 f2 (f1.fit ha hK) (f2.fit hb hK)


theorem aek (s1 : Int) (cz : Bool) (A1 : Option Addr) (c1 : Nat) (l1 : List Nat) (z1 : Int) (s2 : Int) (cu : Bool) (A2 : Option Addr) (c2 : Nat) (l2 : List Nat) (z2 : Int) (w : World) (h1 : fq w s1 cz A1 c1 l1 z1) (h2 : fq w s2 cu A2 c2 l2 z2) :
  Calls Tryz.prog 88 #[(Value.agg #[.int .i64 s1, .bool cz, .slice A1 l1.length c1, .int .i64 s2, .bool cu, .slice A2 l2.length c2])] w fun e w' => Gf w (-z1) z2 e w' := by
 have H1 := hide h1
 have H2 := hide h2
 clear h1 h2
 go_enter Tryz.func88, Tryz.ntmps88
 go_wp2_with fail
 obtain ⟨n0, n1, hsz, hw0⟩ := qw w (.cells #[.int .i64 s1, .bool cz, .slice A1 l1.length c1, .int .i64 s2, .bool cu, .slice A2 l2.length c2] 79) (.cells #[.int .i64 0, .bool false, .slice none 0 0, .int .i64 0, .bool false, .slice none 0 0] 79)
 generalize ((w.alloc (.cells #[.int .i64 s1, .bool cz, .slice A1 l1.length c1, .int .i64 s2, .bool cu, .slice A2 l2.length c2] 79)).alloc (.cells #[.int .i64 0, .bool false, .slice none 0 0, .int .i64 0, .bool false, .slice none 0 0] 79)) = W0 at *
 have uh : W0.cell? ⟨w.heap.size, 0, none⟩ = some (.int .i64 s1) := ag n0 0
 have ug : W0.cell? ⟨w.heap.size, 1, none⟩ = some (.bool cz) := ag n0 1
 have yz : W0.cell? ⟨w.heap.size, 2, none⟩ = some (.slice A1 l1.length c1) := ag n0 2
 have Aw : W0.cell? ⟨w.heap.size, 3, none⟩ = some (.int .i64 s2) := ag n0 3
 have Ci : W0.cell? ⟨w.heap.size, 4, none⟩ = some (.bool cu) := ag n0 4
 have Ch : W0.cell? ⟨w.heap.size, 5, none⟩ = some (.slice A2 l2.length c2) := ag n0 5
 have q0 : w.heap.size < W0.heap.size := by omega
 have xu : W0.cell? ⟨w.heap.size + 1, 0, none⟩ = some (.int .i64 0) := ag n1 0
 have xq : W0.cell? ⟨w.heap.size + 1, 1, none⟩ = some (.bool false) := ag n1 1
 have Dw : W0.cell? ⟨w.heap.size + 1, 2, none⟩ = some (.slice none 0 0) := ag n1 2
 have Mk : W0.cell? ⟨w.heap.size + 1, 3, none⟩ = some (.int .i64 0) := ag n1 3
 have Ra : W0.cell? ⟨w.heap.size + 1, 4, none⟩ = some (.bool false) := ag n1 4
 have Qz : W0.cell? ⟨w.heap.size + 1, 5, none⟩ = some (.slice none 0 0) := ag n1 5
 have q1 : w.heap.size + 1 < W0.heap.size := by omega
 have Mw := ai n1 0
 have Mv := ai n1 1
 have amt := ai n1 2
 have ams := ai n1 3
 have avg := ai n1 4
 have avf := ai n1 5
 have NR := Lib.hid n1
 clear n0 n1
 go_region_held3 (fun w' => w'.cell? ⟨w.heap.size, 0, none⟩ = some (.int .i64 s1) ∧ w'.cell? ⟨w.heap.size, 1, none⟩ = some (.bool cz) ∧ w'.cell? ⟨w.heap.size, 2, none⟩ = some (.slice A1 l1.length c1) ∧ w'.cell? ⟨w.heap.size, 3, none⟩ = some (.int .i64 s2) ∧ w'.cell? ⟨w.heap.size, 4, none⟩ = some (.bool cu) ∧ w'.cell? ⟨w.heap.size, 5, none⟩ = some (.slice A2 l2.length c2)) ((first | with_reducible exact ⟨(hc _ _ q0).trans uh, (hc _ _ q0).trans ug, (hc _ _ q0).trans yz, (hc _ _ q0).trans Aw, (hc _ _ q0).trans Ci, (hc _ _ q0).trans Ch⟩ | with_reducible exact ⟨uh, ug, yz, Aw, Ci, Ch⟩ | with_reducible exact ⟨(jg _ _ _ _ _ _ _ _ om).trans ((hc _ _ q0).trans uh), (jg _ _ _ _ _ _ _ _ om).trans ((hc _ _ q0).trans ug), (jg _ _ _ _ _ _ _ _ om).trans ((hc _ _ q0).trans yz), (jg _ _ _ _ _ _ _ _ om).trans ((hc _ _ q0).trans Aw), (jg _ _ _ _ _ _ _ _ om).trans ((hc _ _ q0).trans Ci), (jg _ _ _ _ _ _ _ _ om).trans ((hc _ _ q0).trans Ch)⟩ | exact ⟨(hc _ _ q0).trans uh, (hc _ _ q0).trans ug, (hc _ _ q0).trans yz, (hc _ _ q0).trans Aw, (hc _ _ q0).trans Ci, (hc _ _ q0).trans Ch⟩ | exact ⟨uh, ug, yz, Aw, Ci, Ch⟩ | exact ⟨(jg _ _ _ _ _ _ _ _ om).trans ((hc _ _ q0).trans uh), (jg _ _ _ _ _ _ _ _ om).trans ((hc _ _ q0).trans ug), (jg _ _ _ _ _ _ _ _ om).trans ((hc _ _ q0).trans yz), (jg _ _ _ _ _ _ _ _ om).trans ((hc _ _ q0).trans Aw), (jg _ _ _ _ _ _ _ _ om).trans ((hc _ _ q0).trans Ci), (jg _ _ _ _ _ _ _ _ om).trans ((hc _ _ q0).trans Ch)⟩)) (first | (go_at_call_of 160 (Value.agg #[.int .i64 s1, .bool cz, .slice A1 l1.length c1]); refine (Vd s1 cz A1 c1 l1 z1 _ (by exact (aa H1).below (bg hw0 bem))).mono ?_; rintro e w' ⟨s5, qa, A5, c5, l5, rfl, xg, hb⟩; have hbw := bz (w := W0) bem hb; obtain ⟨hc, hfz⟩ := dz hbw))
 have hblk : w'.heap[w.heap.size + 1]? = some (.cells #[.int .i64 0, .bool false, .slice none 0 0, .int .i64 0, .bool false, .slice none 0 0] 79 (0, 0)) := (hbw.block _ q1).trans NR.out
 have jy := Lib.hid hblk
 have jh : Below w.heap.size w w' := bg hw0 hbw
 clear hblk
 go_wp2_with fail
 exact bodyPost_ret (v := (Value.agg #[.int .i64 s5, .bool qa, .slice A5 l5.length c5, .int .i64 s2, .bool cu, .slice A2 l2.length c2])) (by simp [results, Tryz.results88, go_sem, hc, xu, xq, Dw, Mk, Ra, Qz, q1]) rfl
  ⟨s5, qa, A5, c5, l5, s2, cu, A2, c2, l2, rfl, (xg).upto jy.out (tu _ _ _ _ _ _ _ _ _ _) (jw _ _ _ _ _ _ _ _), ((aa H2).below (bg hw0 hbw)).upto jy.out (tu _ _ _ _ _ _ _ _ _ _) (jw _ _ _ _ _ _ _ _), jh.grown (jw _ _ _ _ _ _ _ _) jh.size (fun k hk => by injection hk with hk; omega)⟩


theorem ati (s1 : Int) (cz : Bool) (A1 : Option Addr) (c1 : Nat) (l1 : List Nat) (z1 : Int) (s2 : Int) (cu : Bool) (A2 : Option Addr) (c2 : Nat) (l2 : List Nat) (z2 : Int) (w : World) (h1 : fq w s1 cz A1 c1 l1 z1) (h2 : fq w s2 cu A2 c2 l2 z2) (hz : z1 < 0) :
  Calls Tryz.prog 94 #[(Value.agg #[.int .i64 s1, .bool cz, .slice A1 l1.length c1, .int .i64 s2, .bool cu, .slice A2 l2.length c2])] w fun e w' => Gf w (-z2) (-z1) e w' := by
 have hs : decide (lh z1 < 0) = true := decide_eq_true (by rw [Ht]; exact hz)
 obtain ⟨o1, ho1⟩ : ∃ o, o = lh z1 := ⟨_, rfl⟩
 have HS : Hid (∀ W, Below w.heap.size w W → Calls Tryz.prog 159 #[(Value.agg #[.int .i64 s1, .bool cz, .slice A1 l1.length c1])] W fun e w' => e = .returned (.int .i64 o1) ∧ Below W.heap.size W w') := by rw [ho1]; exact fun W hW => ve s1 cz A1 c1 l1 z1 W (h1.below hW)
 rw [← ho1] at hs
 clear ho1 hz
 have H1 := hide h1
 have H2 := hide h2
 clear h1 h2
 go_enter Tryz.func94, Tryz.ntmps94
 go_wp2_with fail
 obtain ⟨n0, n1, hsz, hw0⟩ := qw w (.cells #[.int .i64 s1, .bool cz, .slice A1 l1.length c1, .int .i64 s2, .bool cu, .slice A2 l2.length c2] 79) (.cells #[.int .i64 0, .bool false, .slice none 0 0, .int .i64 0, .bool false, .slice none 0 0] 79)
 generalize ((w.alloc (.cells #[.int .i64 s1, .bool cz, .slice A1 l1.length c1, .int .i64 s2, .bool cu, .slice A2 l2.length c2] 79)).alloc (.cells #[.int .i64 0, .bool false, .slice none 0 0, .int .i64 0, .bool false, .slice none 0 0] 79)) = W0 at *
 have uh : W0.cell? ⟨w.heap.size, 0, none⟩ = some (.int .i64 s1) := ag n0 0
 have ug : W0.cell? ⟨w.heap.size, 1, none⟩ = some (.bool cz) := ag n0 1
 have yz : W0.cell? ⟨w.heap.size, 2, none⟩ = some (.slice A1 l1.length c1) := ag n0 2
 have Aw : W0.cell? ⟨w.heap.size, 3, none⟩ = some (.int .i64 s2) := ag n0 3
 have Ci : W0.cell? ⟨w.heap.size, 4, none⟩ = some (.bool cu) := ag n0 4
 have Ch : W0.cell? ⟨w.heap.size, 5, none⟩ = some (.slice A2 l2.length c2) := ag n0 5
 have q0 : w.heap.size < W0.heap.size := by omega
 have xu : W0.cell? ⟨w.heap.size + 1, 0, none⟩ = some (.int .i64 0) := ag n1 0
 have xq : W0.cell? ⟨w.heap.size + 1, 1, none⟩ = some (.bool false) := ag n1 1
 have Dw : W0.cell? ⟨w.heap.size + 1, 2, none⟩ = some (.slice none 0 0) := ag n1 2
 have Mk : W0.cell? ⟨w.heap.size + 1, 3, none⟩ = some (.int .i64 0) := ag n1 3
 have Ra : W0.cell? ⟨w.heap.size + 1, 4, none⟩ = some (.bool false) := ag n1 4
 have Qz : W0.cell? ⟨w.heap.size + 1, 5, none⟩ = some (.slice none 0 0) := ag n1 5
 have q1 : w.heap.size + 1 < W0.heap.size := by omega
 have Mw := ai n1 0
 have Mv := ai n1 1
 have amt := ai n1 2
 have ams := ai n1 3
 have avg := ai n1 4
 have avf := ai n1 5
 have NR := Lib.hid n1
 clear n0 n1
 refine ((aa HS) _ (bg hw0 bem)).mono ?_
 rintro e w' ⟨rfl, hb⟩
 have hbw := bz (w := W0) bem hb; obtain ⟨hc, hfz⟩ := dz hbw
 go_wp2_with fail
 go_region_held3 (fun w' => w'.cell? ⟨w.heap.size, 0, none⟩ = some (.int .i64 s1) ∧ w'.cell? ⟨w.heap.size, 1, none⟩ = some (.bool cz) ∧ w'.cell? ⟨w.heap.size, 2, none⟩ = some (.slice A1 l1.length c1) ∧ w'.cell? ⟨w.heap.size, 3, none⟩ = some (.int .i64 s2) ∧ w'.cell? ⟨w.heap.size, 4, none⟩ = some (.bool cu) ∧ w'.cell? ⟨w.heap.size, 5, none⟩ = some (.slice A2 l2.length c2)) ((first | with_reducible exact ⟨(hc _ _ q0).trans uh, (hc _ _ q0).trans ug, (hc _ _ q0).trans yz, (hc _ _ q0).trans Aw, (hc _ _ q0).trans Ci, (hc _ _ q0).trans Ch⟩ | with_reducible exact ⟨uh, ug, yz, Aw, Ci, Ch⟩ | with_reducible exact ⟨(jg _ _ _ _ _ _ _ _ om).trans ((hc _ _ q0).trans uh), (jg _ _ _ _ _ _ _ _ om).trans ((hc _ _ q0).trans ug), (jg _ _ _ _ _ _ _ _ om).trans ((hc _ _ q0).trans yz), (jg _ _ _ _ _ _ _ _ om).trans ((hc _ _ q0).trans Aw), (jg _ _ _ _ _ _ _ _ om).trans ((hc _ _ q0).trans Ci), (jg _ _ _ _ _ _ _ _ om).trans ((hc _ _ q0).trans Ch)⟩ | exact ⟨(hc _ _ q0).trans uh, (hc _ _ q0).trans ug, (hc _ _ q0).trans yz, (hc _ _ q0).trans Aw, (hc _ _ q0).trans Ci, (hc _ _ q0).trans Ch⟩ | exact ⟨uh, ug, yz, Aw, Ci, Ch⟩ | exact ⟨(jg _ _ _ _ _ _ _ _ om).trans ((hc _ _ q0).trans uh), (jg _ _ _ _ _ _ _ _ om).trans ((hc _ _ q0).trans ug), (jg _ _ _ _ _ _ _ _ om).trans ((hc _ _ q0).trans yz), (jg _ _ _ _ _ _ _ _ om).trans ((hc _ _ q0).trans Aw), (jg _ _ _ _ _ _ _ _ om).trans ((hc _ _ q0).trans Ci), (jg _ _ _ _ _ _ _ _ om).trans ((hc _ _ q0).trans Ch)⟩)) (first | (go_at_call_of 160 (Value.agg #[.int .i64 s2, .bool cu, .slice A2 l2.length c2]); refine (Vd s2 cu A2 c2 l2 z2 _ (by exact (aa H2).below (bg hw0 bem))).mono ?_; rintro e w' ⟨s5, qa, A5, c5, l5, rfl, xg, hb⟩; have hbw := bz (w := W0) bem hb; obtain ⟨hc, hfz⟩ := dz hbw) | (go_at_call_of 160 (Value.agg #[.int .i64 s1, .bool cz, .slice A1 l1.length c1]); refine (Vd s1 cz A1 c1 l1 z1 _ (by exact (aa H1).below (bg hw0 bem))).mono ?_; rintro e w' ⟨s6, su, A6, c6, l6, rfl, Ei, hb⟩; have xg := xg.below hb; have hbw := bz (w := W0) bem hb; obtain ⟨hc, hfz⟩ := dz hbw))
 have hblk : w'.heap[w.heap.size + 1]? = some (.cells #[.int .i64 0, .bool false, .slice none 0 0, .int .i64 0, .bool false, .slice none 0 0] 79 (0, 0)) := (hbw.block _ q1).trans NR.out
 have jy := Lib.hid hblk
 have jh : Below w.heap.size w w' := bg hw0 hbw
 clear hblk
 go_wp2_with fail
 exact bodyPost_ret (v := (Value.agg #[.int .i64 s5, .bool qa, .slice A5 l5.length c5, .int .i64 s6, .bool su, .slice A6 l6.length c6])) (by simp [results, Tryz.results94, go_sem, hc, xu, xq, Dw, Mk, Ra, Qz, q1]) rfl
  ⟨s5, qa, A5, c5, l5, s6, su, A6, c6, l6, rfl, (xg).upto jy.out (tu _ _ _ _ _ _ _ _ _ _) (jw _ _ _ _ _ _ _ _), (Ei).upto jy.out (tu _ _ _ _ _ _ _ _ _ _) (jw _ _ _ _ _ _ _ _), jh.grown (jw _ _ _ _ _ _ _ _) jh.size (fun k hk => by injection hk with hk; omega)⟩
theorem ath (s1 : Int) (cz : Bool) (A1 : Option Addr) (c1 : Nat) (l1 : List Nat) (z1 : Int) (s2 : Int) (cu : Bool) (A2 : Option Addr) (c2 : Nat) (l2 : List Nat) (z2 : Int) (w : World) (h1 : fq w s1 cz A1 c1 l1 z1) (h2 : fq w s2 cu A2 c2 l2 z2) (hz : ¬ z1 < 0) :
  Calls Tryz.prog 94 #[(Value.agg #[.int .i64 s1, .bool cz, .slice A1 l1.length c1, .int .i64 s2, .bool cu, .slice A2 l2.length c2])] w fun e w' => Gf w z2 z1 e w' := by
 have hs : decide (lh z1 < 0) = false := decide_eq_false (by rw [Ht]; exact hz)
 obtain ⟨o1, ho1⟩ : ∃ o, o = lh z1 := ⟨_, rfl⟩
 have HS : Hid (∀ W, Below w.heap.size w W → Calls Tryz.prog 159 #[(Value.agg #[.int .i64 s1, .bool cz, .slice A1 l1.length c1])] W fun e w' => e = .returned (.int .i64 o1) ∧ Below W.heap.size W w') := by rw [ho1]; exact fun W hW => ve s1 cz A1 c1 l1 z1 W (h1.below hW)
 rw [← ho1] at hs
 clear ho1 hz
 have H1 := hide h1
 have H2 := hide h2
 clear h1 h2
 go_enter Tryz.func94, Tryz.ntmps94
 go_wp2_with fail
 obtain ⟨n0, n1, hsz, hw0⟩ := qw w (.cells #[.int .i64 s1, .bool cz, .slice A1 l1.length c1, .int .i64 s2, .bool cu, .slice A2 l2.length c2] 79) (.cells #[.int .i64 0, .bool false, .slice none 0 0, .int .i64 0, .bool false, .slice none 0 0] 79)
 generalize ((w.alloc (.cells #[.int .i64 s1, .bool cz, .slice A1 l1.length c1, .int .i64 s2, .bool cu, .slice A2 l2.length c2] 79)).alloc (.cells #[.int .i64 0, .bool false, .slice none 0 0, .int .i64 0, .bool false, .slice none 0 0] 79)) = W0 at *
 have uh : W0.cell? ⟨w.heap.size, 0, none⟩ = some (.int .i64 s1) := ag n0 0
 have ug : W0.cell? ⟨w.heap.size, 1, none⟩ = some (.bool cz) := ag n0 1
 have yz : W0.cell? ⟨w.heap.size, 2, none⟩ = some (.slice A1 l1.length c1) := ag n0 2
 have Aw : W0.cell? ⟨w.heap.size, 3, none⟩ = some (.int .i64 s2) := ag n0 3
 have Ci : W0.cell? ⟨w.heap.size, 4, none⟩ = some (.bool cu) := ag n0 4
 have Ch : W0.cell? ⟨w.heap.size, 5, none⟩ = some (.slice A2 l2.length c2) := ag n0 5
 have q0 : w.heap.size < W0.heap.size := by omega
 have xu : W0.cell? ⟨w.heap.size + 1, 0, none⟩ = some (.int .i64 0) := ag n1 0
 have xq : W0.cell? ⟨w.heap.size + 1, 1, none⟩ = some (.bool false) := ag n1 1
 have Dw : W0.cell? ⟨w.heap.size + 1, 2, none⟩ = some (.slice none 0 0) := ag n1 2
 have Mk : W0.cell? ⟨w.heap.size + 1, 3, none⟩ = some (.int .i64 0) := ag n1 3
 have Ra : W0.cell? ⟨w.heap.size + 1, 4, none⟩ = some (.bool false) := ag n1 4
 have Qz : W0.cell? ⟨w.heap.size + 1, 5, none⟩ = some (.slice none 0 0) := ag n1 5
 have q1 : w.heap.size + 1 < W0.heap.size := by omega
 have Mw := ai n1 0
 have Mv := ai n1 1
 have amt := ai n1 2
 have ams := ai n1 3
 have avg := ai n1 4
 have avf := ai n1 5
 have NR := Lib.hid n1
 clear n0 n1
 refine ((aa HS) _ (bg hw0 bem)).mono ?_
 rintro e w' ⟨rfl, hb⟩
 have hbw := bz (w := W0) bem hb; obtain ⟨hc, hfz⟩ := dz hbw
 have hblk : w'.heap[w.heap.size + 1]? = some (.cells #[.int .i64 0, .bool false, .slice none 0 0, .int .i64 0, .bool false, .slice none 0 0] 79 (0, 0)) := (hbw.block _ q1).trans NR.out
 have jy := Lib.hid hblk
 have jh : Below w.heap.size w w' := bg hw0 hbw
 clear hblk
 go_wp2_with fail
 exact bodyPost_ret (v := (Value.agg #[.int .i64 s2, .bool cu, .slice A2 l2.length c2, .int .i64 s1, .bool cz, .slice A1 l1.length c1])) (by simp [results, Tryz.results94, go_sem, hc, xu, xq, Dw, Mk, Ra, Qz, q1]) rfl
  ⟨s2, cu, A2, c2, l2, s1, cz, A1, c1, l1, rfl, ((aa H2).below (bg hw0 hbw)).upto jy.out (tu _ _ _ _ _ _ _ _ _ _) (jw _ _ _ _ _ _ _ _), ((aa H1).below (bg hw0 hbw)).upto jy.out (tu _ _ _ _ _ _ _ _ _ _) (jw _ _ _ _ _ _ _ _), jh.grown (jw _ _ _ _ _ _ _ _) jh.size (fun k hk => by injection hk with hk; omega)⟩


def Nf (w : World) (F : Nat) (x q : Rat) : Prop := ∀ (s1 : Int) (cz : Bool) (A1 : Option Addr) (c1 : Nat) (l1 : List Nat) (s2 : Int) (cu : Bool) (A2 : Option Addr) (c2 : Nat) (l2 : List Nat) (W : World), Below w.heap.size w W → fq W s1 cz A1 c1 l1 x.num → fq W s2 cu A2 c2 l2 (x.den : Int) → Calls Tryz.prog F #[(Value.agg #[.int .i64 s1, .bool cz, .slice A1 l1.length c1, .int .i64 s2, .bool cu, .slice A2 l2.length c2])] W fun e w' => Gf W q.num (q.den : Int) e w'
def Fw (w : World) (F : Nat) (x y q : Rat) : Prop := ∀ (s1 : Int) (cz : Bool) (A1 : Option Addr) (c1 : Nat) (l1 : List Nat) (s2 : Int) (cu : Bool) (A2 : Option Addr) (c2 : Nat) (l2 : List Nat) (s3 : Int) (pq : Bool) (A3 : Option Addr) (c3 : Nat) (l3 : List Nat) (s4 : Int) (xm : Bool) (A4 : Option Addr) (c4 : Nat) (l4 : List Nat) (W : World), Below w.heap.size w W → fq W s1 cz A1 c1 l1 x.num → fq W s2 cu A2 c2 l2 (x.den : Int) → fq W s3 pq A3 c3 l3 y.num → fq W s4 xm A4 c4 l4 (y.den : Int) → Calls Tryz.prog F #[(Value.agg #[.int .i64 s1, .bool cz, .slice A1 l1.length c1, .int .i64 s2, .bool cu, .slice A2 l2.length c2]), (Value.agg #[.int .i64 s3, .bool pq, .slice A3 l3.length c3, .int .i64 s4, .bool xm, .slice A4 l4.length c4])] W fun e w' => Gf W q.num (q.den : Int) e w'
theorem Nf.mono {w w' : World} {F : Nat} {x q : Rat} (h : Nf w F x q) (hb : Below w.heap.size w w') : Nf w' F x q := fun _ _ _ _ _ _ _ _ _ _ W hW => h _ _ _ _ _ _ _ _ _ _ W (bg hb hW)
theorem Fw.mono {w w' : World} {F : Nat} {x y q : Rat} (h : Fw w F x y q) (hb : Below w.heap.size w w') : Fw w' F x y q := fun _ _ _ _ _ _ _ _ _ _ _ _ _ _ _ _ _ _ _ _ W hW => h _ _ _ _ _ _ _ _ _ _ _ _ _ _ _ _ _ _ _ _ W (bg hb hW)

def yx (K : Nat) (q : Rat) : Prop := Wd.Sz dm K q.num ∧ Wd.Sz dm K (q.den : Int)
theorem yx.mono {K L : Nat} {q : Rat} (h : yx K q) (hk : K ≤ L) : yx L q := ⟨h.1.mono pz hk, h.2.mono pz hk⟩
theorem yx.neg {K : Nat} {q : Rat} (h : yx K q) : yx K (-q) := ⟨by rw [Rat.neg_num]; exact h.1.neg, by rw [Rat.neg_den]; exact h.2⟩

theorem bal (w : World) (x : Rat) : Nf w 88 x (-x) := fun s1 cz A1 c1 l1 s2 cu A2 c2 l2 W _ f1 f2 => by
 rw [Rat.neg_num, Rat.neg_den]
 exact aek s1 cz A1 c1 l1 _ s2 cu A2 c2 l2 _ W f1 f2
theorem aji (w : World) (x : Rat) (h : x.num ≠ 0) : Nf w 94 x (x⁻¹) := fun s1 cz A1 c1 l1 s2 cu A2 c2 l2 W _ f1 f2 => by
 have hp := Wd.Tn x h
 by_cases hn : x.num < 0
 ·
  rw [(hp.1 hn).1, (hp.1 hn).2]
  exact ati s1 cz A1 c1 l1 _ s2 cu A2 c2 l2 _ W f1 f2 hn
 ·
  rw [(hp.2 hn).1, (hp.2 hn).2]
  exact ath s1 cz A1 c1 l1 _ s2 cu A2 c2 l2 _ W f1 f2 hn
theorem yx.inv {K : Nat} {q : Rat} (h : yx K q) (h0 : q.num ≠ 0) : yx K (q⁻¹) := by
 have hp := Wd.Tn q h0
 by_cases hn : q.num < 0
 ·
  exact ⟨by rw [(hp.1 hn).1]; exact h.2.neg, by rw [(hp.1 hn).2]; exact h.1.neg⟩
 ·
  exact ⟨by rw [(hp.2 hn).1]; exact h.2, by rw [(hp.2 hn).2]; exact h.1⟩

def eu : World → World → Prop := fun w w' => Below w.heap.size w w'
theorem eu.drew (w : World) : eu w w.drew := (Below.refl _ _).drew
theorem Gt {P : Program} {F : Nat} {fn : Func} (h : P.funcs[F]? = some fn) (hn : (!(fn.name == "runtime.NumGoroutine") && fn.body.isSome) = true) (vs : Array Value) (w : World) : (callFunc F vs).run P w = .ok (.enter F vs) w := by
 simp only [Bool.and_eq_true, Bool.not_eq_true', beq_eq_false_iff_ne] at hn
 have h2 : ¬ fn.body = none := by intro e; rw [e] at hn; exact absurd hn.2 (by simp)
 unfold callFunc
 simp [go_sem, h]
 rw [if_neg hn.1, if_neg h2]
theorem Qm {P : Program} {F : Nat} (hF : ∀ (vs : Array Value) (w : World), (callFunc F vs).run P w = .ok (.enter F vs) w) {a : Act} {w : World} {d : Option Tmp} {xs : Array Operand} {ats : Array TypeId} {ty : TypeId} {pos : String} {af : Array Edge} {gd : Option (Nat × Bool)} :
  (execOp a.eval { dst := d, op := .call { callee := .value (.func F), args := xs, argTypes := ats }, type := ty, pos := pos, after := af, guard := gd }).run P w = .ok (.enter F (xs.map a.eval)) w := by
 have h := hF (#[] ++ xs.map a.eval ++ #[]) w
 rw [Array.empty_append, Array.append_empty] at h
 rw [← h]
 simp only [execOp, resolve, Act.eval, Deferred.ofValue, invoke]
 simp only [pure_bind, Array.empty_append, Array.append_empty]
theorem azv {P : Program} {a : Act} {w : World} {d : Option Tmp} {x : Operand} {i : Nat} {ty : TypeId} {pos : String} {af : Array Edge} {gd : Option (Nat × Bool)} {vs : Array Value} {u : Value} (h : a.eval x = .tuple vs) (hu : vs[i]? = some u) :
  (execOp a.eval { dst := d, op := .extract x i, type := ty, pos := pos, after := af, guard := gd }).run P w = .ok (.value u) w := by
 simp only [execOp, h]
 simp [go_sem, hu]
theorem je {P : Program} {o : Oper} {a : Act} {w w' : World} {v : Value} {K : Act → World → Prop} {Q : Exit → Act → World → Prop} (h : (execOp a.eval o).run P w = .ok (.value v) w') (hK : K (a.put o.dst v) w') : o.wp P a w K Q := by
 unfold Oper.wp; rw [h]; exact hK
theorem Me {P : Program} {o : Oper} {a : Act} {w w' : World} {F : Nat} {vs : Array Value} {K : Act → World → Prop} {Q : Exit → Act → World → Prop} (h : (execOp a.eval o).run P w = .ok (.enter F vs) w') (hK : Calls P F vs w' (fun e w'' => ∃ v, e = .returned v ∧ K (a.put o.dst v) w'')) : o.wp P a w K Q := by
 unfold Oper.wp; rw [h]
 refine hK.mono ?_
 rintro e w'' ⟨v, rfl, h⟩; exact h
theorem Hu {P : Program} {Q : Exit → Act → World → Prop} {l : List Oper} {n : Nat} {T : Nat → World → Value → Prop} {G : World → Prop} {al : List Nat} {a0 : Act} {k F d : Nat} {fn : Func}  {ats : Array TypeId} {ty : TypeId} {pos : String} {af : Array Edge} {gd : Option (Nat × Bool)}
  (hF : P.funcs[F]? = some fn) (hn : (!(fn.name == "runtime.NumGoroutine") && fn.body.isSome) = true) (hal : al.contains k = false) (Ms : ∀ W W', G W → eu W W' → G W') 
  (hc : ∀ (W : World) , G W → Calls P F #[] W fun e w' => ∃ u, e = .returned u ∧ eu W w' ∧ T k w' u) :
  Rg.Step P Q l n T G eu al a0 k { dst := some d, op := .call { callee := .value (.func F), args := #[], argTypes := ats }, type := ty, pos := pos, after := af, guard := gd } := by
 intro a w hG hO hN
 refine Me (Qm (Gt hF hn)) ?_
 simp only [List.map_toArray, List.map_cons, List.map_nil]
 refine (hc w  hG ).mono ?_
 rintro e w' ⟨u, rfl, hb, ht⟩
 exact ⟨u, rfl, u, rfl, Ms _ _ hG hb, hb, ht, fun h => by rw [hal] at h; cases h⟩
theorem Bo {P : Program} {Q : Exit → Act → World → Prop} {l : List Oper} {n : Nat} {T : Nat → World → Value → Prop} {G : World → Prop} {al : List Nat} {a0 : Act} {k F d : Nat} {fn : Func} {x1 : Operand} {A1 : World → Value → Prop} {ats : Array TypeId} {ty : TypeId} {pos : String} {af : Array Edge} {gd : Option (Nat × Bool)}
  (hF : P.funcs[F]? = some fn) (hn : (!(fn.name == "runtime.NumGoroutine") && fn.body.isSome) = true) (hal : al.contains k = false) (Ms : ∀ W W', G W → eu W W' → G W') (h1 : Rg.ig l n T a0 k x1 A1)
  (hc : ∀ (W : World) (v1 : Value), G W → A1 W v1 → Calls P F #[v1] W fun e w' => ∃ u, e = .returned u ∧ eu W w' ∧ T k w' u) :
  Rg.Step P Q l n T G eu al a0 k { dst := some d, op := .call { callee := .value (.func F), args := #[x1], argTypes := ats }, type := ty, pos := pos, after := af, guard := gd } := by
 intro a w hG hO hN
 refine Me (Qm (Gt hF hn)) ?_
 simp only [List.map_toArray, List.map_cons, List.map_nil]
 refine (hc w (a.eval x1) hG (h1 a w hO hN)).mono ?_
 rintro e w' ⟨u, rfl, hb, ht⟩
 exact ⟨u, rfl, u, rfl, Ms _ _ hG hb, hb, ht, fun h => by rw [hal] at h; cases h⟩
theorem Dh {P : Program} {Q : Exit → Act → World → Prop} {l : List Oper} {n : Nat} {T : Nat → World → Value → Prop} {G : World → Prop} {al : List Nat} {a0 : Act} {k F d : Nat} {fn : Func} {x1 x2 : Operand} {A1 A2 : World → Value → Prop} {ats : Array TypeId} {ty : TypeId} {pos : String} {af : Array Edge} {gd : Option (Nat × Bool)}
  (hF : P.funcs[F]? = some fn) (hn : (!(fn.name == "runtime.NumGoroutine") && fn.body.isSome) = true) (hal : al.contains k = false) (Ms : ∀ W W', G W → eu W W' → G W') (h1 : Rg.ig l n T a0 k x1 A1) (h2 : Rg.ig l n T a0 k x2 A2)
  (hc : ∀ (W : World) (v1 v2 : Value), G W → A1 W v1 → A2 W v2 → Calls P F #[v1, v2] W fun e w' => ∃ u, e = .returned u ∧ eu W w' ∧ T k w' u) :
  Rg.Step P Q l n T G eu al a0 k { dst := some d, op := .call { callee := .value (.func F), args := #[x1, x2], argTypes := ats }, type := ty, pos := pos, after := af, guard := gd } := by
 intro a w hG hO hN
 refine Me (Qm (Gt hF hn)) ?_
 simp only [List.map_toArray, List.map_cons, List.map_nil]
 refine (hc w (a.eval x1) (a.eval x2) hG (h1 a w hO hN) (h2 a w hO hN)).mono ?_
 rintro e w' ⟨u, rfl, hb, ht⟩
 exact ⟨u, rfl, u, rfl, Ms _ _ hG hb, hb, ht, fun h => by rw [hal] at h; cases h⟩
theorem aje {P : Program} {Q : Exit → Act → World → Prop} {l : List Oper} {n : Nat} {T : Nat → World → Value → Prop} {G : World → Prop} {al : List Nat} {a0 : Act} {k F d : Nat} {fn : Func} {x1 x2 x3 : Operand} {A1 A2 A3 : World → Value → Prop} {ats : Array TypeId} {ty : TypeId} {pos : String} {af : Array Edge} {gd : Option (Nat × Bool)}
  (hF : P.funcs[F]? = some fn) (hn : (!(fn.name == "runtime.NumGoroutine") && fn.body.isSome) = true) (hal : al.contains k = false) (Ms : ∀ W W', G W → eu W W' → G W') (h1 : Rg.ig l n T a0 k x1 A1) (h2 : Rg.ig l n T a0 k x2 A2) (h3 : Rg.ig l n T a0 k x3 A3)
  (hc : ∀ (W : World) (v1 v2 v3 : Value), G W → A1 W v1 → A2 W v2 → A3 W v3 → Calls P F #[v1, v2, v3] W fun e w' => ∃ u, e = .returned u ∧ eu W w' ∧ T k w' u) :
  Rg.Step P Q l n T G eu al a0 k { dst := some d, op := .call { callee := .value (.func F), args := #[x1, x2, x3], argTypes := ats }, type := ty, pos := pos, after := af, guard := gd } := by
 intro a w hG hO hN
 refine Me (Qm (Gt hF hn)) ?_
 simp only [List.map_toArray, List.map_cons, List.map_nil]
 refine (hc w (a.eval x1) (a.eval x2) (a.eval x3) hG (h1 a w hO hN) (h2 a w hO hN) (h3 a w hO hN)).mono ?_
 rintro e w' ⟨u, rfl, hb, ht⟩
 exact ⟨u, rfl, u, rfl, Ms _ _ hG hb, hb, ht, fun h => by rw [hal] at h; cases h⟩
theorem di {P : Program} {Q : Exit → Act → World → Prop} {l : List Oper} {n : Nat} {T : Nat → World → Value → Prop} {G : World → Prop} {al : List Nat} {a0 : Act} {k d : Nat} {x : Operand} {ty : TypeId} {pos : String} {af : Array Edge} {gd : Option (Nat × Bool)}
  (hal : al.contains k = false) (hx : Rg.ig l n T a0 k x (T k)) : Rg.Step P Q l n T G eu al a0 k { dst := some d, op := .move x, type := ty, pos := pos, after := af, guard := gd } := by
 intro a w hG hO hN
 exact je (v := a.eval x) (w' := w) rfl ⟨_, rfl, hG, Below.refl _ _, hx a w hO hN, fun h => by rw [hal] at h; cases h⟩
theorem jk {P : Program} {Q : Exit → Act → World → Prop} {l : List Oper} {n : Nat} {T : Nat → World → Value → Prop} {G : World → Prop} {al : List Nat} {a0 : Act} {k d : Nat} {x : Operand} {ty : TypeId} {pos : String} {af : Array Edge} {gd : Option (Nat × Bool)}
  (hal : al.contains k = false) (hx : Rg.ig l n T a0 k x (T k)) : Rg.Step P Q l n T G eu al a0 k { dst := some d, op := .assign x, type := ty, pos := pos, after := af, guard := gd } := by
 intro a w hG hO hN
 exact je (v := a.eval x) (w' := w) rfl ⟨_, rfl, hG, Below.refl _ _, hx a w hO hN, fun h => by rw [hal] at h; cases h⟩
theorem bhn {P : Program} {Q : Exit → Act → World → Prop} {l : List Oper} {n : Nat} {T : Nat → World → Value → Prop} {G : World → Prop} {al : List Nat} {a0 : Act} {k d i : Nat} {x : Operand} {A : World → Value → Prop} {ty : TypeId} {pos : String} {af : Array Edge} {gd : Option (Nat × Bool)}
  (hal : al.contains k = false) (hx : Rg.ig l n T a0 k x A) (hi : ∀ W v, A W v → ∃ vs, v = .tuple vs ∧ ∃ u, vs[i]? = some u ∧ T k W u) : Rg.Step P Q l n T G eu al a0 k { dst := some d, op := .extract x i, type := ty, pos := pos, after := af, guard := gd } := by
 intro a w hG hO hN
 obtain ⟨vs, h1, u, h2, h3⟩ := hi _ _ (hx a w hO hN)
 exact je (azv h1 h2) ⟨_, rfl, hG, Below.refl _ _, h3, fun h => by rw [hal] at h; cases h⟩
theorem aej {P : Program} {a : Act} {w : World} {d : Option Tmp} {c x y : Operand} {b : Bool} {ty : TypeId} {pos : String} {af : Array Edge} {gd : Option (Nat × Bool)} (h : a.eval c = .bool b) :
  (execOp a.eval { dst := d, op := .pick c x y, type := ty, pos := pos, after := af, guard := gd }).run P w = .ok (.value (if b then a.eval x else a.eval y)) w := by
 simp only [execOp, h]
 cases b <;> simp [go_sem]
theorem vg {P : Program} {Q : Exit → Act → World → Prop} {l : List Oper} {n : Nat} {T : Nat → World → Value → Prop} {G : World → Prop} {al : List Nat} {a0 : Act} {k d : Nat} {c x y : Operand} {ty : TypeId} {pos : String} {af : Array Edge} {gd : Option (Nat × Bool)}
  (hal : al.contains k = false) (hc : Rg.ig l n T a0 k c (Rg.au (.bool true))) (hx : Rg.ig l n T a0 k x (T k)) : Rg.Step P Q l n T G eu al a0 k { dst := some d, op := .pick c x y, type := ty, pos := pos, after := af, guard := gd } := by
 intro a w hG hO hN
 exact je (aej (hc a w hO hN)) ⟨_, rfl, hG, Below.refl _ _, hx a w hO hN, fun h => by rw [hal] at h; cases h⟩
theorem pg {P : Program} {Q : Exit → Act → World → Prop} {l : List Oper} {n : Nat} {T : Nat → World → Value → Prop} {G : World → Prop} {al : List Nat} {a0 : Act} {k d : Nat} {c x y : Operand} {ty : TypeId} {pos : String} {af : Array Edge} {gd : Option (Nat × Bool)}
  (hal : al.contains k = false) (hc : Rg.ig l n T a0 k c (Rg.au (.bool false))) (hy : Rg.ig l n T a0 k y (T k)) : Rg.Step P Q l n T G eu al a0 k { dst := some d, op := .pick c x y, type := ty, pos := pos, after := af, guard := gd } := by
 intro a w hG hO hN
 exact je (aej (hc a w hO hN)) ⟨_, rfl, hG, Below.refl _ _, hy a w hO hN, fun h => by rw [hal] at h; cases h⟩
theorem azo {P : Program} {a : Act} {w : World} {d : Option Tmp} {x : Operand} {b : Bool} {tb ty : TypeId} {pos : String} {af : Array Edge} {gd : Option (Nat × Bool)} (h : a.eval x = .bool b) :
  (execOp a.eval { dst := d, op := .unOp .not tb x, type := ty, pos := pos, after := af, guard := gd }).run P w = .ok (.value (.bool (!b))) w := by
 simp only [execOp, h]
 simp [go_sem]
theorem zb {P : Program} {Q : Exit → Act → World → Prop} {l : List Oper} {n : Nat} {T : Nat → World → Value → Prop} {G : World → Prop} {al : List Nat} {a0 : Act} {k d : Nat} {x : Operand} {b c : Bool} {tb ty : TypeId} {pos : String} {af : Array Edge} {gd : Option (Nat × Bool)}
  (hal : al.contains k = false) (hx : Rg.ig l n T a0 k x (Rg.au (.bool b))) (hT : T k = Rg.au (.bool c)) (hb : (!b) = c) : Rg.Step P Q l n T G eu al a0 k { dst := some d, op := .unOp .not tb x, type := ty, pos := pos, after := af, guard := gd } := by
 intro a w hG hO hN
 exact je (azo (hx a w hO hN)) ⟨_, rfl, hG, Below.refl _ _, by rw [hT, ← hb]; rfl, fun h => by rw [hal] at h; cases h⟩
theorem azr {ρ : Operand → Value} {w : World} {d : Option Tmp} {x y : Operand} {o z : Int} {ty : TypeId} {pos : String} {af : Array Edge} {gd : Option (Nat × Bool)} (h : ρ x = .int .i64 o) (h' : ρ y = .int .i64 z) :
  (execOp ρ { dst := d, op := .binOp .leq 3 x y 3, type := ty, pos := pos, after := af, guard := gd }).run Tryz.prog w = .ok (.value (.bool (decide (o ≤ z)))) w := by
 simp only [execOp, h, h']
 simp [go_sem, Tryz.underlying3]
theorem acx {Q : Exit → Act → World → Prop} {l : List Oper} {n : Nat} {T : Nat → World → Value → Prop} {G : World → Prop} {al : List Nat} {a0 : Act} {k d : Nat} {x y : Operand} {o z : Int} {ty : TypeId} {pos : String} {af : Array Edge} {gd : Option (Nat × Bool)} {b : Bool}
  (hal : al.contains k = false) (hx : Rg.ig l n T a0 k x (Rg.au (.int .i64 o))) (hy : Rg.ig l n T a0 k y (Rg.au (.int .i64 z))) (hT : T k = Rg.au (.bool b)) (hb : (decide (o ≤ z)) = b) : Rg.Step Tryz.prog Q l n T G eu al a0 k { dst := some d, op := .binOp .leq 3 x y 3, type := ty, pos := pos, after := af, guard := gd } := by
 intro a w hG hO hN
 exact je (P := Tryz.prog) (azr (hx a w hO hN) (hy a w hO hN)) ⟨_, rfl, hG, Below.refl _ _, by rw [hT, hb]; rfl, fun h => by rw [hal] at h; cases h⟩
theorem azq {ρ : Operand → Value} {w : World} {d : Option Tmp} {x y : Operand} {o z : Int} {ty : TypeId} {pos : String} {af : Array Edge} {gd : Option (Nat × Bool)} (h : ρ x = .int .i64 o) (h' : ρ y = .int .i64 z) :
  (execOp ρ { dst := d, op := .binOp .lss 3 x y 3, type := ty, pos := pos, after := af, guard := gd }).run Tryz.prog w = .ok (.value (.bool (decide (o < z)))) w := by
 simp only [execOp, h, h']
 simp [go_sem, Tryz.underlying3]
theorem rz {Q : Exit → Act → World → Prop} {l : List Oper} {n : Nat} {T : Nat → World → Value → Prop} {G : World → Prop} {al : List Nat} {a0 : Act} {k d : Nat} {x y : Operand} {o z : Int} {ty : TypeId} {pos : String} {af : Array Edge} {gd : Option (Nat × Bool)} {b : Bool}
  (hal : al.contains k = false) (hx : Rg.ig l n T a0 k x (Rg.au (.int .i64 o))) (hy : Rg.ig l n T a0 k y (Rg.au (.int .i64 z))) (hT : T k = Rg.au (.bool b)) (hb : (decide (o < z)) = b) : Rg.Step Tryz.prog Q l n T G eu al a0 k { dst := some d, op := .binOp .lss 3 x y 3, type := ty, pos := pos, after := af, guard := gd } := by
 intro a w hG hO hN
 exact je (P := Tryz.prog) (azq (hx a w hO hN) (hy a w hO hN)) ⟨_, rfl, hG, Below.refl _ _, by rw [hT, hb]; rfl, fun h => by rw [hal] at h; cases h⟩
theorem azt {ρ : Operand → Value} {w : World} {d : Option Tmp} {x y : Operand} {o z : Int} {ty : TypeId} {pos : String} {af : Array Edge} {gd : Option (Nat × Bool)} (h : ρ x = .int .i64 o) (h' : ρ y = .int .i64 z) :
  (execOp ρ { dst := d, op := .binOp .gtr 3 x y 3, type := ty, pos := pos, after := af, guard := gd }).run Tryz.prog w = .ok (.value (.bool (decide (z < o)))) w := by
 simp only [execOp, h, h']
 simp [go_sem, Tryz.underlying3]
theorem Va {Q : Exit → Act → World → Prop} {l : List Oper} {n : Nat} {T : Nat → World → Value → Prop} {G : World → Prop} {al : List Nat} {a0 : Act} {k d : Nat} {x y : Operand} {o z : Int} {ty : TypeId} {pos : String} {af : Array Edge} {gd : Option (Nat × Bool)} {b : Bool}
  (hal : al.contains k = false) (hx : Rg.ig l n T a0 k x (Rg.au (.int .i64 o))) (hy : Rg.ig l n T a0 k y (Rg.au (.int .i64 z))) (hT : T k = Rg.au (.bool b)) (hb : (decide (z < o)) = b) : Rg.Step Tryz.prog Q l n T G eu al a0 k { dst := some d, op := .binOp .gtr 3 x y 3, type := ty, pos := pos, after := af, guard := gd } := by
 intro a w hG hO hN
 exact je (P := Tryz.prog) (azt (hx a w hO hN) (hy a w hO hN)) ⟨_, rfl, hG, Below.refl _ _, by rw [hT, hb]; rfl, fun h => by rw [hal] at h; cases h⟩
theorem azw {ρ : Operand → Value} {w : World} {d : Option Tmp} {x y : Operand} {o z : Int} {ty : TypeId} {pos : String} {af : Array Edge} {gd : Option (Nat × Bool)} (h : ρ x = .int .i64 o) (h' : ρ y = .int .i64 z) :
  (execOp ρ { dst := d, op := .binOp .eql 3 x y 3, type := ty, pos := pos, after := af, guard := gd }).run Tryz.prog w = .ok (.value (.bool ((o == z)))) w := by
 simp only [execOp, h, h']
 simp [go_sem, Tryz.underlying3]
theorem bho {Q : Exit → Act → World → Prop} {l : List Oper} {n : Nat} {T : Nat → World → Value → Prop} {G : World → Prop} {al : List Nat} {a0 : Act} {k d : Nat} {x y : Operand} {o z : Int} {ty : TypeId} {pos : String} {af : Array Edge} {gd : Option (Nat × Bool)} {b : Bool}
  (hal : al.contains k = false) (hx : Rg.ig l n T a0 k x (Rg.au (.int .i64 o))) (hy : Rg.ig l n T a0 k y (Rg.au (.int .i64 z))) (hT : T k = Rg.au (.bool b)) (hb : ((o == z)) = b) : Rg.Step Tryz.prog Q l n T G eu al a0 k { dst := some d, op := .binOp .eql 3 x y 3, type := ty, pos := pos, after := af, guard := gd } := by
 intro a w hG hO hN
 exact je (P := Tryz.prog) (azw (hx a w hO hN) (hy a w hO hN)) ⟨_, rfl, hG, Below.refl _ _, by rw [hT, hb]; rfl, fun h => by rw [hal] at h; cases h⟩
theorem azp {ρ : Operand → Value} {w : World} {d : Option Tmp} {x y : Operand} {o z : Int} {ty : TypeId} {pos : String} {af : Array Edge} {gd : Option (Nat × Bool)} (h : ρ x = .int .i64 o) (h' : ρ y = .int .i64 z) :
  (execOp ρ { dst := d, op := .binOp .neq 3 x y 3, type := ty, pos := pos, after := af, guard := gd }).run Tryz.prog w = .ok (.value (.bool ((o != z)))) w := by
 simp only [execOp, h, h']
 simp [go_sem, Tryz.underlying3]
theorem acw {Q : Exit → Act → World → Prop} {l : List Oper} {n : Nat} {T : Nat → World → Value → Prop} {G : World → Prop} {al : List Nat} {a0 : Act} {k d : Nat} {x y : Operand} {o z : Int} {ty : TypeId} {pos : String} {af : Array Edge} {gd : Option (Nat × Bool)} {b : Bool}
  (hal : al.contains k = false) (hx : Rg.ig l n T a0 k x (Rg.au (.int .i64 o))) (hy : Rg.ig l n T a0 k y (Rg.au (.int .i64 z))) (hT : T k = Rg.au (.bool b)) (hb : ((o != z)) = b) : Rg.Step Tryz.prog Q l n T G eu al a0 k { dst := some d, op := .binOp .neq 3 x y 3, type := ty, pos := pos, after := af, guard := gd } := by
 intro a w hG hO hN
 exact je (P := Tryz.prog) (azp (hx a w hO hN) (hy a w hO hN)) ⟨_, rfl, hG, Below.refl _ _, by rw [hT, hb]; rfl, fun h => by rw [hal] at h; cases h⟩
theorem azu {ρ : Operand → Value} {w : World} {d : Option Tmp} {x y : Operand} {o z : Int} {ty : TypeId} {pos : String} {af : Array Edge} {gd : Option (Nat × Bool)} (h : ρ x = .int .i64 o) (h' : ρ y = .int .i64 z) :
  (execOp ρ { dst := d, op := .binOp .geq 3 x y 3, type := ty, pos := pos, after := af, guard := gd }).run Tryz.prog w = .ok (.value (.bool (decide (z ≤ o)))) w := by
 simp only [execOp, h, h']
 simp [go_sem, Tryz.underlying3]
theorem bhm {Q : Exit → Act → World → Prop} {l : List Oper} {n : Nat} {T : Nat → World → Value → Prop} {G : World → Prop} {al : List Nat} {a0 : Act} {k d : Nat} {x y : Operand} {o z : Int} {ty : TypeId} {pos : String} {af : Array Edge} {gd : Option (Nat × Bool)} {b : Bool}
  (hal : al.contains k = false) (hx : Rg.ig l n T a0 k x (Rg.au (.int .i64 o))) (hy : Rg.ig l n T a0 k y (Rg.au (.int .i64 z))) (hT : T k = Rg.au (.bool b)) (hb : (decide (z ≤ o)) = b) : Rg.Step Tryz.prog Q l n T G eu al a0 k { dst := some d, op := .binOp .geq 3 x y 3, type := ty, pos := pos, after := af, guard := gd } := by
 intro a w hG hO hN
 exact je (P := Tryz.prog) (azu (hx a w hO hN) (hy a w hO hN)) ⟨_, rfl, hG, Below.refl _ _, by rw [hT, hb]; rfl, fun h => by rw [hal] at h; cases h⟩
theorem awq {P : Program} {Q : Exit → Act → World → Prop} {l : List Oper} {n : Nat} {T : Nat → World → Value → Prop} {G : World → Prop} {al : List Nat} {a0 : Act} {k B : Nat} {o : Oper} {N : Nat → World → Value → Prop} (hnew : ∀ (a : Act) (w : World), ∃ X : World, eu w X ∧ (B ≤ w.heap.size → N B X (.pointer (some ⟨w.heap.size, 0, none⟩))) ∧ (execOp a.eval o).run P w = .ok (.value (.pointer (some ⟨w.heap.size, 0, none⟩))) X)
  (Ms : ∀ W W', G W → eu W W' → G W') (hB : ∀ W, G W → B ≤ W.heap.size) (hT : T k = N B) (hlt : ∀ j W u, al.contains j = true → T j W u → ∃ b, u = .pointer (some ⟨b, 0, none⟩) ∧ b < W.heap.size) :
  Rg.Step P Q l n T G eu al a0 k o := by
 intro a w hG hO hN
 obtain ⟨X, hb, hbx, hr⟩ := hnew a w
 have hT2 : T k X (.pointer (some ⟨w.heap.size, 0, none⟩)) := by rw [hT]; exact hbx (hB w hG)
 have hG2 := Ms _ _ hG hb
 have hne : al.contains k = true → ∀ j u, al.contains j = true → T j w u → u ≠ .pointer (some ⟨w.heap.size, 0, none⟩) := fun _ j u hj ht he => by
  obtain ⟨b, h1, h2⟩ := hlt j w u hj ht
  rw [h1] at he
  have h3 : b = w.heap.size := by first | (simp at he; done) | (simp at he; exact he)
  omega
 exact je hr ⟨_, rfl, hG2, hb, hT2, hne⟩
def ib (T : World → Value → Prop) (w : World) (e : Ending) (w' : World) : Prop := ∃ u, e = .returned u ∧ eu w w' ∧ T w' u
end Go.Proofs.YtfgeaakhlcaibaaGreatDoor
