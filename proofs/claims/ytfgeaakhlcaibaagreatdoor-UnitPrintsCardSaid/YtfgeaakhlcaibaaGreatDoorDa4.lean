/- Texts beneath a law of layer 1. -/
import Derived.Test.YtfgeaakhlcaibaaGreatDoorDa3
import Derived.Laws.Bits64b
import Derived.Deep.DeepCutAuto
import Derived.Deep.CutBlock
import Derived.Shelf.Spec.TrailingZeros
import Derived.Test.YtfgeaakhlcaibaaGreatDoorProg
import Derived.KernelRfl
import Derived.Deep.LoopGhost
import Derived.Laws.CopyOwn
set_option maxRecDepth 100000
set_option maxHeartbeats 16000000
namespace Go.Proofs.YtfgeaakhlcaibaaGreatDoor
open Go.RowKit

theorem auo {k : IntKind} {a b c d : Nat} (h : a = c) (h' : b = d) : Ending.returned (.tuple #[.int k (a : Int), .int k (b : Int)]) = .returned (.tuple #[.int k (c : Int), .int k (d : Int)]) := by rw [h, h']

theorem Zb (s : Nat) (hs : s ≤ 64) : 2 ^ s * 2 ^ (64 - s) = dh := by
 rw [← Nat.pow_add, show s + (64 - s) = 64 by omega]; rfl
theorem bbn {z a s : Nat} (hz : z < 2 ^ s) : (a * 2 ^ s) ||| z = a * 2 ^ s + z := by
 rw [Nat.mul_comm a, ← Nat.two_pow_add_eq_or_of_lt hz]

theorem alz {hi lo s : Nat} (hs : s < 64) (hlo : lo < dh) : (hi * 2 ^ s + lo / 2 ^ (64 - s)) * dh + lo * 2 ^ s % dh = (hi * dh + lo) * 2 ^ s ∧ lo / 2 ^ (64 - s) < 2 ^ s := by
 have hST := Zb s om
 have hS : 0 < 2 ^ s := Nat.pow_pos om
 have hT : 0 < 2 ^ (64 - s) := Nat.pow_pos om
 generalize 2 ^ s = S at *
 generalize 2 ^ (64 - s) = T at *
 constructor
 ·
  have h1 : lo * S % dh = lo % T * S := by rw [← hST, Nat.mul_comm S, Nat.mul_mod_mul_right]
  have h2 := Nat.div_add_mod lo T
  rw [h1]
  generalize lo / T = a at *
  generalize lo % T = b at *
  rw [← h2, ← hST]
  simp only [Nat.add_mul, Nat.mul_add, Nat.mul_comm, Nat.mul_left_comm, Nat.mul_assoc]
  omega
 ·
  rw [Nat.div_lt_iff_lt_mul hT, hST]; exact hlo

theorem afc {n p d v : Nat} (h : n + d = p + v) (hv : v < dh) : (((n % dh + d) % dh : Nat) : Int) - ((p % dh : Nat) : Int) = (v : Int) ∨ (((n % dh + d) % dh : Nat) : Int) - ((p % dh : Nat) : Int) = (v : Int) - 18446744073709551616 := by
 rw [gm] at *; omega
theorem Gj {a : Nat} {x : Int} (h : x = (a : Int)) : IntKind.u64.wrap x = ((a % dh : Nat) : Int) := by
 rw [IntKind.wrap_u64, h, gm]; omega
theorem Gu {v : Nat} {x : Int} (hv : v < dh) (h : x = (v : Int) ∨ x = (v : Int) - 18446744073709551616) : IntKind.u64.wrap x = (v : Int) := by
 rw [IntKind.wrap_u64]; rw [gm] at hv; omega

theorem afe {a b B : Nat} (ha : a < B) (hb : b < B) : a * b ≤ (B - 1) * (B - 1) := Nat.mul_le_mul om om
theorem Ni {a b c : Nat} (h : c = a * b) (hc : c < dh) : IntKind.u64.wrap ((a : Int) * (b : Int)) = ((c : Nat) : Int) := by
 rw [IntKind.wrap_u64, h, ← Int.natCast_mul]; rw [gm, h] at hc; omega
theorem Nh {a b c : Nat} (h : c = a + b) (hc : c < dh) : IntKind.u64.wrap ((a : Int) + (b : Int)) = ((c : Nat) : Int) := by
 rw [IntKind.wrap_u64, h]; rw [gm] at hc; omega
theorem Yj {a b : Nat} (h : b ≤ a) (ha : a < dh) : IntKind.u64.wrap ((a : Int) - (b : Int)) = ((a - b : Nat) : Int) := by
 rw [IntKind.wrap_u64]; rw [gm] at ha; omega

theorem Pz : ∀ (f x : Nat), x < 2 ^ f → x < 2 ^ Lib.bitLenAux f x ∧ (x ≠ 0 → 2 ^ (Lib.bitLenAux f x - 1) ≤ x ∧ 0 < Lib.bitLenAux f x) := by
 intro f
 induction f with
 | zero => intro x h; simp at h; subst h; exact ⟨by simp [Lib.bitLenAux], fun h => absurd rfl h⟩
 | succ f ih =>
  intro x h
  unfold Lib.bitLenAux
  by_cases h0 : x = 0
  ·
   rw [if_pos h0]; subst h0; exact ⟨by simp, fun h => absurd rfl h⟩
  ·
   rw [if_neg h0]
   have hx2 : x / 2 < 2 ^ f := by rw [Nat.pow_succ] at h; omega
   obtain ⟨h1, h2⟩ := ih (x / 2) hx2
   refine ⟨?_, fun _ => ⟨?_, by omega⟩⟩
   ·
    rw [Nat.pow_add, Nat.pow_one]; omega
   ·
    rw [Nat.add_sub_cancel_left]
    by_cases h3 : x / 2 = 0
    ·
     have : Lib.bitLenAux f (x / 2) = 0 := by
      rw [h3]; cases f <;> simp [Lib.bitLenAux]
     rw [this]; simp; omega
    ·
     obtain ⟨h4, h5⟩ := h2 h3
     have : Lib.bitLenAux f (x / 2) = (Lib.bitLenAux f (x / 2) - 1) + 1 := by omega
     rw [this, Nat.pow_succ]; omega

theorem akh (y : Nat) (hy : y < dh) (h0 : 0 < y) (w : World) : ∃ s : Nat, s < 64 ∧ 9223372036854775808 ≤ y * 2 ^ s ∧ y * 2 ^ s < dh ∧
  ∀ w : World, Calls Tryz.prog 226 #[.int .u64 ((y : Nat) : Int)] w fun e w' => e = .returned (.int .i64 ((s : Nat) : Int)) ∧ w' = w := by
 obtain ⟨h1, h2⟩ := Pz 64 y hy
 have h3 := (h2 om).1
 change y < 2 ^ Lib.bitLen y at h1
 change 2 ^ (Lib.bitLen y - 1) ≤ y at h3
 have hle := Lib.bitLen_le y 64 om (by rw [gm] at hy; omega)
 have hpos : 0 < Lib.bitLen y := by
  apply Classical.byContradiction
  intro h
  rw [show Lib.bitLen y = 0 by omega] at h1
  simp at h1; omega
 have e1 : 2 ^ (Lib.bitLen y - 1) * 2 ^ (64 - Lib.bitLen y) = 9223372036854775808 := by
  rw [← Nat.pow_add, show Lib.bitLen y - 1 + (64 - Lib.bitLen y) = 63 by omega]
 have e2 : 2 ^ Lib.bitLen y * 2 ^ (64 - Lib.bitLen y) = dh := by
  rw [← Nat.pow_add, show Lib.bitLen y + (64 - Lib.bitLen y) = 64 by omega]; rfl
 refine ⟨64 - Lib.bitLen y, by omega, ?_, ?_, fun w => ?_⟩
 ·
  rw [← e1]; exact Nat.mul_le_mul_right _ h3
 ·
  rw [← e2]; exact Nat.mul_lt_mul_of_pos_right h1 (Nat.pow_pos om)
 ·
  refine (Tryz.bits_LeadingZeros64 (y : Int) w om (by rw [gm] at hy; omega)).mono ?_
  rintro e w' ⟨rfl, rfl⟩
  refine ⟨wm ?_, rfl⟩
  rw [Int.toNat_natCast]; omega

theorem aib (Y : Nat) (hY : Y < dh) : Go.bits .and .u64 (Y : Int) 4294967295 = ((Y % 4294967296 : Nat) : Int) := by
 have h := bits_and_u64_nat Y 4294967295 hY om
 rw [Nat.and_two_pow_sub_one_eq_mod Y 32] at h
 exact h

theorem adb (hi lo y : Nat) (hy : y < dh) (hlo : lo < dh) (hh : hi < y) (w : World) :
  Calls Tryz.prog 246 #[.int .u64 ((hi : Nat) : Int), .int .u64 ((lo : Nat) : Int), .int .u64 ((y : Nat) : Int)] w fun e w' => e = .returned (.tuple #[.int .u64 (((hi * dh + lo) / y : Nat) : Int), .int .u64 (((hi * dh + lo) % y : Nat) : Int)]) ∧ ∃ k, w' = w.drewN k := by
 by_cases h0 : hi = 0
 ·
  subst h0
  have b1 : ((y : Int) == 0) = false := by simp; omega
  have b2 : ¬ ((y : Int) ≤ 0) := by omega
  go_enter Tryz.func246, Tryz.ntmps246
  go_wp2_with fail
  go_region
  go_wp2_with fail
  go_ret2
  refine ⟨?_, 1, rfl⟩
  have e1 : IntKind.u64.wrap ((lo : Int) / (y : Int)) = ((lo / y : Nat) : Int) := by
   have : lo / y ≤ lo := Nat.div_le_self _ _
   rw [gm] at hlo
   rw [IntKind.wrap_u64, ← Int.natCast_ediv]; generalize lo / y = z at *; omega
  simp [e1]
 ·
  have b1 : ((y : Int) == 0) = false := by simp; omega
  have b3 : ((hi : Int) == 0) = false := by simp; omega
  have b2 : ¬ ((y : Int) ≤ (hi : Int)) := by omega
  obtain ⟨s, hs, hY1, hY2, hlz⟩ := akh y hy om w
  obtain ⟨Y, hYY⟩ : ∃ Y, Y = y * 2 ^ s := ⟨_, rfl⟩
  rw [← hYY] at hY1 hY2
  obtain ⟨y1, hy1⟩ : ∃ t, t = Y / 4294967296 := ⟨_, rfl⟩
  obtain ⟨y0, hy0⟩ : ∃ t, t = Y % 4294967296 := ⟨_, rfl⟩
  obtain ⟨p1, hp1⟩ : ∃ t, t = hi * 2 ^ s := ⟨_, rfl⟩
  obtain ⟨p2, hp2⟩ : ∃ t, t = lo / 2 ^ (64 - s) := ⟨_, rfl⟩
  obtain ⟨u, hu⟩ : ∃ t, t = p1 + p2 := ⟨_, rfl⟩
  obtain ⟨un, hun⟩ : ∃ t, t = lo * 2 ^ s % dh := ⟨_, rfl⟩
  obtain ⟨d1, hd1⟩ : ∃ t, t = un / 4294967296 := ⟨_, rfl⟩
  obtain ⟨d0, hd0⟩ : ∃ t, t = un % 4294967296 := ⟨_, rfl⟩
  have e1 : IntKind.u64.wrap ((y : Int) * 2 ^ s) = (Y : Int) := Gu hY2 (.inl (by rw [hYY]; simp))
  have hsh := alz (hi := hi) hs hlo
  have bnw : p1 + 2 ^ s ≤ Y := by
   rw [hp1, hYY, ← Nat.succ_mul]; exact Nat.mul_le_mul_right _ hh
  have bfw : p2 < 2 ^ s := by rw [hp2]; exact hsh.2
  have huY : u < Y := by omega
  have abl : un < dh := by rw [hun]; exact Nat.mod_lt _ (by rw [gm]; omega)
  have hY3 : Y = y1 * dw + y0 := by rw [hy1, hy0, fo]; omega
  have e2 : (Y : Int) / 4294967296 = (y1 : Int) := by rw [hy1]; simp
  have e3 : Go.bits .and .u64 (Y : Int) 4294967295 = (y0 : Int) := by rw [aib Y hY2, hy0]
  have e4 : IntKind.u64.wrap ((hi : Int) * 2 ^ s) = (p1 : Int) := Gu om (.inl (by rw [hp1]; simp))
  have e5 : (lo : Int) / 2 ^ (64 - s) = (p2 : Int) := by rw [hp2]; simp
  have e6 : Go.bits .or .u64 (p1 : Int) (p2 : Int) = (u : Int) := by rw [bits_or_u64_nat p1 p2 (show p1 < dh by omega) (show p2 < dh by omega), hu]; rw [hp1, bbn bfw]
  have e7 : IntKind.u64.wrap ((lo : Int) * 2 ^ s) = (un : Int) := by rw [hun]; exact Gj (by simp)
  have e8 : (un : Int) / 4294967296 = (d1 : Int) := by rw [hd1]; simp
  have e9 : Go.bits .and .u64 (un : Int) 4294967295 = (d0 : Int) := by rw [aib un abl, hd0]
  obtain ⟨q, hq⟩ : ∃ t, t = u / y1 := ⟨_, rfl⟩
  obtain ⟨t1, ht1⟩ : ∃ t, t = q * y1 := ⟨_, rfl⟩
  obtain ⟨r, hr⟩ : ∃ t, t = u - t1 := ⟨_, rfl⟩
  have bnu : q ≤ u := by rw [hq]; exact Nat.div_le_self _ _
  have bft : t1 ≤ u := by rw [ht1, hq]; exact Nat.div_mul_le_self _ _
  have Rk : 0 < y1 := by rw [hy1]; omega
  have hr1 : r < y1 := by rw [hr, ht1, hq, Nat.mul_comm, ← Nat.mod_eq_sub_mul_div]; exact Nat.mod_lt _ Rk
  have e10 : IntKind.u64.wrap ((u : Int) / (y1 : Int)) = (q : Int) := Gu om (.inl (by rw [hq]; simp))
  have e11 : IntKind.u64.wrap ((q : Int) * (y1 : Int)) = (t1 : Int) := Ni ht1 om
  have e12 : IntKind.u64.wrap ((u : Int) - (t1 : Int)) = (r : Int) := by rw [hr]; exact Yj bft om
  have GY1 : Hid (y1 < dw) := by show y1 < dw; rw [gm] at hY2; rw [fo]; omega
  have Gi : Hid (0 < y1 * dw + y0) := by show 0 < y1 * dw + y0; omega
  have Gy0 : Hid (y0 < dw) := by show y0 < dw; rw [fo]; omega
  have GuY : Hid (u < y1 * dw + y0) := by show u < y1 * dw + y0; omega
  have Gd1 : Hid (d1 < dw) := by show d1 < dw; rw [gm] at abl; rw [fo]; omega
  have Gd0 : Hid (d0 < dw) := by show d0 < dw; rw [fo]; omega
  have GST : Hid (Wd.zt dw y1 y0 u d1 q r) := by rw [hr, ht1, hq]; exact Wd.zt.start Rk (aa Gd1)
  have GqB : Hid (q < dh) := show q < dh by omega
  have GrB : Hid (r < dw) := show r < dw by have := aa GY1; omega
  have GY3 := Lib.hid hY3
  have GSH := hide hsh
  have GuB : Hid (u < Y) := huY
  have bui : 1 ≤ (y1 : Int) := by rw [hy1]; omega
  have HLZ := hide hlz
  have H1 := Lib.hid hYY; have H2 := Lib.hid hy1; have H3 := Lib.hid hy0; have H4 := Lib.hid hp1; have H5 := Lib.hid hp2; have H6 := Lib.hid hu; have H7 := Lib.hid hun; have H8 := Lib.hid hd1; have H9 := Lib.hid hd0
  have Nf := Lib.hid hq; have H11 := Lib.hid ht1; have H12 := Lib.hid hr
  have G1 := hide hY1; have G2 := hide hY2
  clear hlz hYY hy1 hy0 hp1 hp2 hu hun hd1 hd0 hY1 hY2 hq ht1 hr hsh bnw bfw huY abl hY3 bnu bft hr1 Rk
  go_enter Tryz.func246, Tryz.ntmps246
  go_wp2_with fail
  refine ((aa HLZ) _).mono ?_
  rintro e w' ⟨rfl, rfl⟩
  go_upto_block 0 with (fail)
  go_cut [15] (fun qv wx => w' = wx ∧ qv = .int .u64 (((u * dw + d1) / (y1 * dw + y0) : Nat) : Int))
  case first =>
   go_wp2_with fail
   go_loop [15, 16] (fun qv rv => ∃ q r : Nat, qv = .int .u64 ((q : Nat) : Int) ∧ rv = .int .u64 ((r : Nat) : Int) ∧ Hid (q < dh) ∧ Hid (r < dw) ∧ Hid (Wd.zt dw y1 y0 u d1 q r)) (fun qv _ => (intOf qv).toNat)
   case atStart => exact ⟨q, r, rfl, rfl, GqB, GrB, GST⟩
   case round =>
    obtain ⟨q2, r2, rfl, rfl, hq2, hr2, HI⟩ := hrel
    obtain ⟨q3, hq3⟩ : ∃ t, t = q2 - 1 := ⟨_, rfl⟩
    obtain ⟨r3, hr3⟩ : ∃ t, t = r2 + y1 := ⟨_, rfl⟩
    have f1 : 1 ≤ q2 → IntKind.u64.wrap ((q2 : Int) - 1) = (q3 : Int) := fun h => by
     have := hq2.out; rw [gm] at this; rw [IntKind.wrap_u64]; omega
    have f2 : IntKind.u64.wrap ((r2 : Int) + (y1 : Int)) = (r3 : Int) := Nh hr3 (by have h1 := hr2.out; have h2 := aa GY1; rw [fo] at h1 h2; rw [gm]; omega)
    have hstep : (dw ≤ q2 ∨ dw * r2 + d1 < q2 * y0) → 1 ≤ q2 ∧ Wd.zt dw y1 y0 u d1 q3 r3 := fun h => by
     rw [hq3, hr3]; exact HI.out.step (aa Gi) (aa GuY) (aa Gd1) h
    have aeb := hide hstep
    by_cases hb : dw ≤ q2
    ·
     obtain ⟨hq1, Am⟩ := hstep (.inl hb)
     have hbd : decide ((4294967296 : Int) ≤ (q2 : Int)) = true := by rw [fo] at hb; simp; omega
     have Jc := f1 hq1
     have Uq := hide hq1; have Rz := hide Am; have Uo := hide hq3
     by_cases hr : dw ≤ r3
     ·
      have hrd : decide ((4294967296 : Int) ≤ (r3 : Int)) = true := by rw [fo] at hr; simp; omega
      have hfin := Am.stop (aa Gi) (aa Gy0) (aa GuY) hr
      have Gt := Lib.hid hfin
      clear hb hr hq3 hr3 f1 hstep hq1 Am hfin HI
      go_wp2_with fail
      go_meet
      exact ⟨rfl, Gt.out ▸ rfl⟩
     ·
      have hrd : decide ((4294967296 : Int) ≤ (r3 : Int)) = false := by rw [fo] at hr; simp; omega
      have HR := hide (show r3 < dw by omega)
      clear hb hr hq3 hr3 f1 hstep hq1 Am HI
      go_wp2_with fail
      go_round
      case rel => exact ⟨q3, r3, rfl, rfl, by rw [Uo.out]; exact Nat.lt_of_le_of_lt (Nat.sub_le _ _) hq2.out, HR, Rz⟩
      case measure => have h1 := Uq.out; have h2 := Uo.out; simp [intOf]; omega
    ·
     have hbd : decide ((4294967296 : Int) ≤ (q2 : Int)) = false := by rw [fo] at hb; simp; omega
     obtain ⟨pp, zy⟩ : ∃ t, t = q2 * y0 := ⟨_, rfl⟩
     obtain ⟨m2, hm2⟩ : ∃ t, t = dw * r2 := ⟨_, rfl⟩
     obtain ⟨m3, Mq⟩ : ∃ t, t = m2 + d1 := ⟨_, rfl⟩
     have g0 : pp < dh := by
      have h1 : q2 * y0 ≤ (dw - 1) * (dw - 1) := afe (by omega) (aa Gy0)
      rw [zy]; rw [fo] at h1; rw [gm]; omega
     have g1 : IntKind.u64.wrap ((q2 : Int) * (y0 : Int)) = (pp : Int) := Ni zy g0
     have g2 : IntKind.u64.wrap (4294967296 * (r2 : Int)) = (m2 : Int) := by
      have h1 := hr2.out
      rw [fo] at h1 hm2
      rw [IntKind.wrap_u64, hm2]; omega
     have g3 : IntKind.u64.wrap ((m2 : Int) + (d1 : Int)) = (m3 : Int) := Nh Mq (by have h1 := hr2.out; have h2 := aa Gd1; rw [fo] at h1 h2 hm2; rw [gm]; omega)
     by_cases ht : m3 < pp
     ·
      have htd : decide ((m3 : Int) < (pp : Int)) = true := by simp; omega
      have avv : decide (m3 < pp) = true := by simp; omega
      obtain ⟨hq1, Am⟩ := hstep (.inr om)
      have Jc := f1 hq1
      have Uq := hide hq1; have Rz := hide Am; have Uo := hide hq3
      by_cases hr : dw ≤ r3
      ·
       have hrd : decide ((4294967296 : Int) ≤ (r3 : Int)) = true := by rw [fo] at hr; simp; omega
       have hfin := Am.stop (aa Gi) (aa Gy0) (aa GuY) hr
       have Gt := Lib.hid hfin
       clear hb hr hq3 hr3 f1 hstep hq1 Am hfin HI zy hm2 Mq g0 ht
       go_wp2_with fail
       go_meet
       exact ⟨rfl, Gt.out ▸ rfl⟩
      ·
       have hrd : decide ((4294967296 : Int) ≤ (r3 : Int)) = false := by rw [fo] at hr; simp; omega
       have HR := hide (show r3 < dw by omega)
       clear hb hr hq3 hr3 f1 hstep hq1 Am HI zy hm2 Mq g0 ht
       go_wp2_with fail
       go_round
       case rel => exact ⟨q3, r3, rfl, rfl, by rw [Uo.out]; exact Nat.lt_of_le_of_lt (Nat.sub_le _ _) hq2.out, HR, Rz⟩
       case measure => have h1 := Uq.out; have h2 := Uo.out; simp [intOf]; omega
     ·
      have htd : decide ((m3 : Int) < (pp : Int)) = false := by simp; omega
      have avv : decide (m3 < pp) = false := by simp; omega
      have hfin := HI.out.done (aa Gi) om
      have Gt := Lib.hid hfin
      clear hb hq3 hr3 f1 hstep hfin HI zy hm2 Mq g0 ht
      go_wp2_with fail
      go_meet
      exact ⟨rfl, Gt.out ▸ rfl⟩
  case rest =>
   obtain ⟨rfl, rfl⟩ := hcut
   obtain ⟨q1, hq1⟩ : ∃ t, t = (u * dw + d1) / (y1 * dw + y0) := ⟨_, rfl⟩
   obtain ⟨v, hv⟩ : ∃ t, t = (u * dw + d1) % (y1 * dw + y0) := ⟨_, rfl⟩
   rw [← hq1]
   have Ai : u * dw + d1 = q1 * Y + v := by
    rw [hq1, hv, GY3.out, Nat.mul_comm _ (y1 * dw + y0)]; exact (Nat.div_add_mod _ _).symm
   have hvY : v < Y := by rw [hv, GY3.out]; exact Nat.mod_lt _ (aa Gi)
   have hvB : v < dh := Nat.lt_trans hvY (aa G2)
   have ang : q1 < dw := by rw [hq1]; exact Wd.ahu (aa Gi) (aa GuY) (aa Gd1)
   have k1 : IntKind.u64.wrap ((u : Int) * 4294967296) = ((u * dw % dh : Nat) : Int) := Gj (by rw [fo]; simp)
   have k2 : IntKind.u64.wrap (((u * dw % dh : Nat) : Int) + (d1 : Int)) = (((u * dw % dh + d1) % dh : Nat) : Int) := Gj (by simp)
   have k3 : IntKind.u64.wrap ((q1 : Int) * (Y : Int)) = ((q1 * Y % dh : Nat) : Int) := Gj (by simp)
   have k4 := Gu hvB (afc Ai hvB)
   obtain ⟨a1, ha1⟩ : ∃ t, t = u * dw % dh := ⟨_, rfl⟩
   rw [← ha1] at k1 k2 k4
   obtain ⟨a2, ha2⟩ : ∃ t, t = (a1 + d1) % dh := ⟨_, rfl⟩
   rw [← ha2] at k2 k4
   obtain ⟨a3, ha3⟩ : ∃ t, t = q1 * Y % dh := ⟨_, rfl⟩
   rw [← ha3] at k3 k4
   obtain ⟨q', hq'⟩ : ∃ t, t = v / y1 := ⟨_, rfl⟩
   obtain ⟨t', ht'⟩ : ∃ t, t = q' * y1 := ⟨_, rfl⟩
   obtain ⟨r', hr'⟩ : ∃ t, t = v - t' := ⟨_, rfl⟩
   have hqv : q' ≤ v := by rw [hq']; exact Nat.div_le_self _ _
   have htv : t' ≤ v := by rw [ht', hq']; exact Nat.div_mul_le_self _ _
   have Rk : 0 < y1 := by omega
   have hrv : r' < y1 := by rw [hr', ht', hq', Nat.mul_comm, ← Nat.mod_eq_sub_mul_div]; exact Nat.mod_lt _ Rk
   have k5 : IntKind.u64.wrap ((v : Int) / (y1 : Int)) = (q' : Int) := Gu om (.inl (by rw [hq']; simp))
   have k6 : IntKind.u64.wrap ((q' : Int) * (y1 : Int)) = (t' : Int) := Ni ht' (by omega)
   have k7 : IntKind.u64.wrap ((v : Int) - (t' : Int)) = (r' : Int) := by rw [hr']; exact Yj htv hvB
   have GvY : Hid (v < y1 * dw + y0) := by show v < y1 * dw + y0; rw [← GY3.out]; exact hvY
   have bpn : Hid (Wd.zt dw y1 y0 v d0 q' r') := by rw [hr', ht', hq']; exact Wd.zt.start Rk (aa Gd0)
   have bpm : Hid (q' < dh) := show q' < dh by omega
   have bpl : Hid (r' < dw) := show r' < dw by have := aa GY1; omega
   have K1 := Lib.hid hq1; have K2 := Lib.hid hv; have K3 := hide hvB; have K4 := hide ang
   clear hq1 hv Ai hvY hvB ang ha1 ha2 ha3 hq' ht' hr' hqv htv Rk hrv
   go_upto_block 2 with (fail)
   go_cut [18] (fun qv wx => w' = wx ∧ qv = .int .u64 (((v * dw + d0) / (y1 * dw + y0) : Nat) : Int))
   case first =>
    go_wp2_with fail
    go_loop [18, 16] (fun qv rv => ∃ q r : Nat, qv = .int .u64 ((q : Nat) : Int) ∧ rv = .int .u64 ((r : Nat) : Int) ∧ Hid (q < dh) ∧ Hid (r < dw) ∧ Hid (Wd.zt dw y1 y0 v d0 q r)) (fun qv _ => (intOf qv).toNat)
    case atStart => exact ⟨q', r', rfl, rfl, bpm, bpl, bpn⟩
    case round =>
     obtain ⟨q2, r2, rfl, rfl, hq2, hr2, HI⟩ := hrel
     obtain ⟨q3, hq3⟩ : ∃ t, t = q2 - 1 := ⟨_, rfl⟩
     obtain ⟨r3, hr3⟩ : ∃ t, t = r2 + y1 := ⟨_, rfl⟩
     have f1 : 1 ≤ q2 → IntKind.u64.wrap ((q2 : Int) - 1) = (q3 : Int) := fun h => by
      have := hq2.out; rw [gm] at this; rw [IntKind.wrap_u64]; omega
     have f2 : IntKind.u64.wrap ((r2 : Int) + (y1 : Int)) = (r3 : Int) := Nh hr3 (by have h1 := hr2.out; have h2 := aa GY1; rw [fo] at h1 h2; rw [gm]; omega)
     have hstep : (dw ≤ q2 ∨ dw * r2 + d0 < q2 * y0) → 1 ≤ q2 ∧ Wd.zt dw y1 y0 v d0 q3 r3 := fun h => by
      rw [hq3, hr3]; exact HI.out.step (aa Gi) (aa GvY) (aa Gd0) h
     have aeb := hide hstep
     by_cases hb : dw ≤ q2
     ·
      obtain ⟨hq1, Am⟩ := hstep (.inl hb)
      have hbd : decide ((4294967296 : Int) ≤ (q2 : Int)) = true := by rw [fo] at hb; simp; omega
      have Jc := f1 hq1
      have Uq := hide hq1; have Rz := hide Am; have Uo := hide hq3
      by_cases hr : dw ≤ r3
      ·
       have hrd : decide ((4294967296 : Int) ≤ (r3 : Int)) = true := by rw [fo] at hr; simp; omega
       have hfin := Am.stop (aa Gi) (aa Gy0) (aa GvY) hr
       have Gt := Lib.hid hfin
       clear hb hr hq3 hr3 f1 hstep hq1 Am hfin HI
       go_wp2_with fail
       go_meet
       exact ⟨rfl, Gt.out ▸ rfl⟩
      ·
       have hrd : decide ((4294967296 : Int) ≤ (r3 : Int)) = false := by rw [fo] at hr; simp; omega
       have HR := hide (show r3 < dw by omega)
       clear hb hr hq3 hr3 f1 hstep hq1 Am HI
       go_wp2_with fail
       go_round
       case rel => exact ⟨q3, r3, rfl, rfl, by rw [Uo.out]; exact Nat.lt_of_le_of_lt (Nat.sub_le _ _) hq2.out, HR, Rz⟩
       case measure => have h1 := Uq.out; have h2 := Uo.out; simp [intOf]; omega
     ·
      have hbd : decide ((4294967296 : Int) ≤ (q2 : Int)) = false := by rw [fo] at hb; simp; omega
      obtain ⟨pp, zy⟩ : ∃ t, t = q2 * y0 := ⟨_, rfl⟩
      obtain ⟨m2, hm2⟩ : ∃ t, t = dw * r2 := ⟨_, rfl⟩
      obtain ⟨m3, Mq⟩ : ∃ t, t = m2 + d0 := ⟨_, rfl⟩
      have g0 : pp < dh := by
       have h1 : q2 * y0 ≤ (dw - 1) * (dw - 1) := afe (by omega) (aa Gy0)
       rw [zy]; rw [fo] at h1; rw [gm]; omega
      have g1 : IntKind.u64.wrap ((q2 : Int) * (y0 : Int)) = (pp : Int) := Ni zy g0
      have g2 : IntKind.u64.wrap (4294967296 * (r2 : Int)) = (m2 : Int) := by
       have h1 := hr2.out
       rw [fo] at h1 hm2
       rw [IntKind.wrap_u64, hm2]; omega
      have g3 : IntKind.u64.wrap ((m2 : Int) + (d0 : Int)) = (m3 : Int) := Nh Mq (by have h1 := hr2.out; have h2 := aa Gd0; rw [fo] at h1 h2 hm2; rw [gm]; omega)
      by_cases ht : m3 < pp
      ·
       have htd : decide ((m3 : Int) < (pp : Int)) = true := by simp; omega
       have avv : decide (m3 < pp) = true := by simp; omega
       obtain ⟨hq1, Am⟩ := hstep (.inr om)
       have Jc := f1 hq1
       have Uq := hide hq1; have Rz := hide Am; have Uo := hide hq3
       by_cases hr : dw ≤ r3
       ·
        have hrd : decide ((4294967296 : Int) ≤ (r3 : Int)) = true := by rw [fo] at hr; simp; omega
        have hfin := Am.stop (aa Gi) (aa Gy0) (aa GvY) hr
        have Gt := Lib.hid hfin
        clear hb hr hq3 hr3 f1 hstep hq1 Am hfin HI zy hm2 Mq g0 ht
        go_wp2_with fail
        go_meet
        exact ⟨rfl, Gt.out ▸ rfl⟩
       ·
        have hrd : decide ((4294967296 : Int) ≤ (r3 : Int)) = false := by rw [fo] at hr; simp; omega
        have HR := hide (show r3 < dw by omega)
        clear hb hr hq3 hr3 f1 hstep hq1 Am HI zy hm2 Mq g0 ht
        go_wp2_with fail
        go_round
        case rel => exact ⟨q3, r3, rfl, rfl, by rw [Uo.out]; exact Nat.lt_of_le_of_lt (Nat.sub_le _ _) hq2.out, HR, Rz⟩
        case measure => have h1 := Uq.out; have h2 := Uo.out; simp [intOf]; omega
      ·
       have htd : decide ((m3 : Int) < (pp : Int)) = false := by simp; omega
       have avv : decide (m3 < pp) = false := by simp; omega
       have hfin := HI.out.done (aa Gi) om
       have Gt := Lib.hid hfin
       clear hb hq3 hr3 f1 hstep hfin HI zy hm2 Mq g0 ht
       go_wp2_with fail
       go_meet
       exact ⟨rfl, Gt.out ▸ rfl⟩
   case rest =>
    obtain ⟨rfl, rfl⟩ := hcut
    obtain ⟨q0, hq0⟩ : ∃ t, t = (v * dw + d0) / (y1 * dw + y0) := ⟨_, rfl⟩
    obtain ⟨R, hR⟩ : ∃ t, t = (v * dw + d0) % (y1 * dw + y0) := ⟨_, rfl⟩
    rw [← hq0]
    have Ai : v * dw + d0 = q0 * Y + R := by
     rw [hq0, hR, GY3.out, Nat.mul_comm _ (y1 * dw + y0)]; exact (Nat.div_add_mod _ _).symm
    have hRY : R < Y := by rw [hR, GY3.out]; exact Nat.mod_lt _ (aa Gi)
    have hRB : R < dh := Nat.lt_trans hRY (aa G2)
    have bnv : q0 < dw := by rw [hq0]; exact Wd.ahu (aa Gi) (aa GvY) (aa Gd0)
    have ang := aa K4
    have n1 : IntKind.u64.wrap ((q1 : Int) * 4294967296) = ((q1 * dw : Nat) : Int) := Gu (by rw [fo] at *; rw [gm]; omega) (.inl (by rw [fo]; simp))
    have n2 : IntKind.u64.wrap (((q1 * dw : Nat) : Int) + (q0 : Int)) = ((q1 * dw + q0 : Nat) : Int) := Gu (by rw [fo] at *; rw [gm]; omega) (.inl (by simp))
    have n3 : IntKind.u64.wrap ((v : Int) * 4294967296) = ((v * dw % dh : Nat) : Int) := Gj (by rw [fo]; simp)
    have n4 : IntKind.u64.wrap (((v * dw % dh : Nat) : Int) + (d0 : Int)) = (((v * dw % dh + d0) % dh : Nat) : Int) := Gj (by simp)
    have n5 : IntKind.u64.wrap ((q0 : Int) * (Y : Int)) = ((q0 * Y % dh : Nat) : Int) := Gj (by simp)
    have n6 := Gu hRB (afc Ai hRB)
    obtain ⟨b1, hb1⟩ : ∃ t, t = q1 * dw := ⟨_, rfl⟩
    rw [← hb1] at n1 n2
    obtain ⟨Q, hQ⟩ : ∃ t, t = b1 + q0 := ⟨_, rfl⟩
    rw [← hQ] at n2
    obtain ⟨c1, hc1⟩ : ∃ t, t = v * dw % dh := ⟨_, rfl⟩
    rw [← hc1] at n3 n4 n6
    obtain ⟨c2, hc2⟩ : ∃ t, t = (c1 + d0) % dh := ⟨_, rfl⟩
    rw [← hc2] at n4 n6
    obtain ⟨c3, hc3⟩ : ∃ t, t = q0 * Y % dh := ⟨_, rfl⟩
    rw [← hc3] at n5 n6
    obtain ⟨z, hz⟩ : ∃ t, t = R / 2 ^ s := ⟨_, rfl⟩
    have n7 : (R : Int) / 2 ^ s = (z : Int) := by rw [hz]; simp
    have hfin : Q = (hi * dh + lo) / y ∧ z = (hi * dh + lo) % y := by
     have hY0 : 0 < Y := Nat.lt_of_lt_of_le om (aa G1)
     have hS : 0 < 2 ^ s := Nat.pow_pos om
     have hN : u * (dw * dw) + d1 * dw + d0 = (hi * dh + lo) * 2 ^ s := by
      have h1 := (aa GSH).1
      rw [← H4.out, ← H5.out, ← H6.out, ← H7.out] at h1
      have h2 : un = d1 * dw + d0 := by rw [H8.out, H9.out, fo]; omega
      rw [← h1, h2, show dw * dw = dh from rfl, Nat.add_assoc]
     have h3 := Wd.alp (b := dw) (Y := Y) (u := u) (d1 := d1) (d0 := d0) hY0
     have h4 := Wd.Qu (N := hi * dh + lo) (Y := y) (S := 2 ^ s) hS
     rw [hN] at h3
     rw [← H1.out] at h4
     rw [GY3.out] at h3 h4
     rw [← K1.out, ← K2.out, ← hq0, ← hR] at h3
     rw [h3.1, h3.2] at h4
     exact ⟨by rw [hQ, hb1]; exact h4.1, by rw [hz]; exact h4.2⟩
    have HF := hide hfin
    clear hq0 hR Ai hRY hRB bnv ang hb1 hQ hc1 hc2 hc3 hz hfin
    go_wp2_with fail
    go_ret2
    exact ⟨auo (aa HF).1 (aa HF).2, 0, rfl⟩

theorem Kg (s : Nat) (hs : s ≤ 64) : 2 ^ s * 2 ^ (64 - s) = dh := by
 rw [← Nat.pow_add, show s + (64 - s) = 64 by omega]; rfl

theorem Xc {m s : Nat} (hs : s ≤ 64) : m * 2 ^ s % dh = m % 2 ^ (64 - s) * 2 ^ s := by
 rw [← Kg s hs, Nat.mul_comm (2 ^ s), Nat.mul_mod_mul_right]

theorem Pm {z a s : Nat} (hz : z < 2 ^ s) : z ||| (a * 2 ^ s) = z + a * 2 ^ s := by
 rw [Nat.or_comm, Nat.mul_comm a, ← Nat.two_pow_add_eq_or_of_lt hz, Nat.add_comm]

def bpd (w : World) (xl : List Nat) (v : Nat) (e : Ending) (w' : World) : Prop :=
 ∃ zr, e = .returned (.slice (some ⟨w.heap.size, 0, none⟩) (xl.length + 1) (xl.length + 1)) ∧ zr.length = xl.length + 1 ∧ (∀ x ∈ zr, x < dh) ∧ Wd.val dh zr = v ∧ ZB .u64 w' w.heap.size 157 zr ∧ Below w.heap.size w w'

theorem avb (Ax : Option Addr) (cx : Nat) (xl : List Nat) (n s : Nat) (w : World) (hx : jy w Ax cx xl n) (hs : s < 64) (hk : xl.length + 1 ≤ 35184372088832) :
  Calls Tryz.prog 227 #[.slice Ax xl.length cx, .int .u64 ((s : Nat) : Int)] w fun e w' => bpd w xl (n * 2 ^ s) e w' := by
 have hmk := Kk (xl.length + 1) hk
 simp only [Int.natCast_add, Int.cast_ofNat_Int] at hmk
 have hx1 := hx.qp; have hx2 := hx.cap2
 go_enter Tryz.func227, Tryz.ntmps227
 go_wp2
 go_loopw [14] (fun iv wr => ∃ (i : Nat) (zr : List Nat), i ≤ xl.length ∧ iv = .int .i64 ((i : Nat) : Int) ∧ Hid (Wd.Cq dh (2 ^ s) xl zr i) ∧ ZB .u64 wr w.heap.size 157 zr ∧ Below w.heap.size w wr) (fun iv _ => xl.length - (intOf iv).toNat)
 case atStart => exact ⟨0, List.replicate (xl.length + 1) 0, Nat.zero_le _, rfl, Wd.Cq.start _ _ (Nat.pow_pos om) (by rw [gm]; omega) (by simp) (Lf _), heap_alloc_new w _, (Below.refl _ _).alloc (Nat.le_refl _) _⟩
 case round =>
  obtain ⟨i, zr, hi, rfl, HI, ko, hg⟩ := hrel
  have hlen := HI.out.len
  by_cases hlt : i < xl.length
  ·
   obtain ⟨bx, ox, rfl, hbx, hcx⟩ := hx.ws om
   have Dg := (hg.cell (p := ⟨bx, ox + i, none⟩) hbx).trans (hcx i hlt)
   clear hcx
   have hzc := ko.cell i om
   have Mj := ko.frozen i
   have bnn := ko.cell (i + 1) om
   have bfm := ko.frozen (i + 1)
   obtain ⟨m, hm⟩ : ∃ m, m = Wd.g xl i := ⟨_, rfl⟩
   obtain ⟨z, hz⟩ : ∃ z, z = Wd.g zr i := ⟨_, rfl⟩
   rw [← hm] at Dg
   rw [← hz] at hzc
   have Jb : m < dh := by rw [hm]; exact Wd.getD_lt (by rw [gm]; omega) _ hx.lt i
   have Fb : z < dh := by rw [hz]; exact Wd.getD_lt (by rw [gm]; omega) _ HI.out.lt i
   have hzS : z < 2 ^ s := by rw [hz]; exact HI.out.low
   obtain ⟨p, hp⟩ : ∃ p, p = m % 2 ^ (64 - s) * 2 ^ s := ⟨_, rfl⟩
   obtain ⟨r, hr⟩ : ∃ r, r = z + p := ⟨_, rfl⟩
   obtain ⟨q, hq⟩ : ∃ q, q = m / 2 ^ (64 - s) := ⟨_, rfl⟩
   have Px : p < dh := by rw [hp, ← Xc om]; exact Nat.mod_lt _ (by rw [gm]; omega)
   have e1 : IntKind.u64.wrap ((m : Int) * 2 ^ s) = (p : Int) := by
    rw [hp, ← Xc om, IntKind.wrap_u64, gm]; simp
   have e2 : Go.bits .or .u64 (z : Int) (p : Int) = (r : Int) := by
    rw [bits_or_u64_nat z p Fb Px, hr, hp, Pm hzS]
   have e3 : (m : Int) / 2 ^ (64 - s) = (q : Int) := by rw [hq]; simp
   have hfin : ∀ W, W = (wr.setCell ⟨w.heap.size, i, none⟩ (.int .u64 (r : Int))).setCell ⟨w.heap.size, i + 1, none⟩ (.int .u64 (q : Int)) → Hid (Wd.Cq dh (2 ^ s) xl ((zr.set i r).set (i + 1) q) (i + 1)) ∧ ZB .u64 W w.heap.size 157 ((zr.set i r).set (i + 1) q) ∧ Below w.heap.size w W := by
    rintro W rfl
    refine ⟨?_, (ko.Az _ _).Az _ _, (hg.setCell (by simp) _).setCell (by simp) _⟩
    rw [hr, hp, hq, hm, hz]
    exact HI.out.step (Kg s om) (Nat.pow_pos om) hlt (by rw [← Wd.qa, ← hm]; exact Jb)
   have HF := hide hfin
   clear hfin hp hr hq hm hz hzS ko hg
   go_wp2_with fail
   go_roundw
   case rel =>
    obtain ⟨r1, r2, r3⟩ := (aa HF) _ rfl
    exact ⟨i + 1, _, by omega, by go_num, r1, r2, r3⟩
   case measure => simp [intOf] <;> omega
  ·
   have e : i = xl.length := by omega
   subst e
   have hv := HI.out.done
   rw [hx.val] at hv
   have HV := Lib.hid hv
   clear hv
   go_wp2_with fail
   go_ret
   exact ⟨zr, rfl, hlen, HI.out.lt, HV.out, ko, hg⟩

theorem aqf (Ax : Option Addr) (cx : Nat) (xl : List Nat) (s : Nat) (w : World) (hx : Ws .u64 w w.heap.size Ax xl) (hx1 : xl.length ≤ cx) (hx2 : cx ≤ 9223372036854775807) (hxl : ∀ x ∈ xl, x < dh) (hs : s < 64) (hk : xl.length ≤ 35184372088832) :
  Calls Tryz.prog 229 #[.slice Ax xl.length cx, .int .u64 ((s : Nat) : Int)] w fun e w' => Es w (Wd.val dh xl / 2 ^ s) e w' := by
 have hmk := Kk xl.length hk
 go_enter Tryz.func229, Tryz.ntmps229
 go_wp2
 go_loopw [12] (fun iv wr => ∃ (i : Nat) (zr : List Nat), i ≤ xl.length ∧ iv = .int .i64 ((i : Nat) : Int) ∧ Hid (Wd.Bz dh (2 ^ s) xl zr i) ∧ ZB .u64 wr w.heap.size 157 zr ∧ Below w.heap.size w wr) (fun iv _ => xl.length - (intOf iv).toNat)
 case atStart => exact ⟨0, List.replicate xl.length 0, Nat.zero_le _, rfl, Wd.Bz.start _ _ (by simp) (Jd (by rw [gm]; omega) _), heap_alloc_new w _, (Below.refl _ _).alloc (Nat.le_refl _) _⟩
 case round =>
  obtain ⟨i, zr, hi, rfl, HI, ko, hg⟩ := hrel
  have hlen := HI.out.len
  by_cases hlt : i < xl.length
  ·
   obtain ⟨bx, ox, hA, hbx, hcx⟩ := hx om
   have hxr : Ws .u64 wr w.heap.size Ax xl := hx.below hg
   subst hA
   have Dg := (hg.cell (p := ⟨bx, ox + i, none⟩) hbx).trans (hcx i hlt)
   clear hcx
   have hzc := ko.cell i om
   have Mj := ko.frozen i
   obtain ⟨m, hm⟩ : ∃ m, m = Wd.g xl i := ⟨_, rfl⟩
   obtain ⟨m1, hm1⟩ : ∃ m1, m1 = Wd.g xl (i + 1) := ⟨_, rfl⟩
   rw [← hm] at Dg
   have Jb : m < dh := by rw [hm]; exact Wd.getD_lt (by rw [gm]; omega) _ hxl i
   obtain ⟨q, hq⟩ : ∃ q, q = m / 2 ^ s := ⟨_, rfl⟩
   obtain ⟨p, hp⟩ : ∃ p, p = m1 % 2 ^ s * 2 ^ (64 - s) := ⟨_, rfl⟩
   obtain ⟨r, hr⟩ : ∃ r, r = q + p := ⟨_, rfl⟩
   have hsh : m1 * 2 ^ (64 - s) % dh = p := by
    rw [Xc om, hp, show 64 - (64 - s) = s by omega]
   have Px : p < dh := by rw [← hsh]; exact Nat.mod_lt _ (by rw [gm]; omega)
   have Lb : q < dh := by rw [hq]; exact Nat.lt_of_le_of_lt (Nat.div_le_self _ _) Jb
   have hqT : q < 2 ^ (64 - s) := by
    rw [hq, Nat.div_lt_iff_lt_mul (Nat.pow_pos om), Nat.mul_comm, Kg s om]; exact Jb
   have e0 : (m : Int) / 2 ^ s = (q : Int) := by rw [hq]; simp
   have e1 : IntKind.u64.wrap ((m1 : Int) * 2 ^ (64 - s)) = (p : Int) := by
    rw [← hsh, IntKind.wrap_u64, gm]; simp
   have e1' : IntKind.u64.wrap ((m1 : Int) * 2 ^ min (64 - s) 64) = (p : Int) := by rw [Nat.min_eq_left om]; exact e1
   have e2 : Go.bits .or .u64 (q : Int) (p : Int) = (r : Int) := by
    rw [bits_or_u64_nat q p Lb Px, hr, hp, Pm hqT]
   have hfin : ∀ W, W = wr.drew.setCell ⟨w.heap.size, i, none⟩ (.int .u64 (r : Int)) → Hid (Wd.Bz dh (2 ^ s) xl (zr.set i r) (i + 1)) ∧ ZB .u64 W w.heap.size 157 (zr.set i r) ∧ Below w.heap.size w W := by
    rintro W rfl
    refine ⟨?_, (ko.drew).Az _ _, hg.drew.setCell (by simp) _⟩
    rw [hr, hp, hq, hm, hm1]
    exact HI.out.step (Kg s om) (Nat.pow_pos om) hlt (by rw [← Wd.qa, ← hm]; exact Jb)
   have HF := hide hfin
   have hlim : ∀ W, Ws .u64 W w.heap.size (some ⟨bx, ox, none⟩) xl → Calls Tryz.prog 214 #[.slice (some ⟨bx, ox, none⟩) xl.length cx, .int .i64 ((i : Int) + 1)] W fun e w' => e = .returned (.int .u64 ((m1 : Nat) : Int)) ∧ w' = W := fun W h => by
    rw [hm1]; exact Jj _ cx xl w.heap.size (i + 1) W h hx1 hx2 om
   have bpi := hide hlim
   have hwi : IntKind.i64.wrap ((i : Int) + 1) = (i : Int) + 1 := IntWalk.i64_in _ om
   clear hfin hp hr hq hm hm1 hqT hsh ko hg hlim
   go_wp2_with fail
   go_region_with (go_at_call 214; refine ((aa bpi) _ (by exact hxr)).mono ?_; rintro e w' ⟨rfl, rfl⟩)
   all_goals
    go_wp2
    go_roundw
    case rel =>
     simp only [e1', e2]
     obtain ⟨r1, r2, r3⟩ := (aa HF) _ rfl
     exact ⟨i + 1, _, by omega, by go_num, r1, r2, r3⟩
    case measure => simp [intOf] <;> omega
  ·
   have e : i = xl.length := by omega
   subst e
   have hv := HI.out.done (Kg s om) (Nat.pow_pos om)
   have HV := Lib.hid hv
   clear hv
   go_wp2_with fail
   have htr := Cx (some ⟨w.heap.size, 0, none⟩) zr.length zr (wr.heap.size) wr (ko.Dw _ ko.lt) (Nat.le_refl _) om
   rw [hlen] at htr
   refine htr.mono ?_
   rintro e w' ⟨⟨k, rfl, ht, hk2⟩, rfl⟩
   go_wp2_with fail
   go_ret
   have hk3 : k = (zr.take k).length := by simp; omega
   refine ⟨some ⟨w.heap.size, 0, none⟩, xl.length, zr.take k, Hd hk3, ?_, hg⟩
   have := jy.Bq (cap := xl.length) ko HI.out.lt ht om om om
   rwa [HV.out] at this

theorem bdq {B : Nat} (hB : 0 < B) (l : List Nat) (n : Nat) (hn : 1 ≤ n) (hl : l.length = n + 1) (hlt : ∀ x ∈ l, x < B) : Wd.val B l < (l.getD n 0 * B + l.getD (n - 1) 0 + 1) * B ^ (n - 1) := by
 have h1 := Wd.mq B l n om
 rw [Wd.iy _ _ _ om] at h1
 have h2 := Wd.mq B l (n - 1) om
 rw [show n - 1 + 1 = n by omega] at h2
 have h3 := Wd.za (B := B) (l.take (n - 1)) (fun x hx => hlt x (List.mem_of_mem_take hx))
 rw [List.length_take, Nat.min_eq_left om] at h3
 have e : B ^ n = B ^ (n - 1) * B := by rw [← Nat.pow_succ, show (n - 1).succ = n by omega]
 rw [h1, h2, e]
 generalize B ^ (n - 1) = P at *
 rw [Nat.add_mul, Nat.add_mul, Nat.one_mul, Nat.mul_comm (l.getD (n - 1) 0) P, show l.getD n 0 * B * P = P * B * l.getD n 0 by simp only [Nat.mul_comm, Nat.mul_left_comm, Nat.mul_assoc]]
 omega

theorem ato {B : Nat} (l : List Nat) (n : Nat) (hn : 1 ≤ n) (hl : l.length = n) : l.getD (n - 1) 0 * B ^ (n - 1) ≤ Wd.val B l := by
 have h2 := Wd.mq B l (n - 1) om
 rw [show n - 1 + 1 = n by omega, Wd.iy _ _ _ om] at h2
 rw [h2, Nat.mul_comm]; omega

theorem adp (us : List Nat) (off : Nat) (zc : List Nat) (h : off + zc.length ≤ us.length) : zc = ((win us off zc).drop off).take zc.length := by
 have h1 : (us.take off).length = off := by simp; omega
 simp only [win, List.append_assoc]
 rw [List.drop_append_of_le_length om, List.drop_of_length_le om, List.nil_append, List.take_append_of_le_length (Nat.le_refl _), List.take_of_length_le (Nat.le_refl _)]

structure aid (ul vl zr : List Nat) (q : Nat) : Prop where
 len : zr.length = ul.length
 lt : ∀ x ∈ zr, x < dh
 quo : q = Wd.val dh ul / Wd.val dh vl
 rem : Wd.val dh zr = Wd.val dh ul % Wd.val dh vl

theorem aji (b off cap T n : Nat) (us ul vl : List Nat) (Av : Option Addr) (cv : Nat) (B : Nat) (w : World)
  (hz : ZB .u64 w b T us) (hoff : off + ul.length ≤ us.length) (Kn : ul = (us.drop off).take ul.length) (hcz : ul.length ≤ cap) (aha : cap ≤ 9223372036854775807)
  (hv : Ws .u64 w B Av vl) (hB : B ≤ b) (hcv : vl.length ≤ cv) (ano : cv ≤ 9223372036854775807) (hn : 1 ≤ n) (Em : vl.length = n) (huv : ul.length = n + 1)
  (hlu : ∀ x ∈ ul, x < dh) (hlv : ∀ x ∈ vl, x < dh) (hpre : Wd.val dh ul < dh * Wd.val dh vl) :
  Calls Tryz.prog 228 #[.slice (some ⟨b, off, none⟩) (n + 1) cap, .slice Av n cv] w fun e w' =>
   ∃ zr q, e = .returned (.int .u64 ((q : Nat) : Int)) ∧ aid ul vl zr q ∧ q < dh ∧ ZB .u64 w' b T (win us off zr) ∧ w.grownBy w' (some b) := by
 have hB0 : 0 < dh := by rw [gm]; omega
 have Ho : 0 < Wd.val dh vl := by
  rcases Nat.eq_zero_or_pos (Wd.val dh vl) with h | h
  ·
   rw [h] at hpre; omega
  ·
   exact h
 obtain ⟨bv, ov, hA, hbv, ahb⟩ := hv om
 subst hA
 have hv0 := hv
 have hvt := ahb (n - 1) om
 clear ahb
 have hu0 := hz.cell (off + n) om
 have hu1 := hz.cell (off + (n - 1)) om
 have hgw : ∀ i, i < ul.length → Wd.g us (off + i) = Wd.g ul i := fun i hi => by
  have h := Jt us off ul hoff i hi
  rwa [show win us off ul = us by rw [Kn]; exact Jf us off _ hoff] at h
 rw [hgw n om] at hu0
 rw [hgw (n - 1) om] at hu1
 obtain ⟨un, hun⟩ : ∃ t, t = Wd.g ul n := ⟨_, rfl⟩
 obtain ⟨um, hum⟩ : ∃ t, t = Wd.g ul (n - 1) := ⟨_, rfl⟩
 obtain ⟨vt, agn⟩ : ∃ t, t = Wd.g vl (n - 1) := ⟨_, rfl⟩
 rw [← hun] at hu0
 rw [← hum] at hu1
 rw [← agn] at hvt
 have abl : un < dh := by rw [hun]; exact Wd.getD_lt hB0 _ hlu _
 have anf : um < dh := by rw [hum]; exact Wd.getD_lt hB0 _ hlu _
 have avq : vt < dh := by rw [agn]; exact Wd.getD_lt hB0 _ hlv _
 obtain ⟨Q, hQ⟩ : ∃ t, t = Wd.val dh ul / Wd.val dh vl := ⟨_, rfl⟩
 have hQB : Q < dh := by rw [hQ, Nat.div_lt_iff_lt_mul Ho]; exact hpre
 have hQt : Q * vt ≤ un * dh + um := by
  refine Wd.Ya (V := Wd.val dh vl) (U := Wd.val dh ul) (B := dh) (k := n - 1) ?_ ?_ ?_
  ·
   rw [agn]; exact ato vl n hn Em
  ·
   rw [hun, hum]; exact bdq hB0 ul n hn huv hlu
  ·
   rw [hQ]; exact Nat.div_mul_le_self _ _
 have e1 : IntKind.i64.wrap ((n : Int) - 1) = (n : Int) - 1 := IntWalk.i64_in _ om
 have e2 : (0 : Int) ≤ (n : Int) - 1 := by omega
 have e3 : ((n : Int) - 1).toNat = n - 1 := by omega
 have hvW : Ws .u64 w B (some ⟨bv, ov, none⟩) vl := hv0
 obtain ⟨g, hg⟩ : ∃ t, t = if un < vt then (un * dh + um) / vt else 18446744073709551615 := ⟨_, rfl⟩
 have ane : un < vt → 0 < vt := fun h => by omega
 have hgB : g < dh := by
  rw [hg]; split
  ·
   rename_i h; exact Wd.ahu (ane h) h anf
  ·
   rw [gm]; omega
 have hgQ : Q ≤ g := by
  rw [hg]; split
  ·
   rename_i h; rw [Nat.le_div_iff_mul_le (ane h)]; exact hQt
  ·
   rw [gm] at hQB; omega
 have hsub : ∀ W, ZB .u64 W b T us → Ws .u64 W B (some ⟨bv, ov, none⟩) vl → Calls Tryz.prog 247 #[.slice (some ⟨b, off, none⟩) (n + 1) cap, .slice (some ⟨bv, ov, none⟩) n cv, .int .u64 ((g : Nat) : Int)] W fun e w' =>
   ∃ zr c, e = .returned (.bool (decide (c = 1))) ∧ zr.length = ul.length ∧ (∀ x ∈ zr, x < dh) ∧ Wd.val dh zr + g * Wd.val dh vl = Wd.val dh ul + dh ^ ul.length * c ∧ c ≤ 1 ∧ ZB .u64 w' b T (win us off zr) ∧ W.grownBy w' (some b) := fun W h1 h2 => by
  have := aaw b off cap T us ul vl (some ⟨bv, ov, none⟩) cv B g W h1 hoff Kn hcz aha h2 hB hcv ano (by omega) hlu hlv hgB
  rw [huv, Em] at this
  rw [huv]
  exact this
 have hadd : ∀ W zc, zc.length = n + 1 → (∀ x ∈ zc, x < dh) → ZB .u64 W b T (win us off zc) → Ws .u64 W B (some ⟨bv, ov, none⟩) vl → Calls Tryz.prog 230 #[.slice (some ⟨b, off, none⟩) (n + 1) cap, .slice (some ⟨bv, ov, none⟩) n cv] W fun e w' =>
   ∃ zr c, e = .returned (.int .u64 ((c : Nat) : Int)) ∧ aoj dh zc vl zr c ∧ ZB .u64 w' b T (win us off zr) ∧ W.grownBy w' (some b) := fun W zc hl h0 h1 h2 => by
  have := Ot b off cap T (win us off zc) zc vl (some ⟨bv, ov, none⟩) cv B W h1 (by rw [win_length _ _ _ om]; omega) (adp _ _ _ om) om aha h2 hB hcv ano (by omega) h0 hlv
  rw [hl, Em] at this
  refine this.mono ?_
  rintro e w' ⟨zr, c, h3, h4, h5, h6⟩
  refine ⟨zr, c, h3, h4, ?_, h6⟩
  rwa [bae _ _ _ _ om h4.len] at h5
 have hdone : ∀ g' zr, zr.length = ul.length → (∀ x ∈ zr, x < dh) → Q ≤ g' → Wd.val dh zr + g' * Wd.val dh vl = Wd.val dh ul → aid ul vl zr g' := fun g' zr h1 h2 h3 h4 => by
  have hle : g' ≤ Q := by rw [hQ, Nat.le_div_iff_mul_le Ho]; omega
  have : g' = Q := by omega
  subst this
  refine ⟨h1, h2, hQ, ?_⟩
  have Ai := Nat.div_add_mod (Wd.val dh ul) (Wd.val dh vl)
  rw [← hQ, Nat.mul_comm] at Ai
  omega
 have hpos : ∀ g' zr, zr.length = ul.length → (∀ x ∈ zr, x < dh) → Wd.val dh zr + g' * Wd.val dh vl = Wd.val dh ul + dh ^ ul.length * 1 → 1 ≤ g' := fun g' zr h1 h2 h4 => by
  have hlt := Wd.za zr h2
  rw [h1] at hlt
  rcases Nat.eq_zero_or_pos g' with h | h
  ·
   subst h; simp at h4; omega
  ·
   exact h
 have Iw := hide hpos
 have hstep : ∀ g' zr zr' c', zr.length = ul.length → (∀ x ∈ zr, x < dh) → Q ≤ g' → Wd.val dh zr + g' * Wd.val dh vl = Wd.val dh ul + dh ^ ul.length * 1 → aoj dh zr vl zr' c' →
   1 ≤ g' ∧ Q ≤ g' - 1 ∧ zr'.length = ul.length ∧ Wd.val dh zr' + (g' - 1) * Wd.val dh vl = Wd.val dh ul + dh ^ ul.length * (1 - c') := fun g' zr zr' c' h1 h2 h3 h4 h5 => by
  have hlt := Wd.za zr h2
  rw [h1] at hlt
  have hgV : Wd.val dh ul < g' * Wd.val dh vl := by omega
  have hQg : Q < g' := by rw [hQ, Nat.div_lt_iff_lt_mul Ho]; exact hgV
  have he := h5.eq
  rw [h1] at he
  have hc := h5.c1
  obtain ⟨p, rfl⟩ : ∃ p, g' = p + 1 := ⟨g' - 1, by omega⟩
  rw [Nat.add_mul, Nat.one_mul] at h4
  refine ⟨by omega, by omega, h5.len.trans h1, ?_⟩
  rw [Nat.add_sub_cancel]
  rcases (show c' = 0 ∨ c' = 1 by omega) with rfl | rfl
  ·
   simp only [Nat.mul_zero, Nat.mul_one, Nat.sub_zero, Nat.add_zero] at *; omega
  ·
   simp only [Nat.mul_zero, Nat.mul_one, Nat.sub_self, Nat.add_zero] at *; omega
 have bio := hide hsub; have bjb := hide hadd; have azv := hide hdone; have aeb := hide hstep
 have Ir := Lib.hid huv; have HGB := hide hgB; have HGQ := hide hgQ
 obtain ⟨rr, hrr⟩ : ∃ t, t = (un * dh + um) % vt := ⟨_, rfl⟩
 have hdiv : un < vt → ∀ W, Calls Tryz.prog 246 #[.int .u64 ((un : Nat) : Int), .int .u64 ((um : Nat) : Int), .int .u64 ((vt : Nat) : Int)] W fun e w' => e = .returned (.tuple #[.int .u64 ((g : Nat) : Int), .int .u64 ((rr : Nat) : Int)]) ∧ ∃ k, w' = W.drewN k := fun h W => by
  rw [hg, if_pos h, hrr]
  exact adb un um vt avq anf h W
 have bpk := hide hdiv
 have hlen1 : n + 1 ≤ cap := by omega
 have Rp : n ≤ cv := by omega
 have hbw := hz.lt
 by_cases hlt : un < vt
 ·
  have b1 : decide ((un : Int) < (vt : Int)) = true := by simp; omega
  have b2 : decide (un < vt) = true := by simp; omega
  have rq := hide hlt
  clear Kn Em huv hun hum agn hQ hQB hQt abl anf avq hpre hgw Ho hB0 hlu hlv hg ane hgB hgQ hsub hadd hdone hstep hdiv hrr hpos hlt hoff hcz hcv
  go_enter Tryz.func228, Tryz.ntmps228
  go_wp2_with fail
  go_quiet (fail)
  go_wp2_with fail
  go_quiet ((go_at_call 246; exact aql ((aa bpk) (aa rq) _)))
  go_wp2_with fail
  refine ((aa bio) _ (by exact hz) (by exact hvW)).mono ?_
  rintro e w1 ⟨zr, c, rfl, h1, h2, h3, h4, h5, h6⟩
  have h6' : w.grownBy w1 (some b) := ⟨h6.os, h6.tape, h6.output, h6.size, h6.block⟩
  have Wu := Lib.hid (h1.trans Ir.out)
  have H2 := hide h2
  have H3 := Lib.hid h3
  clear h1 h2 h3 h6
  go_wp2_with fail
  go_loopw [6, 7] (fun gv bv wr => ∃ (g' c' : Nat) (zc : List Nat), gv = .int .u64 ((g' : Nat) : Int) ∧ bv = .bool (decide (c' = 1)) ∧ c' ≤ 1 ∧ Hid (zc.length = n + 1) ∧ Hid (∀ x ∈ zc, x < dh) ∧ Hid (Q ≤ g') ∧ Hid (g' < dh) ∧ Hid (Wd.val dh zc + g' * Wd.val dh vl = Wd.val dh ul + dh ^ ul.length * c') ∧ ZB .u64 wr b T (win us off zc) ∧ w.grownBy wr (some b)) (fun gv _ _ => (intOf gv).toNat)
  case atStart => exact ⟨g, c, zr, rfl, rfl, h4, Wu, H2, HGQ, HGB, H3, h5, h6'⟩
  case round =>
   obtain ⟨g', c', zc, rfl, rfl, hc, hl, hlt', hq', hb', heq, ko, hgr⟩ := hrel
   have Wm : Ws .u64 wr B (some ⟨bv, ov, none⟩) vl := hvW.grown hgr om (fun g e => by injection e with e; omega)
   rcases (show c' = 0 ∨ c' = 1 by omega) with rfl | rfl
   ·
    have hok := (aa azv) g' zc (hl.out.trans Ir.out.symm) hlt'.out hq'.out (by have := heq.out; omega)
    have Dz := hide hok
    clear hok
    go_wp2_with fail
    go_ret
    exact ⟨zc, g', rfl, aa Dz, hb'.out, ko, hgr⟩
   ·
    have hpos := (aa Iw) g' zc (hl.out.trans Ir.out.symm) hlt'.out heq.out
    have f1 : IntKind.u64.wrap ((g' : Int) - 1) = ((g' - 1 : Nat) : Int) := by
     have := hb'.out; rw [gm] at this; rw [IntKind.wrap_u64]; omega
    obtain ⟨g2, hg2⟩ : ∃ t, t = g' - 1 := ⟨_, rfl⟩
    rw [← hg2] at f1
    have HG2 := Lib.hid hg2
    have HP := hide hpos
    clear hg2 hpos
    go_wp2_with fail
    refine ((aa bjb) _ zc hl.out hlt'.out ko Wm).mono ?_
    rintro e w2 ⟨zr', c2, rfl, Li, hz', hg'⟩
    obtain ⟨k1, k2, k3, k4⟩ := (aa aeb) g' zc zr' c2 (hl.out.trans Ir.out.symm) hlt'.out hq'.out heq.out Li
    have hc2 := Li.c1
    have K0 := hide Li.lt
    have K2 := hide k2; have K3 := Lib.hid (k3.trans Ir.out); have K4 := Lib.hid k4
    have agw := Ue hgr hg'
    clear k1 k2 k3 k4 Li hg'
    rcases (show c2 = 0 ∨ c2 = 1 by omega) with rfl | rfl
    ·
     go_wp2_with fail
     go_roundw
     case rel => exact ⟨g2, 1, zr', rfl, rfl, by omega, K3, K0, by rw [HG2.out]; exact K2, by rw [HG2.out]; exact Nat.lt_of_le_of_lt (Nat.sub_le _ _) hb'.out, by rw [HG2.out]; exact K4, hz', agw⟩
     case measure => have h1 := HG2.out; have h2 := HP.out; simp [intOf]; omega
    ·
     go_wp2_with fail
     go_roundw
     case rel => exact ⟨g2, 0, zr', rfl, rfl, by omega, K3, K0, by rw [HG2.out]; exact K2, by rw [HG2.out]; exact Nat.lt_of_le_of_lt (Nat.sub_le _ _) hb'.out, by rw [HG2.out]; exact K4, hz', agw⟩
     case measure => have h1 := HG2.out; have h2 := HP.out; simp [intOf]; omega
 ·
  have b1 : decide ((un : Int) < (vt : Int)) = false := by simp; omega
  have b2 : decide (un < vt) = false := by simp; omega
  have rq := hide hlt
  have bgk : (18446744073709551615 : Int) = ((g : Nat) : Int) := by rw [hg, if_neg hlt]; rfl
  have bpj := Lib.hid bgk
  clear Kn Em huv hun hum agn hQ hQB hQt abl anf avq hpre hgw Ho hB0 hlu hlv hg ane hgB hgQ hsub hadd hdone hstep hdiv hrr hpos hlt hoff hcz hcv bgk
  go_enter Tryz.func228, Tryz.ntmps228
  go_wp2_with fail
  go_quiet (fail)
  go_wp2_with fail
  rw [bpj.out]
  refine ((aa bio) _ (by exact hz) (by exact hvW)).mono ?_
  rintro e w1 ⟨zr, c, rfl, h1, h2, h3, h4, h5, h6⟩
  have h6' : w.grownBy w1 (some b) := ⟨h6.os, h6.tape, h6.output, h6.size, h6.block⟩
  have Wu := Lib.hid (h1.trans Ir.out)
  have H2 := hide h2
  have H3 := Lib.hid h3
  clear h1 h2 h3 h6
  go_wp2_with fail
  go_loopw [6, 7] (fun gv bv wr => ∃ (g' c' : Nat) (zc : List Nat), gv = .int .u64 ((g' : Nat) : Int) ∧ bv = .bool (decide (c' = 1)) ∧ c' ≤ 1 ∧ Hid (zc.length = n + 1) ∧ Hid (∀ x ∈ zc, x < dh) ∧ Hid (Q ≤ g') ∧ Hid (g' < dh) ∧ Hid (Wd.val dh zc + g' * Wd.val dh vl = Wd.val dh ul + dh ^ ul.length * c') ∧ ZB .u64 wr b T (win us off zc) ∧ w.grownBy wr (some b)) (fun gv _ _ => (intOf gv).toNat)
  case atStart => exact ⟨g, c, zr, rfl, rfl, h4, Wu, H2, HGQ, HGB, H3, h5, h6'⟩
  case round =>
   obtain ⟨g', c', zc, rfl, rfl, hc, hl, hlt', hq', hb', heq, ko, hgr⟩ := hrel
   have Wm : Ws .u64 wr B (some ⟨bv, ov, none⟩) vl := hvW.grown hgr om (fun g e => by injection e with e; omega)
   rcases (show c' = 0 ∨ c' = 1 by omega) with rfl | rfl
   ·
    have hok := (aa azv) g' zc (hl.out.trans Ir.out.symm) hlt'.out hq'.out (by have := heq.out; omega)
    have Dz := hide hok
    clear hok
    go_wp2_with fail
    go_ret
    exact ⟨zc, g', rfl, aa Dz, hb'.out, ko, hgr⟩
   ·
    have hpos := (aa Iw) g' zc (hl.out.trans Ir.out.symm) hlt'.out heq.out
    have f1 : IntKind.u64.wrap ((g' : Int) - 1) = ((g' - 1 : Nat) : Int) := by
     have := hb'.out; rw [gm] at this; rw [IntKind.wrap_u64]; omega
    obtain ⟨g2, hg2⟩ : ∃ t, t = g' - 1 := ⟨_, rfl⟩
    rw [← hg2] at f1
    have HG2 := Lib.hid hg2
    have HP := hide hpos
    clear hg2 hpos
    go_wp2_with fail
    refine ((aa bjb) _ zc hl.out hlt'.out ko Wm).mono ?_
    rintro e w2 ⟨zr', c2, rfl, Li, hz', hg'⟩
    obtain ⟨k1, k2, k3, k4⟩ := (aa aeb) g' zc zr' c2 (hl.out.trans Ir.out.symm) hlt'.out hq'.out heq.out Li
    have hc2 := Li.c1
    have K0 := hide Li.lt
    have K2 := hide k2; have K3 := Lib.hid (k3.trans Ir.out); have K4 := Lib.hid k4
    have agw := Ue hgr hg'
    clear k1 k2 k3 k4 Li hg'
    rcases (show c2 = 0 ∨ c2 = 1 by omega) with rfl | rfl
    ·
     go_wp2_with fail
     go_roundw
     case rel => exact ⟨g2, 1, zr', rfl, rfl, by omega, K3, K0, by rw [HG2.out]; exact K2, by rw [HG2.out]; exact Nat.lt_of_le_of_lt (Nat.sub_le _ _) hb'.out, by rw [HG2.out]; exact K4, hz', agw⟩
     case measure => have h1 := HG2.out; have h2 := HP.out; simp [intOf]; omega
    ·
     go_wp2_with fail
     go_roundw
     case rel => exact ⟨g2, 0, zr', rfl, rfl, by omega, K3, K0, by rw [HG2.out]; exact K2, by rw [HG2.out]; exact Nat.lt_of_le_of_lt (Nat.sub_le _ _) hb'.out, by rw [HG2.out]; exact K4, hz', agw⟩
     case measure => have h1 := HG2.out; have h2 := HP.out; simp [intOf]; omega

theorem Tk (x : Nat) (hx : x < dh) (w : World) : Calls Tryz.prog 215 #[.int .u64 ((x : Nat) : Int)] w fun e w' => Es w x e w' := by
 by_cases h : x = 0
 ·
  subst h
  go_enter Tryz.func215, Tryz.ntmps215
  go_wp2
  go_ret
  exact ⟨none, 0, [], rfl, jy.Rc _ _ om, Below.refl _ _⟩
 ·
  have hb : ((x : Int) == 0) = false := by simp; omega
  go_enter Tryz.func215, Tryz.ntmps215
  go_wp2
  go_ret
  refine ⟨some ⟨w.heap.size, 0, none⟩, 1, [x], rfl, ?_, (Below.refl _ _).alloc (Nat.le_refl _) _⟩
  have hz : ZB .u64 (w.alloc (.cells #[.int .u64 (x : Int)] 157)) w.heap.size 157 [x] := heap_alloc_new w _
  exact ⟨hz.Dw _ hz.lt, by simp, by omega, by simpa using hx, .inr (by simpa using h), by simp [Wd.val]⟩

def xu (n m : Nat) : Int := if n < m then -1 else if m < n then 1 else 0

theorem Py (Ax Ay : Option Addr) (cx cy : Nat) (xl yl : List Nat) (n m : Nat) (w : World) (hx : jy w Ax cx xl n) (hy : jy w Ay cy yl m) :
  Calls Tryz.prog 195 #[.slice Ax xl.length cx, .slice Ay yl.length cy] w fun e w' => e = .returned (.int .i64 (xu n m)) ∧ ∃ k, w' = w.drewN k := by
 have hx1 := hx.qp; have hx2 := hx.cap2; have hy1 := hy.qp; have hy2 := hy.cap2
 by_cases hl : xl.length = yl.length
 ·
  have hb : (((xl.length : Nat) : Int) != ((yl.length : Nat) : Int)) = false := by simp; omega
  go_enter Tryz.func195, Tryz.ntmps195
  go_wp2
  go_loopw [5] (fun iv wr => ∃ i : Int, -1 ≤ i ∧ i < xl.length ∧ iv = .int .i64 i ∧ Hid (∀ j : Nat, i < j → j < xl.length → xl.getD j 0 = yl.getD j 0) ∧ Hid (∃ t, wr = w.drewN t)) (fun iv _ => (intOf iv + 1).toNat)
  case atStart => exact ⟨(yl.length : Int) - 1, by omega, by omega, rfl, fun j h1 h2 => by omega, ⟨0, rfl⟩⟩
  case round =>
   obtain ⟨i, hi1, hi2, rfl, hall, ht⟩ := hrel
   by_cases h0 : i < 0
   ·
    have hv : xu n m = 0 := by
     have : xl = yl := Wd.Ky xl yl hl (fun j hj => hall.out j om hj)
     rw [← hx.val, ← hy.val, this]
     unfold xu
     rw [if_neg om, if_neg om]
    have HV := Lib.hid hv
    clear hv hl
    go_wp2
    go_ret
    exact ⟨wm HV.out.symm, ht.out⟩
   ·
    obtain ⟨j, rfl⟩ := Int.eq_ofNat_of_zero_le (show 0 ≤ i by omega)
    have Ty : j < xl.length := by omega
    have hjy : j < yl.length := by omega
    obtain ⟨bx, ox, rfl, hbx, hcx⟩ := hx.ws om
    obtain ⟨by', oy, rfl, hby, hcy⟩ := hy.ws om
    have hsame : ∀ p, wr.cell? p = w.cell? p := fun p => by obtain ⟨t, rfl⟩ := ht.out; rfl
    have Dg := (hsame _).trans (hcx j Ty)
    have Sc := (hsame _).trans (hcy j hjy)
    clear hcx hcy hsame
    obtain ⟨xj, hxj⟩ : ∃ xj, xj = Wd.g xl j := ⟨_, rfl⟩
    obtain ⟨yj, hyj⟩ : ∃ yj, yj = Wd.g yl j := ⟨_, rfl⟩
    rw [← hxj] at Dg
    rw [← hyj] at Sc
    by_cases he : xj = yj
    ·
     have hb : ((xj : Int) != (yj : Int)) = false := by simp; omega
     have hnext : ∀ t : Nat, ((j : Int) - 1 < t) → t < xl.length → xl.getD t 0 = yl.getD t 0 := fun t h1 h2 => by
      by_cases ht : t = j
      ·
       subst ht; exact hxj.symm.trans (he.trans hyj)
      ·
       exact hall.out t om h2
     have HN := hide hnext
     clear hnext hxj hyj he hl
     go_wp2_with fail
     go_region
     go_wp2_with fail
     go_roundw
     case rel => exact ⟨(j : Int) - 1, by omega, by omega, rfl, HN, by obtain ⟨t, rfl⟩ := ht.out; exact ⟨t + 1, rfl⟩⟩
     case measure => simp [intOf] <;> omega
    ·
     have hb : ((xj : Int) != (yj : Int)) = true := by simp; omega
     have hv : xu n m = if xj < yj then -1 else 1 := by
      rw [← hx.val, ← hy.val]
      unfold xu
      by_cases h : xj < yj
      ·
       rw [if_pos h, if_pos (Wd.Ew xl yl hx.lt hl j Ty (fun t h1 h2 => hall.out t om h2) (by show Wd.g xl j < Wd.g yl j; omega))]
      ·
       have := Wd.Ew yl xl hy.lt hl.symm j hjy (fun t h1 h2 => (hall.out t om om).symm) (by show Wd.g yl j < Wd.g xl j; omega)
       rw [if_neg h, if_neg om, if_pos this]
     have HV := Lib.hid hv
     clear hv hxj hyj hl
     by_cases hlt : xj < yj
     ·
      have hv2 := HV.out
      rw [if_pos hlt] at hv2
      have HV2 := Lib.hid hv2
      clear hv2
      go_wp2_with fail
      go_region
      go_wp2_with fail
      go_region_with (go_at_call 199; refine (Ns _ _).mono ?_; rintro e w' ⟨rfl, rfl⟩)
      all_goals
       go_wp2_with fail
       go_ret
       exact ⟨wm HV2.out.symm, by obtain ⟨t, rfl⟩ := ht.out; exact ⟨t + 2, rfl⟩⟩
     ·
      have hv2 := HV.out
      rw [if_neg hlt] at hv2
      have HV2 := Lib.hid hv2
      clear hv2
      go_wp2_with fail
      go_region
      go_wp2_with fail
      go_region_with (go_at_call 199; refine (Ns _ _).mono ?_; rintro e w' ⟨rfl, rfl⟩)
      all_goals
       go_wp2_with fail
       go_ret
       exact ⟨wm HV2.out.symm, by obtain ⟨t, rfl⟩ := ht.out; exact ⟨t + 2, rfl⟩⟩
 ·
  have hb : (((xl.length : Nat) : Int) != ((yl.length : Nat) : Int)) = true := by simp; omega
  have ho : xu n m = if xl.length < yl.length then -1 else 1 := by
   unfold xu
   rw [← hx.val, ← hy.val]
   by_cases h : xl.length < yl.length
   ·
    rw [if_pos h, if_pos (Wd.uj oh xl yl hx.lt hy.norm h)]
   ·
    have := Wd.uj oh yl xl hy.lt hx.norm om
    rw [if_neg h, if_neg om, if_pos this]
  have HO := Lib.hid ho
  clear ho
  go_enter Tryz.func195, Tryz.ntmps195
  go_wp2_with (go_at_call 199; refine (Ns _ _).mono ?_; rintro e w' ⟨rfl, rfl⟩)
  all_goals
   go_ret
   refine ⟨wm ?_, ⟨0, rfl⟩⟩
   rw [HO.out]
  ·
   rw [if_pos om]
  ·
   rw [if_neg om]
end Go.Proofs.YtfgeaakhlcaibaaGreatDoor
namespace Go.Proofs.YtfgeaakhlcaibaaGreatDoor

namespace Wd
structure ve (B V : Nat) (U us q : List Nat) (k : Nat) : Prop where
 Af : us.length = U.length
 lt : ∀ x ∈ us, x < B
 ltq : ∀ x ∈ q, x < B
 low : ∀ j, j < k → us.getD j 0 = U.getD j 0
 eq : val B (U.drop k) = val B (q.drop k) * V + val B (us.drop k)
 rest : val B (us.drop k) < V

theorem Yh {B : Nat} (hB : 0 < B) (l : List Nat) (n : Nat) (h : val B l < B ^ n) (i : Nat) (hi : n ≤ i) : l.getD i 0 = 0 := by
 apply Classical.byContradiction
 intro hne
 have hlt : i < l.length := by
  apply Classical.byContradiction
  intro h2
  exact hne (by simp [List.getD, List.getElem?_eq_none (by omega : l.length ≤ i)])
 have h1 := Nj B l (i + 1)
 rw [lg B l i] at h1
 have h2 : B ^ i * 1 ≤ B ^ i * l.getD i 0 := Nat.mul_le_mul_left _ om
 have h3 : B ^ n ≤ B ^ i := Nat.pow_le_pow_right hB hi
 omega

theorem Ol (B : Nat) (l : List Nat) (n : Nat) (h : ∀ i, n ≤ i → l.getD i 0 = 0) : val B (l.take n) = val B l := by
 by_cases hn : n ≤ l.length
 ·
  exact La B l n hn (fun i h1 _ => h i h1)
 ·
  rw [List.take_of_length_le om]

theorem getD_drop (l : List Nat) (k i : Nat) : (l.drop k).getD i 0 = l.getD (k + i) 0 := by
 simp [List.getD, List.getElem?_drop]

theorem ve.window {B V : Nat} {U us q : List Nat} {k n : Nat} (hB : 1 < B) (h : ve B V U us q (k + 1)) (hV : V < B ^ n) :
  val B ((us.drop k).take (n + 1)) = U.getD k 0 + B * val B (us.drop (k + 1)) ∧ val B ((us.drop k).take (n + 1)) < B * V ∧ val B ((us.drop k).take (n + 1)) = val B (us.drop k) := by
 have hz : ∀ i, n + 1 ≤ i → (us.drop k).getD i 0 = 0 := fun i hi => by
  have := Yh om (us.drop (k + 1)) n (Nat.lt_trans h.rest hV) (i - 1) om
  rw [getD_drop] at this ⊢
  rwa [show k + 1 + (i - 1) = k + i by omega] at this
 have e := Ol B (us.drop k) (n + 1) hz
 have e2 := Ma B us k
 rw [h.low k om] at e2
 refine ⟨e.trans e2, ?_, e⟩
 rw [e, e2]
 have hx : U.getD k 0 < B := by
  rw [← h.low k om]; exact getD_lt om us h.lt k
 have := h.rest
 have h2 : B * (val B (us.drop (k + 1)) + 1) ≤ B * V := Nat.mul_le_mul_left _ this
 rw [Nat.mul_add, Nat.mul_one] at h2
 omega

theorem ve.step {B V : Nat} {U us q us' : List Nat} {k n qk : Nat} (hB : 1 < B) (h : ve B V U us q (k + 1)) (hV : V < B ^ n) (Ho : 0 < V) (hq : k < q.length)
  (hqk : qk = val B ((us.drop k).take (n + 1)) / V) (hr : val B (us'.drop k) = val B ((us.drop k).take (n + 1)) % V) (hlen : us'.length = us.length) (hlt : ∀ x ∈ us', x < B)
  (hlow : ∀ j, j < k → us'.getD j 0 = us.getD j 0) : ve B V U us' (q.set k qk) k := by
 obtain ⟨w1, w2, w3⟩ := h.window hB hV
 refine ⟨hlen.trans h.Af, hlt, xk _ _ _ h.ltq ?_, fun j hj => (hlow j hj).trans (h.low j om), ?_, ?_⟩
 ·
  rw [hqk, Nat.div_lt_iff_lt_mul Ho]; exact w2
 ·
  rw [Ma, Ma B (q.set _ _), Vz, Kv _ _ _ hq, h.eq, hr]
  have Ai := Nat.div_add_mod (val B ((us.drop k).take (n + 1))) V
  rw [← hqk] at Ai
  rw [w1] at Ai ⊢
  generalize (U.getD k 0 + B * val B (us.drop (k + 1))) % V = r at *
  have e1 : B * (val B (q.drop (k + 1)) * V) = B * val B (q.drop (k + 1)) * V := by rw [Nat.mul_assoc]
  have e2 : qk * V = V * qk := Nat.mul_comm _ _
  rw [Nat.mul_add, Nat.add_mul, e1, e2]
  omega
 ·
  rw [hr]; exact Nat.mod_lt _ Ho

theorem ve.done {B V : Nat} {U us q : List Nat} (h : ve B V U us q 0) : val B q = val B U / V ∧ val B us = val B U % V := by
 have e := h.eq
 have hr := h.rest
 simp only [List.drop_zero] at e hr
 rw [e]
 constructor
 ·
  rw [Nat.mul_comm, Nat.mul_add_div om, Nat.div_eq_of_lt hr]; omega
 ·
  rw [Nat.mul_comm, Nat.mul_add_mod, Nat.mod_eq_of_lt hr]

theorem ve.start {B V : Nat} (U q : List Nat) (k : Nat) (hU : ∀ x ∈ U, x < B) (hq : ∀ x ∈ q, x < B) (hql : q.length = k) (htop : val B U < V * B ^ k) : ve B V U U q k := by
 refine ⟨rfl, hU, hq, fun _ _ => rfl, ?_, ?_⟩
 ·
  rw [List.drop_of_length_le (by omega : q.length ≤ k)]; simp [val]
 ·
  have h1 := Nj B U k
  by_cases hk : k ≤ U.length
  ·
   rw [Nat.min_eq_left hk] at h1
   have h2 : B ^ k * val B (U.drop k) < B ^ k * V := by rw [Nat.mul_comm _ V]; omega
   exact Nat.lt_of_mul_lt_mul_left h2
  ·
   rw [List.drop_of_length_le om]
   rcases Nat.eq_zero_or_pos V with h0 | h0
   ·
    subst h0; simp at htop
   ·
    exact h0
end Wd
end Go.Proofs.YtfgeaakhlcaibaaGreatDoor
namespace Go.Proofs.YtfgeaakhlcaibaaGreatDoor
open Go.RowKit

theorem mi {B : Nat} {a w : World} (h : Below B a w) (n : Nat) : Below B a (w.drewN n) := ⟨h.os, h.tape, h.output, h.size, h.block⟩

theorem Rb (B : Nat) (l : List Nat) (h : l.length = 1) : Wd.g l 0 = Wd.val B l := by
 match l, h with
 | [a], _ => simp [Wd.val, Wd.g]

def bid (w : World) (q r : Nat) (e : Ending) (w' : World) : Prop :=
 ∃ A cap l A' cap' l', e = .returned (.tuple #[.slice A l.length cap, .slice A' l'.length cap']) ∧ jy w' A cap l q ∧ jy w' A' cap' l' r ∧ Below w.heap.size w w'
theorem adk {A : Option Addr} {cap k n : Nat} {r s : Int} (h : k = n) (h' : r = s) : Ending.returned (.tuple #[.slice A k cap, .int .u64 r]) = .returned (.tuple #[.slice A n cap, .int .u64 s]) := by rw [h, h']
theorem Qx {A A' : Option Addr} {cap cap' k n k' n' : Nat} (h : k = n) (h' : k' = n') : Ending.returned (.tuple #[.slice A k cap, .slice A' k' cap']) = .returned (.tuple #[.slice A n cap, .slice A' n' cap']) := by rw [h, h']

theorem ajh (Ax : Option Addr) (cx : Nat) (xl : List Nat) (n y : Nat) (w : World) (hx : jy w Ax cx xl n) (hy : y < dh) (hy0 : 0 < y) (hk : xl.length ≤ 35184372088832) :
  Calls Tryz.prog 225 #[.slice Ax xl.length cx, .int .u64 ((y : Nat) : Int)] w fun e w' =>
   ∃ A cap l, e = .returned (.tuple #[.slice A l.length cap, .int .u64 ((n % y : Nat) : Int)]) ∧ jy w' A cap l (n / y) ∧ Below w.heap.size w w' := by
 have hmk := Kk xl.length hk
 have hx1 := hx.qp; have hx2 := hx.cap2
 go_enter Tryz.func225, Tryz.ntmps225
 go_wp2
 go_loopw [7, 8] (fun rv iv wr => ∃ (i : Int) (r : Nat) (qc : List Nat), -1 ≤ i ∧ i < xl.length ∧ iv = .int .i64 i ∧ rv = .int .u64 ((r : Nat) : Int) ∧ Hid (Wd.Bf dh xl qc y (i + 1).toNat r) ∧ ZB .u64 wr w.heap.size 157 qc ∧ Below w.heap.size w wr) (fun _ iv _ => (intOf iv + 1).toNat)
 case atStart =>
  refine ⟨(xl.length : Int) - 1, 0, List.replicate xl.length 0, by omega, by omega, rfl, rfl, ?_, heap_alloc_new w _, (Below.refl _ _).alloc (Nat.le_refl _) _⟩
  rw [show ((xl.length : Int) - 1 + 1).toNat = xl.length by omega]
  exact Wd.Bf.start _ _ _ (by simp) hy0 (Jd (by rw [gm]; omega) _)
 case round =>
  obtain ⟨i, r, qc, hi1, hi2, rfl, rfl, HI, ko, hg⟩ := hrel
  have hlen := HI.out.len
  by_cases h0 : i < 0
  ·
   have e : i = -1 := by omega
   subst e
   obtain ⟨v1, v2⟩ := HI.out.done
   rw [hx.val] at v1 v2
   have V1 := Lib.hid v1; have V2 := Lib.hid v2
   clear v1 v2
   go_wp2_with fail
   have htr := Cx (some ⟨w.heap.size, 0, none⟩) qc.length qc (wr.heap.size) wr (ko.Dw _ ko.lt) (Nat.le_refl _) om
   rw [hlen] at htr
   refine htr.mono ?_
   rintro e w' ⟨⟨k, rfl, ht, hk2⟩, rfl⟩
   go_wp2_with fail
   go_ret2
   have hk3 : k = (qc.take k).length := by simp; omega
   refine ⟨some ⟨w.heap.size, 0, none⟩, xl.length, qc.take k, adk hk3 (by rw [V2.out]), ?_, hg⟩
   have := jy.Bq (cap := xl.length) ko HI.out.lt ht om om om
   rwa [V1.out] at this
  ·
   obtain ⟨j, rfl⟩ := Int.eq_ofNat_of_zero_le (show 0 ≤ i by omega)
   have Ty : j < xl.length := by omega
   obtain ⟨bx, ox, rfl, hbx, hcx⟩ := hx.ws om
   have Dg := (hg.cell (p := ⟨bx, ox + j, none⟩) hbx).trans (hcx j Ty)
   clear hcx
   have hzc := ko.cell j om
   have Mj := ko.frozen j
   obtain ⟨xj, hxj⟩ : ∃ t, t = Wd.g xl j := ⟨_, rfl⟩
   rw [← hxj] at Dg
   have zx : xj < dh := by rw [hxj]; exact Wd.getD_lt (by rw [gm]; omega) _ hx.lt _
   have hinv : Wd.Bf dh xl qc y (j + 1) r := by have := HI.out; rwa [show ((j : Int) + 1).toNat = j + 1 by omega] at this
   have hry := hinv.r1
   obtain ⟨q, hq⟩ : ∃ t, t = (r * dh + xj) / y := ⟨_, rfl⟩
   obtain ⟨s, hs⟩ : ∃ t, t = (r * dh + xj) % y := ⟨_, rfl⟩
   have hdiv := adb r xj y hy zx hry
   rw [← hq, ← hs] at hdiv
   have hfin : ∀ W k, W = (wr.drewN k).setCell ⟨w.heap.size, j, none⟩ (.int .u64 (q : Int)) → Hid (Wd.Bf dh xl (qc.set j q) y j s) ∧ ZB .u64 W w.heap.size 157 (qc.set j q) ∧ Below w.heap.size w W := by
    rintro W k rfl
    refine ⟨?_, (ko.drewN k).Az _ _, (mi hg k).setCell (p := ⟨w.heap.size, j, none⟩) (Nat.le_refl _) _⟩
    rw [hq, hs, hxj]
    exact hinv.step Ty (by rw [← Wd.qa, ← hxj]; exact zx)
   have HF := hide hfin
   have HD := hide hdiv
   clear hfin hdiv hq hs hxj zx hinv hry ko hg HI
   go_wp2_with fail
   refine ((aa HD) _).mono ?_
   rintro e w' ⟨rfl, k, rfl⟩
   go_wp2_with fail
   go_roundw
   case rel =>
    obtain ⟨r1, r2, r3⟩ := (aa HF) _ k rfl
    exact ⟨(j : Int) - 1, s, qc.set j q, by omega, by omega, rfl, rfl, by rw [show ((j : Int) - 1 + 1).toNat = j by omega]; exact r1, r2, r3⟩
   case measure => simp [intOf] <;> omega

theorem ayl (Ax : Option Addr) (cx : Nat) (xl : List Nat) (n s : Nat) (w : World) (hx : jy w Ax cx xl n) (hs : s < 64) (hk : xl.length + 1 ≤ 35184372088832) :
  Calls Tryz.prog 227 #[.slice Ax xl.length cx, .int .u64 ((s : Nat) : Int)] w fun e w' =>
   ∃ b zr, e = .returned (.slice (some ⟨b, 0, none⟩) (xl.length + 1) (xl.length + 1)) ∧ w.heap.size ≤ b ∧ zr.length = xl.length + 1 ∧ (∀ x ∈ zr, x < dh) ∧ Wd.val dh zr = n * 2 ^ s ∧ ZB .u64 w' b 157 zr ∧ Below w.heap.size w w' :=
 (avb Ax cx xl n s w hx hs hk).mono fun e w' ⟨zr, h1, h2, h3, h4, h5, h6⟩ => ⟨w.heap.size, zr, h1, Nat.le_refl _, h2, h3, h4, h5, h6⟩

theorem We {B : Nat} (hB : 1 < B) (l : List Nat) (hn : Wd.Norm l) (hl : ∀ x ∈ l, x < B) (k : Nat) (hk : 0 < k) (h1 : B ^ (k - 1) ≤ Wd.val B l) (h2 : Wd.val B l < B ^ k) : l.length = k := by
 have a1 := Wd.Xh hB l hn k h2
 have a2 := Wd.za l hl
 apply Classical.byContradiction
 intro h
 have : B ^ l.length ≤ B ^ (k - 1) := Nat.pow_le_pow_right om om
 omega

theorem aev (yl : List Nat) (m s : Nat) (avy : s ≤ 64) (hn : 1 ≤ yl.length) (hlt : ∀ x ∈ yl, x < dh) (hv : Wd.val dh yl = m) (hs1 : yl.getD (yl.length - 1) 0 * 2 ^ s < dh) (ht : yl.getD (yl.length - 1) 0 ≠ 0) :
  dh ^ (yl.length - 1) * 2 ^ s ≤ m * 2 ^ s ∧ m * 2 ^ s < dh ^ yl.length := by
 have h2 := Wd.mq dh yl (yl.length - 1) om
 rw [show yl.length - 1 + 1 = yl.length by omega, Wd.iy _ _ _ (Nat.le_refl _), hv] at h2
 have h3 := Wd.za (B := dh) (yl.take (yl.length - 1)) (fun x hx => hlt x (List.mem_of_mem_take hx))
 rw [List.length_take, Nat.min_eq_left om] at h3
 have e : dh ^ yl.length = dh ^ (yl.length - 1) * dh := by rw [← Nat.pow_succ, show (yl.length - 1).succ = yl.length by omega]
 rw [e]
 generalize hP : dh ^ (yl.length - 1) = P at *
 generalize yl.getD (yl.length - 1) 0 = t at *
 have hS : 0 < 2 ^ s := Nat.pow_pos om
 have hsp := Zb s avy
 generalize 2 ^ s = S at *
 generalize 2 ^ (64 - s) = T at *
 have h6 : t * S + S ≤ dh := by
  rw [← hsp, Nat.mul_comm S] at hs1 ⊢
  have := Nat.lt_of_mul_lt_mul_right hs1
  have h7 : (t + 1) * S ≤ T * S := Nat.mul_le_mul_right _ this
  rwa [Nat.add_mul, Nat.one_mul] at h7
 constructor
 ·
  refine Nat.mul_le_mul_right _ ?_
  have : P * 1 ≤ P * t := Nat.mul_le_mul_left _ om
  omega
 ·
  have h4 : m + 1 ≤ P * (t + 1) := by rw [Nat.mul_add, Nat.mul_one]; omega
  have h5 : (m + 1) * S ≤ P * (t + 1) * S := Nat.mul_le_mul_right _ h4
  rw [Nat.add_mul, Nat.one_mul, Nat.mul_assoc, Nat.add_mul, Nat.one_mul] at h5
  have : P * (t * S + S) ≤ P * dh := Nat.mul_le_mul_left _ h6
  omega

theorem aws (Ax Ay : Option Addr) (cx cy : Nat) (xl yl : List Nat) (n m : Nat) (w : World) (hx : jy w Ax cx xl n) (hy : jy w Ay cy yl m) (hm : 0 < m) (hk : xl.length + 1 ≤ 35184372088832) (hk2 : yl.length + 1 ≤ 35184372088832)
  (hn2 : 2 ≤ yl.length) (hny : yl.length ≤ xl.length) (o3 : Int) (HC : Hid (Calls Tryz.prog 195 #[.slice Ax xl.length cx, .slice Ay yl.length cy] w fun e w' => e = .returned (.int .i64 o3) ∧ ∃ k, w' = w.drewN k)) (ho : decide (o3 < 0) = false) :
  Calls Tryz.prog 201 #[.slice Ax xl.length cx, .slice Ay yl.length cy] w fun e w' => bid w (n / m) (n % m) e w' := by
 have hx1 := hx.qp; have hx2 := hx.cap2; have hy1 := hy.qp; have hy2 := hy.cap2
 have hb1 : ((yl.length : Int) == 1) = false := by simp; omega
 obtain ⟨by', oy, hA, hby, hcy⟩ := hy.ws om
 subst hA
 have hyt := hcy (yl.length - 1) om
 obtain ⟨yt, Fg⟩ : ∃ t, t = Wd.g yl (yl.length - 1) := ⟨_, rfl⟩
 rw [← Fg] at hyt
 have Ig : yt < dh := by rw [Fg]; exact Wd.getD_lt (by rw [gm]; omega) _ hy.lt _
 have hy0 : yt ≠ 0 := by
  rw [Fg]
  rcases hy.norm with h | h
  ·
   rw [h] at hn2; simp at hn2
  ·
   exact h
 obtain ⟨s, hs, hs1, hs2, hlz⟩ := akh yt Ig om w
 obtain ⟨vb1, vb2⟩ := aev yl m s om om hy.lt hy.val (by rw [← Wd.qa, ← Fg]; exact hs2) (by rw [← Wd.qa, ← Fg]; exact hy0)
 obtain ⟨lq, hlq⟩ : ∃ t, t = xl.length + 1 - yl.length := ⟨_, rfl⟩
 have Xt : ((lq : Nat) : Int) = (xl.length : Int) + 1 - (yl.length : Int) := by omega
 have hmk := Kk lq om
 rw [Xt] at hmk
 have bnz : lq + yl.length = xl.length + 1 := by omega
 have HLZ := hide hlz
 have HLQ := Lib.hid Xt
 have HYT := Lib.hid Fg
 have HV1 := hide vb1; have HV2 := hide vb2
 clear hlz Fg hcy vb1 vb2 hs1 hs2 Xt hlq
 go_enter Tryz.func201, Tryz.ntmps201
 go_wp2_with fail
 refine (aa HC).mono ?_
 rintro e w' ⟨rfl, k, rfl⟩
 go_wp2_with fail
 refine ((aa HLZ) _).mono ?_
 rintro e w1 ⟨rfl, hw1⟩
 have Gq : Below w.heap.size w w1 := by rw [hw1]; exact mi (Below.refl _ _) k
 clear hw1
 go_wp2_with fail
 refine (ayl _ cy yl m s w1 (hy.below Gq) hs hk2).mono ?_
 rintro e w2 ⟨bv, vz, rfl, hbv, hvl, Xr, hvv, Pv, hb2⟩
 have HVL := Lib.hid hvl; have HVV := Lib.hid hvv
 clear hvl hvv
 go_wp2_with fail
 have htr := Cx (some ⟨bv, 0, none⟩) vz.length vz w2.heap.size w2 (Pv.Dw _ Pv.lt) (Nat.le_refl _) (by have := HVL.out; omega)
 rw [HVL.out] at htr
 refine htr.mono ?_
 rintro e w3 ⟨⟨kv, rfl, ht, hkv⟩, hw3⟩
 obtain rfl : w2 = w3 := hw3.symm
 clear hw3
 have Em : (vz.take kv).length = yl.length := by
  refine We oh _ ht.norm (fun x hx => Xr x (List.mem_of_mem_take hx)) _ om ?_ ?_
  ·
   rw [ht.val, HVV.out]; exact Nat.le_trans (Nat.le_mul_of_pos_right _ (Nat.pow_pos om)) (aa HV1)
  ·
   rw [ht.val, HVV.out]; exact aa HV2
 have awe : kv = yl.length := by have := HVL.out; rw [List.length_take] at Em; omega
 subst awe
 have bnq : jy w2 Ax cx xl n := (hx.below Gq).below hb2
 go_wp2_with fail
 refine (ayl Ax cx xl n s w2 bnq hs hk).mono ?_
 rintro e w4 ⟨bu, uz, rfl, hbu, Kn, avs, huv, Wn, hb3⟩
 have bnr := Pv.below hb3 Pv.lt
 have buu : bv < bu := Nat.lt_of_lt_of_le Pv.lt hbu
 have HUL := Lib.hid Kn; have Ir := Lib.hid huv
 have HT := hide ht; have HVN := Lib.hid Em
 have Xw : Below w.heap.size w w4 := Gq.trans ((hb2.mono Gq.size).trans (hb3.mono (Nat.le_trans Gq.size hb2.size)))
 clear Kn huv ht Em
 obtain ⟨V, hV⟩ : ∃ t, t = m * 2 ^ s := ⟨_, rfl⟩
 have Zu : Wd.val dh (vz.take yl.length) = V := by rw [(aa HT).val, HVV.out, hV]
 have ahf : V < dh ^ yl.length := by rw [hV]; exact aa HV2
 have Ho : 0 < V := by rw [hV]; exact Nat.mul_pos hm (Nat.pow_pos om)
 have htop : Wd.val dh uz < V * dh ^ lq := by
  rw [Ir.out, hV]
  have h1 := hx.Pq
  have h2 := aa HV1
  have h3 : dh ^ (yl.length - 1) * dh ^ lq = dh ^ xl.length := by rw [← Nat.pow_add, show yl.length - 1 + lq = xl.length by omega]
  have h4 : dh ^ (yl.length - 1) * 2 ^ s * dh ^ lq ≤ m * 2 ^ s * dh ^ lq := Nat.mul_le_mul_right _ h2
  have h5 : n * 2 ^ s < dh ^ xl.length * 2 ^ s := Nat.mul_lt_mul_of_pos_right h1 (Nat.pow_pos om)
  have h6 : dh ^ (yl.length - 1) * 2 ^ s * dh ^ lq = dh ^ xl.length * 2 ^ s := by
   rw [← h3]; simp only [Nat.mul_comm, Nat.mul_left_comm, Nat.mul_assoc]
  omega
 have hstart : Wd.ve dh V uz uz (List.replicate lq 0) lq := Wd.ve.start _ _ _ avs (Jd (by rw [gm]; omega) _) (by simp) htop
 have buw : bu < w4.heap.size := Wn.lt
 have anc : Ws .u64 w4 (bv + 1) (some ⟨bv, 0, none⟩) (vz.take yl.length) := (bnr.Dw _ (Nat.lt_succ_self _)).Qo _
 have Ry := Lib.hid Zu; have aih := hide ahf; have HV0 := hide Ho; have axi := Lib.hid hV; have HST := hide hstart
 have boa : 0 < lq := by omega
 clear Zu ahf hV hstart htop hyt hy0
 go_wp2_with fail
 go_loopw [12] (fun iv wr => ∃ (i : Int) (us qs : List Nat), -1 ≤ i ∧ i < lq ∧ iv = .int .i64 i ∧ Hid (Wd.ve dh V uz us qs (i + 1).toNat) ∧ Hid (qs.length = lq) ∧ ZB .u64 wr bu 157 us ∧ ZB .u64 wr w4.heap.size 157 qs ∧ Ws .u64 wr (bv + 1) (some ⟨bv, 0, none⟩) (vz.take yl.length) ∧ Below w.heap.size w wr ∧ w4.heap.size < wr.heap.size) (fun iv _ => (intOf iv + 1).toNat)
 case atStart =>
  refine ⟨(lq : Int) - 1, uz, List.replicate lq 0, by omega, by omega, rfl, ?_, by show _ = _; simp, Wn.alloc _, heap_alloc_new w4 _, anc.alloc om _, Xw.alloc Xw.size _, by simp⟩
  rw [show ((lq : Int) - 1 + 1).toNat = lq by omega]
  exact HST
 case round =>
  obtain ⟨i, us, qs, hi1, hi2, rfl, HI, Ku, Mm, hqz, Wm, hbr, avw⟩ := hrel
  obtain ⟨wo, rfl⟩ : ∃ wo : World, wo = wr := ⟨_, rfl⟩
  by_cases h0 : i < 0
  ·
   have e : i = -1 := by omega
   subst e
   obtain ⟨v1, v2⟩ := HI.out.done
   have hS : 0 < 2 ^ s := Nat.pow_pos om
   obtain ⟨sd1, sd2⟩ := Wd.Qu (N := n) (Y := m) (S := 2 ^ s) hS
   rw [Ir.out, axi.out] at v1 v2
   rw [sd1] at v1
   have v3 : Wd.val dh us / 2 ^ s = n % m := by rw [v2]; exact sd2
   have V1 := Lib.hid v1; have V3 := Lib.hid v3
   have Jm : us.length = xl.length + 1 := HI.out.Af.trans HUL.out
   have axo := hide HI.out.lt; have axn := hide HI.out.ltq
   have avu := Cx (some ⟨w4.heap.size, 0, none⟩) qs.length qs wo.heap.size wo (hqz.Dw _ hqz.lt) (Nat.le_refl _) (by have := Ku.out; omega)
   have Jn := Cx (some ⟨bu, 0, none⟩) us.length us wo.heap.size wo (Mm.Dw _ Mm.lt) (Nat.le_refl _) om
   rw [Ku.out] at avu
   rw [Jm] at Jn
   have T1 := hide avu; have T2 := hide Jn
   have Ov := Lib.hid Jm
   clear v1 v2 sd1 sd2 v3 avu Jn Jm HI
   go_wp2_with fail
   refine (aa T1).mono ?_
   rintro e w5 ⟨⟨k1, rfl, ht1, hk1⟩, hw5⟩
   obtain rfl : wo = w5 := hw5.symm
   clear hw5
   go_wp2_with fail
   refine (aa T2).mono ?_
   rintro e w6 ⟨⟨k2, rfl, ht2, hk2⟩, Tv⟩
   obtain rfl : wo = w6 := Tv.symm
   clear Tv
   go_wp2_with fail
   have e1 : (us.take k2).length = k2 := by have := Ov.out; rw [List.length_take]; omega
   have hrt := aqf (some ⟨bu, 0, none⟩) (xl.length + 1) (us.take k2) s wo ((Mm.Dw _ Mm.lt).Qo _) (by have := Ov.out; omega) om (fun x hx => (aa axo) x (List.mem_of_mem_take hx)) hs (by have := Ov.out; omega)
   rw [e1, ht2.val, V3.out] at hrt
   refine hrt.mono ?_
   rintro e w7 ⟨A', cap', l', rfl, hr', hb'⟩
   go_wp2_with fail
   go_ret2
   have e2 : k1 = (qs.take k1).length := by have := Ku.out; rw [List.length_take]; omega
   have hq' := jy.Bq (cap := lq) hqz (aa axn) ht1 (by rw [Ku.out]; exact hk1) (by rw [Ku.out]; exact Nat.le_refl _) om
   rw [V1.out] at hq'
   exact ⟨some ⟨w4.heap.size, 0, none⟩, lq, qs.take k1, A', cap', l', Qx e2 rfl, hq'.below hb', hr', hbr.trans (hb'.mono hbr.size)⟩
  ·
   obtain ⟨j, rfl⟩ := Int.eq_ofNat_of_zero_le (show 0 ≤ i by omega)
   have hinv : Wd.ve dh V uz us qs (j + 1) := by have := HI.out; rwa [show ((j : Int) + 1).toNat = j + 1 by omega] at this
   have Jm : us.length = xl.length + 1 := hinv.Af.trans HUL.out
   have hql := Ku.out
   have hqc := hqz.cell j om
   have hqf := hqz.frozen j
   have Rz := hide hinv; have Ov := Lib.hid Jm
   obtain ⟨wd1, wd2, wd3⟩ := hinv.window oh (aa aih)
   have hwl : ((us.drop j).take (yl.length + 1)).length = yl.length + 1 := by rw [List.length_take, List.length_drop]; omega
   have hds := aji bu j (xl.length + 1 - j) 157 yl.length us ((us.drop j).take (yl.length + 1)) (vz.take yl.length) (some ⟨bv, 0, none⟩) (yl.length + 1) (bv + 1) wo Mm om (by rw [hwl]) om om Wm om (by simp; omega) om om HVN.out hwl
    (fun x hx => hinv.lt x (List.mem_of_mem_drop (List.mem_of_mem_take hx))) (fun x hx => Xr x (List.mem_of_mem_take hx)) (by rw [Ry.out]; exact wd2)
   have HDS := hide hds
   clear hds
   have hfin : ∀ (W : World) (zr : List Nat) (q : Nat), aid ((us.drop j).take (yl.length + 1)) (vz.take yl.length) zr q → Hid (Wd.ve dh V uz (win us j zr) (qs.set j q) j) := fun W zr q hok => by
    have hzl : zr.length = yl.length + 1 := hok.len.trans hwl
    refine hinv.step (n := yl.length) oh (aa aih) (aa HV0) om ?_ ?_ ?_ ?_ ?_
    ·
     rw [hok.quo, Ry.out]
    ·
     have e1 : (win us j zr).drop j = zr ++ us.drop (j + zr.length) := by
      simp only [win, List.append_assoc]
      rw [List.drop_append_of_le_length (by simp; omega), List.drop_of_length_le (by simp; omega), List.nil_append]
     have e2 : Wd.val dh (us.drop (j + zr.length)) = 0 := by
      have h1 := Wd.Nj dh (us.drop j) (yl.length + 1)
      rw [wd3, List.drop_drop] at h1
      have h2 : 0 < dh ^ min (yl.length + 1) (us.drop j).length := Nat.pow_pos (by rw [gm]; omega)
      rw [hzl]
      rcases Nat.eq_zero_or_pos (Wd.val dh (us.drop (j + (yl.length + 1)))) with h | h
      ·
       exact h
      ·
       have := Nat.mul_pos h2 h; omega
     rw [e1, Wd.val_append, e2, Nat.mul_zero, Nat.add_zero, hok.rem, Ry.out]
    ·
     rw [win_length _ _ _ om]
    ·
     intro x hx
     simp only [win, List.append_assoc, List.mem_append] at hx
     rcases hx with h | h | h
     ·
      exact hinv.lt x (List.mem_of_mem_take h)
     ·
      exact hok.lt x h
     ·
      exact hinv.lt x (List.mem_of_mem_drop h)
    ·
     intro t ht
     simp only [win, List.append_assoc, List.getD]
     rw [List.getElem?_append_left (by simp; omega), List.getElem?_take, if_pos ht]
   have Gt := hide hfin
   clear hinv Jm hql HI wd1 wd2 wd3 hfin
   go_wp2_with fail
   rw [show j + yl.length + 1 - j = yl.length + 1 by omega]
   refine (aa HDS).mono ?_
   rintro e w5 ⟨zr, q, rfl, hok, Lb, agq, hg5⟩
   have ann := (aa Gt) w5 zr q hok
   have Rm := hqz.grown hg5 (by intro h; injection h with h; omega)
   have bnt := Rm.cell j (by have := Ku.out; omega)
   have bns := Rm.frozen j
   have hv5 : Ws .u64 w5 (bv + 1) (some ⟨bv, 0, none⟩) (vz.take yl.length) := Wm.grown hg5 om (fun g e => by injection e with e; omega)
   have hb5 : Below w.heap.size w w5 := hbr.grown hg5 hbr.size (fun g e => by injection e with e; subst e; exact Nat.le_trans Gq.size (Nat.le_trans hb2.size hbu))
   have hs5 : w4.heap.size < w5.heap.size := Nat.lt_of_lt_of_le avw hg5.size
   have avp : w.heap.size ≤ w4.heap.size := Xw.size
   have Zx : ∀ W, W = w5.setCell ⟨w4.heap.size, j, none⟩ (.int .u64 (q : Int)) → ZB .u64 W bu 157 (win us j zr) ∧ ZB .u64 W w4.heap.size 157 (qs.set j q) ∧ Ws .u64 W (bv + 1) (some ⟨bv, 0, none⟩) (vz.take yl.length) ∧ Below w.heap.size w W ∧ w4.heap.size < W.heap.size := by
    rintro W rfl
    exact ⟨(Below.heap_setCell w5 _ _ bu (by show bu ≠ w4.heap.size; omega)).trans agq, Rm.Az _ _, hv5.setCell (p := ⟨w4.heap.size, j, none⟩) (by show bv + 1 ≤ w4.heap.size; omega) _, hb5.setCell (p := ⟨w4.heap.size, j, none⟩) avp _, by simp [World.setCell]; omega⟩
   have HF2 := hide Zx
   clear hok hg5 Zx agq Rm hv5 hb5
   go_wp2_with fail
   go_roundw
   case rel =>
    obtain ⟨f1, f2, f3, f4, f5⟩ := (aa HF2) _ rfl
    exact ⟨(j : Int) - 1, win us j zr, qs.set j q, by omega, by omega, rfl, by rw [show ((j : Int) - 1 + 1).toNat = j by omega]; exact ann, by show _ = _; rw [List.length_set]; exact Ku.out, f1, f2, f3, f4, f5⟩
   case measure => simp [intOf] <;> omega

theorem abn (Ax Ay : Option Addr) (cx cy : Nat) (xl yl : List Nat) (n m : Nat) (w : World) (hx : jy w Ax cx xl n) (hy : jy w Ay cy yl m) (hm : 0 < m) (hk : xl.length + 1 ≤ 35184372088832) (hk2 : yl.length + 1 ≤ 35184372088832) :
  Calls Tryz.prog 201 #[.slice Ax xl.length cx, .slice Ay yl.length cy] w fun e w' => bid w (n / m) (n % m) e w' := by
 have hx1 := hx.qp; have hx2 := hx.cap2; have hy1 := hy.qp; have hy2 := hy.cap2
 have hyl : 0 < yl.length := by
  rcases Nat.eq_zero_or_pos yl.length with h | h
  ·
   have := List.eq_nil_of_length_eq_zero h; subst this; have := hy.val; simp [Wd.val] at this; omega
  ·
   exact h
 have hcmp := Py Ax Ay cx cy xl yl n m w hx hy
 have HC := hide hcmp
 clear hcmp
 by_cases hlt : n < m
 ·
  have ho : xu n m = -1 := by unfold xu; rw [if_pos hlt]
  rw [ho] at HC
  have hq : n / m = 0 := Nat.div_eq_of_lt hlt
  have hr : n % m = n := Nat.mod_eq_of_lt hlt
  rw [hq, hr]
  clear ho hq hr
  go_enter Tryz.func201, Tryz.ntmps201
  go_wp2_with fail
  refine (aa HC).mono ?_
  rintro e w' ⟨rfl, k, rfl⟩
  go_wp2_with fail
  go_ret2
  exact ⟨none, 0, [], Ax, cx, xl, rfl, jy.Rc _ _ om, hx.below (mi (Below.refl _ _) k), mi (Below.refl _ _) k⟩
 ·
  have ho : decide (xu n m < 0) = false := by unfold xu; rw [if_neg hlt]; split <;> rfl
  obtain ⟨o3, ho3⟩ : ∃ t, t = xu n m := ⟨_, rfl⟩
  rw [← ho3] at HC ho
  have hny : yl.length ≤ xl.length := by
   apply Classical.byContradiction
   intro h
   have := Wd.uj oh xl yl hx.lt hy.norm om
   rw [hx.val, hy.val] at this
   omega
  clear ho3
  by_cases h1 : yl.length = 1
  ·
   have hb1 : ((yl.length : Int) == 1) = true := by simp; omega
   obtain ⟨by', oy, hA, hby, hcy⟩ := hy.ws om
   subst hA
   have hy0 := hcy 0 om
   rw [Nat.add_zero] at hy0
   have hm0 : Wd.g yl 0 = m := by rw [Rb dh yl h1]; exact hy.val
   rw [hm0] at hy0
   have Jb : m < dh := by rw [← hm0]; exact Wd.getD_lt (by rw [gm]; omega) _ hy.lt _
   have HDW : ∀ k, Hid (Calls Tryz.prog 225 #[.slice Ax xl.length cx, .int .u64 ((m : Nat) : Int)] (w.drewN k) fun e w' =>
    ∃ A cap l, e = .returned (.tuple #[.slice A l.length cap, .int .u64 ((n % m : Nat) : Int)]) ∧ jy w' A cap l (n / m) ∧ Below w.heap.size w w') := fun k =>
    (ajh Ax cx xl n m (w.drewN k) (hx.below (mi (Below.refl _ _) k)) Jb hm om).mono fun e w' ⟨A, cap, l, h1, h2, h3⟩ => ⟨A, cap, l, h1, h2, (mi (Below.refl _ _) k).trans h3⟩
   have Pw : n % m < dh := Nat.lt_trans (Nat.mod_lt _ hm) Jb
   have HRB := hide Pw
   obtain ⟨r, hr⟩ : ∃ t, t = n % m := ⟨_, rfl⟩
   rw [← hr] at HDW HRB ⊢
   clear hm0 h1 hcy hr Pw
   go_enter Tryz.func201, Tryz.ntmps201
   go_wp2_with fail
   refine (aa HC).mono ?_
   rintro e w' ⟨rfl, k, rfl⟩
   go_wp2_with fail
   refine (aa (HDW k)).mono ?_
   rintro e w1 ⟨A, cap, l, rfl, hq, hb⟩
   go_wp2_with fail
   refine (Tk r HRB.out w1).mono ?_
   rintro e w2 ⟨A', cap', l', rfl, hr', hb'⟩
   go_wp2_with fail
   go_ret2
   exact ⟨A, cap, l, A', cap', l', rfl, hq.below hb', hr', hb.trans (hb'.mono hb.size)⟩
  ·
   have hb1 : ((yl.length : Int) == 1) = false := by simp; omega
   exact aws Ax Ay cx cy xl yl n m w hx hy hm hk hk2 om hny o3 HC ho
end Go.Proofs.YtfgeaakhlcaibaaGreatDoor
namespace Go.Proofs.YtfgeaakhlcaibaaGreatDoor
open Go.Shelf
def bje : Go.Shelf.Ren := ⟨fun | 29 => 187 | n => n, fun | 0 => 0 | 3 => 3 | 4 => 4 | 5 => 5 | 22 => 157 | 25 => 192 | 54 => 229 | n => n, fun | 1 => 1 | n => n⟩
theorem bdk : Go.Proofs.Lays7.n29 Tryz.prog bje := {
 mixed := by kernel_rfl
 f29 := Tryz.func187.trans (congrArg some kr)
 t0 := by kernel_rfl
 a0 := fun _ => by kernel_rfl
 z0 := fun _ => by kernel_rfl
 v0 := fun _ => by kernel_rfl
 i0 := by kernel_rfl
 t3 := by kernel_rfl
 a3 := fun _ => by kernel_rfl
 z3 := fun _ => by kernel_rfl
 v3 := fun _ => by kernel_rfl
 i3 := by kernel_rfl
 t4 := by kernel_rfl
 a4 := fun _ => by kernel_rfl
 z4 := fun _ => by kernel_rfl
 v4 := fun _ => by kernel_rfl
 i4 := by kernel_rfl
 t5 := by kernel_rfl
 a5 := fun _ => by kernel_rfl
 z5 := fun _ => by kernel_rfl
 v5 := fun _ => by kernel_rfl
 i5 := by kernel_rfl
 t22 := by kernel_rfl
 a22 := fun _ => by kernel_rfl
 z22 := fun _ => by kernel_rfl
 v22 := fun _ => by kernel_rfl
 i22 := by kernel_rfl
 t25 := by kernel_rfl
 a25 := fun _ => by kernel_rfl
 z25 := fun _ => by kernel_rfl
 v25 := fun _ => by kernel_rfl
 i25 := by kernel_rfl
 t54 := by kernel_rfl
 a54 := fun _ => by kernel_rfl
 z54 := fun _ => by kernel_rfl
 g1 := by kernel_rfl }
theorem Wy (x : Nat) (hx : x < 18446744073709551616) (w : World) (hT : TabAt 1 Lib.deBruijn64tab w) :
  Calls Tryz.prog 187 #[.int .u64 ((x : Nat) : Int)] w fun e w' => e = .returned (.int .i64 (Lib.ctz 64 x : Int)) ∧ w' = w :=
 Any7.bits_TrailingZeros64 bdk x hx w (fun _ => hT)
end Go.Proofs.YtfgeaakhlcaibaaGreatDoor
namespace Go.Proofs.YtfgeaakhlcaibaaGreatDoor
open Go.RowKit

def og (w : World) : Prop := TabAt 1 Lib.deBruijn64tab w ∧ 1 < w.heap.size
theorem og.below {w w' : World} (h : og w) (hb : Below w.heap.size w w') : og w' :=
 ⟨fun j hj => (hb.cell (p := ⟨1, j, none⟩) h.2).trans (h.1 j hj), Nat.lt_of_lt_of_le h.2 hb.size⟩
theorem og.drew {w : World} (h : og w) : og w.drew := h
theorem og.drewN {w : World} (h : og w) (n : Nat) : og (w.drewN n) := h
theorem og.alloc {w : World} (h : og w) (o : Obj) : og (w.alloc o) := h.below ((Below.refl _ _).alloc (Nat.le_refl _) _)

theorem Ru (x : Nat) (h0 : x ≠ 0) (hx : x < 18446744073709551616) : ∃ u, Wd.Gs x (Lib.ctz 64 x) u ∧ Lib.ctz 64 x < 64 := by
 unfold Lib.ctz
 rw [if_neg h0]
 obtain ⟨m, hm, hlt⟩ := Lib.ctzFrom_spec 64 x om (by simpa using hx)
 exact ⟨2 * m + 1, ⟨hm, by omega⟩, hlt⟩

theorem aby {a b : Nat} (h : b ≤ a) (ha : a < dh) : IntKind.u64.wrap ((a : Int) - (b : Int)) = ((a - b : Nat) : Int) := by
 rw [IntKind.wrap_u64]; rw [gm] at ha; omega

theorem Nz (x y : Nat) (hx : x < dh) (hy : y < dh) (w : World) (hT : og w) :
  Calls Tryz.prog 138 #[.int .u64 ((x : Nat) : Int), .int .u64 ((y : Nat) : Int)] w fun e w' => e = .returned (.int .u64 ((x.gcd y : Nat) : Int)) ∧ w' = w := by
 by_cases h0 : x = 0 ∨ y = 0
 ·
  have hor : Go.bits .or .u64 (x : Int) (y : Int) = ((x.gcd y : Nat) : Int) := by
   rw [bits_or_u64_nat x y hx hy]
   rcases h0 with rfl | rfl <;> simp
  rcases h0 with rfl | rfl
  all_goals
   go_enter Tryz.func138, Tryz.ntmps138
   go_wp2
   all_goals
    go_ret
    exact ⟨wm (by first | exact hor | simp_all), rfl⟩
 ·
  have b1 : ((x : Int) == 0) = false := by simp; omega
  have b2 : ((y : Int) == 0) = false := by simp; omega
  obtain ⟨o, ho⟩ : ∃ o, o = x ||| y := ⟨_, rfl⟩
  have hor : Go.bits .or .u64 (x : Int) (y : Int) = ((o : Nat) : Int) := by rw [bits_or_u64_nat x y hx hy, ho]
  obtain ⟨u, hu, bgx⟩ := Ru x om hx
  obtain ⟨v, hv, awh⟩ := Ru y om hy
  have ho0 : o ≠ 0 := by rw [ho]; intro h; rw [Nat.or_eq_zero_iff] at h; omega
  have hoB : o < dh := by rw [ho]; exact Nat.or_lt_two_pow (n := 64) hx hy
  obtain ⟨ow, how, bnx⟩ := Ru o ho0 hoB
  have hstart := Wd.Dl.start hu hv ⟨ow, by rw [← ho]; exact how⟩
  obtain ⟨t, ht⟩ : ∃ t, t = Lib.ctz 64 o := ⟨_, rfl⟩
  obtain ⟨a, ha⟩ : ∃ a, a = Lib.ctz 64 x := ⟨_, rfl⟩
  have c1 := Wy o hoB w hT.1
  have c2 := Wy x hx w hT.1
  rw [← ht] at c1 hstart bnx
  rw [← ha] at c2 hu bgx
  have hdx : (x : Int) / 2 ^ a = (u : Int) := by
   have := Wd.afl hu
   rw [← this]; simp
  have hub := Wd.akf hu
  have Qf := hide c1
  have Si := hide c2
  have HST := hide hstart
  have hG : 0 < x.gcd y ∧ x.gcd y < dh := ⟨Nat.gcd_pos_of_pos_left _ om, Nat.lt_of_le_of_lt (Nat.gcd_le_left _ om) hx⟩
  obtain ⟨G, hGG⟩ : ∃ G, G = x.gcd y := ⟨_, rfl⟩
  rw [← hGG] at hstart hG
  have HST := hide hstart
  have HGG := Lib.hid hGG
  have HG := hide hG
  clear h0 ho hv awh how hstart hu c1 c2 ht ha hGG hG
  go_enter Tryz.func138, Tryz.ntmps138
  go_wp2_with fail
  refine (aa Qf).mono ?_
  rintro e w' ⟨rfl, rfl⟩
  go_wp2_with fail
  refine (aa Si).mono ?_
  rintro e w' ⟨rfl, rfl⟩
  go_wp2_with fail
  have HT := hide hT
  clear hT Qf Si b1 b2 hor hdx bgx
  go_loop [0, 1] (fun xv yv => ∃ p q : Nat, xv = .int .u64 ((p : Nat) : Int) ∧ yv = .int .u64 ((q : Nat) : Int) ∧ p < dh ∧ q < dh ∧ Hid (Wd.Dl G t p q)) (fun xv yv => (intOf xv).toNat + (intOf yv).toNat)
  case atStart => exact ⟨u, y, rfl, rfl, by omega, hy, HST⟩
  case round =>
   obtain ⟨p, q, rfl, rfl, hp, hq, HI⟩ := hrel
   by_cases hq0 : q = 0
   ·
    subst hq0
    have e1 := HI.out.done
    have hs : IntKind.u64.wrap ((p : Int) * 2 ^ t) = (G : Int) := by
     have h2 := (aa HG).2
     rw [gm] at h2
     rw [IntKind.wrap_u64, show (p : Int) * 2 ^ t = ((p * 2 ^ t : Nat) : Int) by simp, ← e1]
     omega
    clear e1
    have hb0 : (((0 : Nat) : Int) != 0) = false := rfl
    go_wp2_with fail
    go_ret
    exact ⟨wm (by rw [HGG.out]), rfl⟩
   ·
    have hb0 : ((q : Int) != 0) = true := by simp; omega
    obtain ⟨v, hv, awh⟩ := Ru q hq0 hq
    obtain ⟨b, hb⟩ : ∃ b, b = Lib.ctz 64 q := ⟨_, rfl⟩
    have c3 := Wy q hq w' (aa HT).1
    rw [← hb] at c3 hv awh
    have HC3 := hide c3
    have hvb := Wd.akf hv
    have hdy : (q : Int) / 2 ^ b = (v : Int) := by
     have := Wd.afl hv
     rw [← this]; simp
    have hp1 := HI.out.1
    by_cases hlt : v < p
    ·
     have hn := HI.out.bak hv hlt
     have HN := Lib.hid hn
     have hw := aby (Nat.le_of_lt hlt) hp
     clear hn c3 hb hv
     go_wp2_with fail
     refine (aa HC3).mono ?_
     rintro e w2 ⟨rfl, rfl⟩
     go_wp2_with fail
     go_round
     case rel => exact ⟨v, p - v, rfl, by go_num, by omega, by omega, HN⟩
     case measure => simp [intOf] <;> omega
    ·
     have hn := HI.out.baj hv om
     have HN := Lib.hid hn
     have hw := aby (show p ≤ v by omega) (show v < dh by omega)
     clear hn c3 hb hv
     go_wp2_with fail
     refine (aa HC3).mono ?_
     rintro e w2 ⟨rfl, rfl⟩
     go_wp2_with fail
     go_round
     case rel => exact ⟨p, v - p, rfl, by go_num, by omega, by omega, HN⟩
     case measure => simp [intOf] <;> omega

def lim : Nat := 17592186044416
theorem zo : lim = 17592186044416 := rfl

theorem abg {w : World} {A : Option Addr} {cap : Nat} {l : List Nat} {n : Nat} (h : jy w A cap l n) (hl : l.length ≤ 1) : Wd.g l 0 = n ∧ n < dh := by
 rw [← h.val]
 match l, hl, h.lt with
 | [], _, _ => exact ⟨rfl, by rw [gm]; show 0 < _; omega⟩
 | [a], _, hlt => exact ⟨by simp [Wd.val, Wd.g], by have := hlt a (by simp); simpa [Wd.val] using this⟩

theorem afn (Ax Ay : Option Addr) (cx cy : Nat) (xl yl : List Nat) (n m : Nat) (w : World) (hx : jy w Ax cx xl n) (hy : jy w Ay cy yl m) (hT : og w) (hk : xl.length ≤ lim) (hk2 : yl.length ≤ lim) :
  Calls Tryz.prog 200 #[.slice Ax xl.length cx, .slice Ay yl.length cy] w fun e w' => Es w (n.gcd m) e w' := by
 have HT := hide hT
 clear hT
 go_enter Tryz.func200, Tryz.ntmps200
 go_wp2_with fail
 go_loopg [0, 1] m (fun g xv yv wr => ∃ (A A' : Option Addr) (c c' : Nat) (l l' : List Nat) (n' m' : Nat), xv = .slice A l.length c ∧ yv = .slice A' l'.length c' ∧ jy wr A c l n' ∧ jy wr A' c' l' m' ∧ Hid (l.length ≤ lim) ∧ Hid (l'.length ≤ lim) ∧ Hid (n'.gcd m' = n.gcd m) ∧ Hid (m' ≤ g) ∧ Below w.heap.size w wr)
 case atStart => exact ⟨Ax, Ay, cx, cy, xl, yl, n, m, rfl, rfl, hx, hy, hk, hk2, rfl, Nat.le_refl _, Below.refl _ _⟩
 case round =>
  obtain ⟨A, A', c, c', l, l', n', m', rfl, rfl, h1, h2, hl1, hl2, awf, hmg, hb⟩ := hrel
  by_cases hone : l.length ≤ 1 ∧ l'.length ≤ 1
  ·
   obtain ⟨o1, o2⟩ := hone
   have b1 : decide ((1 : Int) < (l.length : Int)) = false := by simp; omega
   have b2 : decide ((1 : Int) < (l'.length : Int)) = false := by simp; omega
   obtain ⟨e1, e2⟩ := abg h1 o1
   obtain ⟨e3, e4⟩ := abg h2 o2
   have anm := Jj A c l wr.heap.size 0 wr h1.ws h1.qp h1.cap2 om
   have anl := Jj A' c' l' wr.heap.size 0 wr h2.ws h2.qp h2.cap2 om
   rw [e1] at anm
   rw [e3] at anl
   have L1 := hide anm; have L2 := hide anl
   have hTr : og wr := (aa HT).below hb
   have hgB : n'.gcd m' < dh := by
    rcases Nat.eq_zero_or_pos n' with h | h
    ·
     subst h; simp; exact e4
    ·
     exact Nat.lt_of_le_of_lt (Nat.gcd_le_left _ h) e2
   have HGB := hide hgB
   have HG := hide (Nz n' m' e2 e4 wr hTr)
   clear e1 e2 e3 e4 anm anl hTr hgB o1 o2
   go_wp2_with fail
   refine (aa L1).mono ?_
   rintro e w1 ⟨rfl, hw1⟩
   obtain rfl : wr = w1 := hw1.symm
   clear hw1
   go_wp2_with fail
   refine (aa L2).mono ?_
   rintro e w1 ⟨rfl, hw1⟩
   obtain rfl : wr = w1 := hw1.symm
   clear hw1
   go_wp2_with fail
   refine (aa HG).mono ?_
   rintro e w1 ⟨rfl, hw1⟩
   obtain rfl : wr = w1 := hw1.symm
   clear hw1
   go_wp2_with fail
   refine (Tk _ (aa HGB) wr).mono ?_
   rintro e w2 ⟨A2, cap2, l2, rfl, hr, hb2⟩
   go_wp2_with fail
   go_ret
   exact ⟨A2, cap2, l2, rfl, by rw [← awf.out]; exact hr, hb.trans (hb2.mono hb.size)⟩
  ·
   have hc1 := h1.qp; have hc2 := h1.cap2; have hc3 := h2.qp; have hc4 := h2.cap2
   have b1 : (decide ((1 : Int) < (l.length : Int)) = true) ∨ (decide ((1 : Int) < (l.length : Int)) = false ∧ decide ((1 : Int) < (l'.length : Int)) = true) := by
    by_cases h : 1 < l.length
    ·
     exact .inl (decide_eq_true om)
    ·
     exact .inr ⟨decide_eq_false om, decide_eq_true om⟩
   by_cases h0 : l'.length = 0
   ·
    have hz : ((l'.length : Int) == 0) = true := beq_iff_eq.2 om
    have hm0 : m' = 0 := by rw [← h2.val, List.eq_nil_of_length_eq_zero h0]; rfl
    have hgn : n' = n.gcd m := by rw [← awf.out, hm0, Nat.gcd_zero_right]
    have HGN := Lib.hid hgn
    clear hgn hm0 h0 hone
    rcases b1 with b1 | ⟨b1, b2⟩
    all_goals
     go_wp2_with fail
     go_ret
     exact ⟨A, c, l, rfl, by rw [← HGN.out]; exact h1, hb⟩
   ·
    have hz : ((l'.length : Int) == 0) = false := beq_eq_false_iff_ne.2 om
    have hm0 : 0 < m' := by
     rw [← h2.val]; exact Wd.afm (by rw [gm]; omega) _ h2.norm (by intro h; rw [h] at h0; simp at h0)
    have HD := hide (abn A A' c c' l l' n' m' wr h1 h2 hm0 (by have := hl1.out; rw [zo] at this; omega) (by have := hl2.out; rw [zo] at this; omega))
    have HM0 := hide hm0
    clear hm0 h0 hone
    rcases b1 with b1 | ⟨b1, b2⟩
    all_goals
     go_wp2_with fail
     refine (aa HD).mono ?_
     rintro e w1 ⟨A1, qp, l1, A2, cap2, l2, rfl, hq, hr, hb1⟩
     have hlt : n' % m' < m' := Nat.mod_lt _ (aa HM0)
     have rq := hide hlt
     have hlen : l2.length ≤ l'.length := by
      apply Classical.byContradiction
      intro h
      have := Wd.uj oh l' l2 h2.lt hr.norm om
      rw [h2.val, hr.val] at this
      omega
     have HLEN := hide hlen
     clear hlt hlen
     go_wp2_with fail
     go_roundg (n' % m')
     case measure => have h1 := hmg.out; have h2 := rq.out; omega
     case rel => exact ⟨A', A2, c', cap2, l', l2, m', n' % m', rfl, rfl, h2.below hb1, hr, hl2, Nat.le_trans (aa HLEN) hl2.out, by show _ = _; rw [← awf.out, Nat.gcd_comm m', ← Nat.gcd_rec, Nat.gcd_comm], Nat.le_refl _, hb.trans (hb1.mono hb.size)⟩
end Go.Proofs.YtfgeaakhlcaibaaGreatDoor
