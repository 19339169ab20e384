/- Part 2 of the texts beneath a law of layer 1: Shelf, Div64, NatSh. -/
import Derived.Test.YtpjgoogeokbaaaaGreatDoorCh1
import Derived.Shelf.Small.Bits
import Derived.Shelf.Small.Wraps
import Derived.Shelf.Strconv.Itoa0
import Derived.Shelf.Strconv.Itoa1
import Derived.Shelf.LaysM
import Derived.Shelf.Strconv.Itoa2
import Derived.Shelf.Strconv.Itoa3
import Derived.Shelf.Strings.Search1
import Derived.Shelf.Strings.Search2
import Derived.Shelf.Strings.Cut
import Derived.Shelf.Strings.Shaped
import Derived.Shelf.Strings.Prefix
import Derived.Shelf.Bits.Mul64
import Derived.Ground.Names2Prog
import Derived.Shelf.Slices.SearchI
import Derived.Test.YtpjgoogeokbaaaaGreatDoorProg
import Derived.Laws.Bits64b
import Derived.Deep.DeepCutAuto
import Derived.Deep.CutBlock
/-
  DERIVED: THE SHELF's CONTRACTS AT THIS DUMP, IN PLAIN WORDS (tools/lay-plain.mjs out of 'TryzShelf.lean', which tools/lay-shelf.mjs wrote): THE SAME DECLARATIONS UNDER THE SAME NAMES: 'import', 'namespace', 'open', 'def', 'theorem' AND NOTHING ELSE: no command of the shelf's: FOR A HAND-IN. Each laying: the table of numbers ('.._ren') and one theorem, a field a fact of the dump's own or the kernel's comparison; each contract: ONE APPLICATION.
-/
namespace Go.Proofs
open Go.Shelf
def Tryz.lays133_ren : Go.Shelf.Ren := ⟨fun | 133 => 168 | 128 => 189 | n => n, fun | 51 => 136 | 3 => 3 | 4 => 4 | 46 => 141 | 5 => 5 | 9 => 9 | n => n, fun | n => n⟩
theorem Tryz.lays133 : Go.Proofs.Lays.n133 Tryz.prog Tryz.lays133_ren := {
  mixed := by kernel_rfl
  f128 := Tryz.func189.trans (congrArg some (by kernel_rfl))
  f133 := Tryz.func168.trans (congrArg some (by kernel_rfl))
  t3 := Tryz.underlying3
  a3 := Tryz.isAgg3
  z3 := Tryz.sizeOf3
  v3 := Tryz.zeroValue3
  t4 := Tryz.underlying4
  a4 := Tryz.isAgg4
  z4 := Tryz.sizeOf4
  v4 := Tryz.zeroValue4
  t5 := Tryz.underlying5
  a5 := Tryz.isAgg5
  z5 := Tryz.sizeOf5
  v5 := Tryz.zeroValue5
  t9 := Tryz.underlying9
  a9 := Tryz.isAgg9
  z9 := Tryz.sizeOf9
  v9 := Tryz.zeroValue9
  t46 := Tryz.underlying141
  a46 := Tryz.isAgg141
  z46 := Tryz.sizeOf141
  v46 := Tryz.zeroValue141
  t51 := Tryz.underlying136
  a51 := Tryz.isAgg136
  z51 := Tryz.sizeOf136
  v51 := Tryz.zeroValue136 }
theorem Tryz.bits_LeadingZeros32 (x : Int) (w : World) (h0 : 0 ≤ x) (h1 : x ≤ 4294967295) :
    Calls Tryz.prog 168 #[.int .u32 x] w fun e w' => e = .returned (.int .i64 (32 - (Lib.bitLen x.toNat : Int))) ∧ w' = w := Any.bits_LeadingZeros32 Tryz.lays133 x w h0 h1
def Tryz.lays134_ren : Go.Shelf.Ren := ⟨fun | 134 => 182 | 129 => 191 | n => n, fun | 53 => 116 | 3 => 3 | 4 => 4 | 46 => 141 | 5 => 5 | 9 => 9 | n => n, fun | n => n⟩
theorem Tryz.lays134 : Go.Proofs.Lays.n134 Tryz.prog Tryz.lays134_ren := {
  mixed := by kernel_rfl
  f129 := Tryz.func191.trans (congrArg some (by kernel_rfl))
  f134 := Tryz.func182.trans (congrArg some (by kernel_rfl))
  t3 := Tryz.underlying3
  a3 := Tryz.isAgg3
  z3 := Tryz.sizeOf3
  v3 := Tryz.zeroValue3
  t4 := Tryz.underlying4
  a4 := Tryz.isAgg4
  z4 := Tryz.sizeOf4
  v4 := Tryz.zeroValue4
  t5 := Tryz.underlying5
  a5 := Tryz.isAgg5
  z5 := Tryz.sizeOf5
  v5 := Tryz.zeroValue5
  t9 := Tryz.underlying9
  a9 := Tryz.isAgg9
  z9 := Tryz.sizeOf9
  v9 := Tryz.zeroValue9
  t46 := Tryz.underlying141
  a46 := Tryz.isAgg141
  z46 := Tryz.sizeOf141
  v46 := Tryz.zeroValue141
  t53 := Tryz.underlying116
  a53 := Tryz.isAgg116
  z53 := Tryz.sizeOf116
  v53 := Tryz.zeroValue116 }
theorem Tryz.bits_LeadingZeros64 (x : Int) (w : World) (h0 : 0 ≤ x) (h1 : x ≤ 18446744073709551615) :
    Calls Tryz.prog 182 #[.int .u64 x] w fun e w' => e = .returned (.int .i64 (64 - (Lib.bitLen x.toNat : Int))) ∧ w' = w := Any.bits_LeadingZeros64 Tryz.lays134 x w h0 h1
def Tryz.lays103_ren : Go.Shelf.Ren := ⟨fun | 103 => 84 | 210 => 130 | 206 => 166 | n => n, fun | 9 => 9 | 4 => 4 | 24 => 98 | 3 => 3 | n => n, fun | n => n⟩
theorem Tryz.lays103 : Go.Proofs.Lays.n103 Tryz.prog Tryz.lays103_ren := {
  mixed := by kernel_rfl
  f103 := Tryz.func84.trans (congrArg some (by kernel_rfl))
  f206 := Tryz.func166.trans (congrArg some (by kernel_rfl))
  f210 := Tryz.func130.trans (congrArg some (by kernel_rfl))
  t3 := Tryz.underlying3
  a3 := Tryz.isAgg3
  z3 := Tryz.sizeOf3
  v3 := Tryz.zeroValue3
  t4 := Tryz.underlying4
  a4 := Tryz.isAgg4
  z4 := Tryz.sizeOf4
  v4 := Tryz.zeroValue4
  t9 := Tryz.underlying9
  a9 := Tryz.isAgg9
  z9 := Tryz.sizeOf9
  v9 := Tryz.zeroValue9
  t24 := Tryz.underlying98
  a24 := Tryz.isAgg98
  z24 := Tryz.sizeOf98
  v24 := Tryz.zeroValue98 }
open Go.RowKit in
theorem Tryz.strings_CutPrefix (s p : ByteArray) (w : World) :
    Calls Tryz.prog 84 #[.string s, .string p] w fun e w' => e = .returned (.tuple #[.string ⟨(Lib.trimPrefix s.data.toList p.data.toList).toArray⟩, .bool (Lib.hasPrefix s.data.toList p.data.toList)]) ∧ w' = w := Any.strings_CutPrefix Tryz.lays103 s p w
def Tryz.lays217_ren : Go.Shelf.Ren := ⟨fun | 217 => 197 | 266 => 202 | n => n, fun | 9 => 9 | 5 => 5 | 3 => 3 | n => n, fun | n => n⟩
theorem Tryz.lays217 : Go.Proofs.Lays.n217 Tryz.prog Tryz.lays217_ren := {
  mixed := by kernel_rfl
  f217 := Tryz.func197.trans (congrArg some (by kernel_rfl))
  f266 := Tryz.func202.trans (congrArg some (by kernel_rfl))
  t3 := Tryz.underlying3
  a3 := Tryz.isAgg3
  z3 := Tryz.sizeOf3
  v3 := Tryz.zeroValue3
  t5 := Tryz.underlying5
  a5 := Tryz.isAgg5
  z5 := Tryz.sizeOf5
  v5 := Tryz.zeroValue5
  t9 := Tryz.underlying9
  a9 := Tryz.isAgg9
  z9 := Tryz.sizeOf9
  v9 := Tryz.zeroValue9 }
open Go.RowKit Go.Lib in
theorem Tryz.stringslite_IndexByte (s : ByteArray) (c : Int) (w : World) :
    Calls Tryz.prog 197 #[.string s, .int .u8 c] w fun e w' => e = .returned (.int .i64 (Lib.indexByte s.data.toList c.toNat.toUInt8)) ∧ w' = w := Any.stringslite_IndexByte Tryz.lays217 s c w
end Go.Proofs
/- math/bits.Div64: a number of two words by one. -/
namespace Go.Proofs.YtpjgoogeokbaaaaGreatDoor
open Go.RowKit

theorem ret_pair {k : IntKind} {a b c d : Nat} (h : a = c) (h' : b = d) : Ending.returned (.tuple #[.int k (a : Int), .int k (b : Int)]) = .returned (.tuple #[.int k (c : Int), .int k (d : Int)]) := by rw [h, h']

theorem pow_split' (s : Nat) (hs : s ≤ 64) : 2 ^ s * 2 ^ (64 - s) = B64 := by
  rw [← Nat.pow_add, show s + (64 - s) = 64 by omega]; rfl
theorem or_high {z a s : Nat} (hz : z < 2 ^ s) : (a * 2 ^ s) ||| z = a * 2 ^ s + z := by
  rw [Nat.mul_comm a, ← Nat.two_pow_add_eq_or_of_lt hz]

/-- The number, shifted, in three digits. -/
theorem shifted_eq {hi lo s : Nat} (hs : s < 64) (hlo : lo < B64) : (hi * 2 ^ s + lo / 2 ^ (64 - s)) * B64 + lo * 2 ^ s % B64 = (hi * B64 + lo) * 2 ^ s ∧ lo / 2 ^ (64 - s) < 2 ^ s := by
  have hST := pow_split' s (by omega)
  have hS : 0 < 2 ^ s := Nat.pow_pos (by omega)
  have hT : 0 < 2 ^ (64 - s) := Nat.pow_pos (by omega)
  generalize 2 ^ s = S at *
  generalize 2 ^ (64 - s) = T at *
  constructor
  · have h1 : lo * S % B64 = lo % T * S := by rw [← hST, Nat.mul_comm S, Nat.mul_mod_mul_right]
    have h2 := Nat.div_add_mod lo T
    rw [h1]
    generalize lo / T = a at *
    generalize lo % T = b at *
    rw [← h2, ← hST]
    simp only [Nat.add_mul, Nat.mul_add, Nat.mul_comm, Nat.mul_left_comm, Nat.mul_assoc]
    omega
  · rw [Nat.div_lt_iff_lt_mul hT, hST]; exact hlo

theorem rem_wrap {n p d v : Nat} (h : n + d = p + v) (hv : v < B64) : (((n % B64 + d) % B64 : Nat) : Int) - ((p % B64 : Nat) : Int) = (v : Int) ∨ (((n % B64 + d) % B64 : Nat) : Int) - ((p % B64 : Nat) : Int) = (v : Int) - 18446744073709551616 := by
  rw [B64_eq] at *; omega
theorem wrap_mod {a : Nat} {x : Int} (h : x = (a : Int)) : IntKind.u64.wrap x = ((a % B64 : Nat) : Int) := by
  rw [IntKind.wrap_u64, h, B64_eq]; omega
theorem wrap_of {v : Nat} {x : Int} (hv : v < B64) (h : x = (v : Int) ∨ x = (v : Int) - 18446744073709551616) : IntKind.u64.wrap x = (v : Int) := by
  rw [IntKind.wrap_u64]; rw [B64_eq] at hv; omega

theorem prod_le' {a b B : Nat} (ha : a < B) (hb : b < B) : a * b ≤ (B - 1) * (B - 1) := Nat.mul_le_mul (by omega) (by omega)
theorem wrap_prod {a b c : Nat} (h : c = a * b) (hc : c < B64) : IntKind.u64.wrap ((a : Int) * (b : Int)) = ((c : Nat) : Int) := by
  rw [IntKind.wrap_u64, h, ← Int.natCast_mul]; rw [B64_eq, h] at hc; omega
theorem wrap_sumd {a b c : Nat} (h : c = a + b) (hc : c < B64) : IntKind.u64.wrap ((a : Int) + (b : Int)) = ((c : Nat) : Int) := by
  rw [IntKind.wrap_u64, h]; rw [B64_eq] at hc; omega
theorem wrap_diff' {a b : Nat} (h : b ≤ a) (ha : a < B64) : IntKind.u64.wrap ((a : Int) - (b : Int)) = ((a - b : Nat) : Int) := by
  rw [IntKind.wrap_u64]; rw [B64_eq] at ha; omega

theorem bitLenAux_spec : ∀ (f x : Nat), x < 2 ^ f → x < 2 ^ Lib.bitLenAux f x ∧ (x ≠ 0 → 2 ^ (Lib.bitLenAux f x - 1) ≤ x ∧ 0 < Lib.bitLenAux f x) := by
  intro f
  induction f with
  | zero => intro x h; simp at h; subst h; exact ⟨by simp [Lib.bitLenAux], fun h => absurd rfl h⟩
  | succ f ih =>
    intro x h
    unfold Lib.bitLenAux
    by_cases h0 : x = 0
    · rw [if_pos h0]; subst h0; exact ⟨by simp, fun h => absurd rfl h⟩
    · rw [if_neg h0]
      have hx2 : x / 2 < 2 ^ f := by rw [Nat.pow_succ] at h; omega
      obtain ⟨h1, h2⟩ := ih (x / 2) hx2
      refine ⟨?_, fun _ => ⟨?_, by omega⟩⟩
      · rw [Nat.pow_add, Nat.pow_one]; omega
      · rw [Nat.add_sub_cancel_left]
        by_cases h3 : x / 2 = 0
        · have : Lib.bitLenAux f (x / 2) = 0 := by
            rw [h3]; cases f <;> simp [Lib.bitLenAux]
          rw [this]; simp; omega
        · obtain ⟨h4, h5⟩ := h2 h3
          have : Lib.bitLenAux f (x / 2) = (Lib.bitLenAux f (x / 2) - 1) + 1 := by omega
          rw [this, Nat.pow_succ]; omega

theorem lz_spec (y : Nat) (hy : y < B64) (h0 : 0 < y) (w : World) : ∃ s : Nat, s < 64 ∧ 9223372036854775808 ≤ y * 2 ^ s ∧ y * 2 ^ s < B64 ∧
    ∀ w : World, Calls Tryz.prog 182 #[.int .u64 ((y : Nat) : Int)] w fun e w' => e = .returned (.int .i64 ((s : Nat) : Int)) ∧ w' = w := by
  obtain ⟨h1, h2⟩ := bitLenAux_spec 64 y hy
  have h3 := (h2 (by omega)).1
  change y < 2 ^ Lib.bitLen y at h1
  change 2 ^ (Lib.bitLen y - 1) ≤ y at h3
  have hle := Lib.bitLen_le y 64 (by omega) (by rw [B64_eq] at hy; omega)
  have hpos : 0 < Lib.bitLen y := by
    apply Classical.byContradiction
    intro h
    rw [show Lib.bitLen y = 0 by omega] at h1
    simp at h1; omega
  have e1 : 2 ^ (Lib.bitLen y - 1) * 2 ^ (64 - Lib.bitLen y) = 9223372036854775808 := by
    rw [← Nat.pow_add, show Lib.bitLen y - 1 + (64 - Lib.bitLen y) = 63 by omega]
  have e2 : 2 ^ Lib.bitLen y * 2 ^ (64 - Lib.bitLen y) = B64 := by
    rw [← Nat.pow_add, show Lib.bitLen y + (64 - Lib.bitLen y) = 64 by omega]; rfl
  refine ⟨64 - Lib.bitLen y, by omega, ?_, ?_, fun w => ?_⟩
  · rw [← e1]; exact Nat.mul_le_mul_right _ h3
  · rw [← e2]; exact Nat.mul_lt_mul_of_pos_right h1 (Nat.pow_pos (by omega))
  · refine (Tryz.bits_LeadingZeros64 (y : Int) w (by omega) (by rw [B64_eq] at hy; omega)).mono ?_
    rintro e w' ⟨rfl, rfl⟩
    refine ⟨ret_int ?_, rfl⟩
    rw [Int.toNat_natCast]; omega

theorem and_mask (Y : Nat) (hY : Y < B64) : Go.bits .and .u64 (Y : Int) 4294967295 = ((Y % 4294967296 : Nat) : Int) := by
  have h := bits_and_u64_nat Y 4294967295 hY (by omega)
  rw [Nat.and_two_pow_sub_one_eq_mod Y 32] at h
  exact h

set_option maxRecDepth 100000 in
set_option maxHeartbeats 2000000 in
theorem div64_any (hi lo y : Nat) (hy : y < B64) (hlo : lo < B64) (hh : hi < y) (w : World) :
    Calls Tryz.prog 195 #[.int .u64 ((hi : Nat) : Int), .int .u64 ((lo : Nat) : Int), .int .u64 ((y : Nat) : Int)] w fun e w' => e = .returned (.tuple #[.int .u64 (((hi * B64 + lo) / y : Nat) : Int), .int .u64 (((hi * B64 + lo) % y : Nat) : Int)]) ∧ ∃ k, w' = w.drewN k := by
  by_cases h0 : hi = 0
  · subst h0
    have b1 : ((y : Int) == 0) = false := by simp; omega
    have b2 : ¬ ((y : Int) ≤ 0) := by omega
    go_enter Tryz.func195, Tryz.ntmps195
    go_wp2_with fail
    go_region
    go_wp2_with fail
    go_ret2
    refine ⟨?_, 1, rfl⟩
    have e1 : IntKind.u64.wrap ((lo : Int) / (y : Int)) = ((lo / y : Nat) : Int) := by
      have : lo / y ≤ lo := Nat.div_le_self _ _
      rw [B64_eq] at hlo
      rw [IntKind.wrap_u64, ← Int.natCast_ediv]; generalize lo / y = z at *; omega
    simp [e1]
  · have b1 : ((y : Int) == 0) = false := by simp; omega
    have b3 : ((hi : Int) == 0) = false := by simp; omega
    have b2 : ¬ ((y : Int) ≤ (hi : Int)) := by omega
    obtain ⟨s, hs, hY1, hY2, hlz⟩ := lz_spec y hy (by omega) w
    obtain ⟨Y, hYY⟩ : ∃ Y, Y = y * 2 ^ s := ⟨_, rfl⟩
    rw [← hYY] at hY1 hY2
    obtain ⟨y1, hy1⟩ : ∃ t, t = Y / 4294967296 := ⟨_, rfl⟩
    obtain ⟨y0, hy0⟩ : ∃ t, t = Y % 4294967296 := ⟨_, rfl⟩
    obtain ⟨p1, hp1⟩ : ∃ t, t = hi * 2 ^ s := ⟨_, rfl⟩
    obtain ⟨p2, hp2⟩ : ∃ t, t = lo / 2 ^ (64 - s) := ⟨_, rfl⟩
    obtain ⟨u, hu⟩ : ∃ t, t = p1 + p2 := ⟨_, rfl⟩
    obtain ⟨un, hun⟩ : ∃ t, t = lo * 2 ^ s % B64 := ⟨_, rfl⟩
    obtain ⟨d1, hd1⟩ : ∃ t, t = un / 4294967296 := ⟨_, rfl⟩
    obtain ⟨d0, hd0⟩ : ∃ t, t = un % 4294967296 := ⟨_, rfl⟩
    have e1 : IntKind.u64.wrap ((y : Int) * 2 ^ s) = (Y : Int) := wrap_of hY2 (.inl (by rw [hYY]; simp))
    have hsh := shifted_eq (hi := hi) hs hlo
    have hp1Y : p1 + 2 ^ s ≤ Y := by
      rw [hp1, hYY, ← Nat.succ_mul]; exact Nat.mul_le_mul_right _ hh
    have hp2s : p2 < 2 ^ s := by rw [hp2]; exact hsh.2
    have huY : u < Y := by omega
    have hunB : un < B64 := by rw [hun]; exact Nat.mod_lt _ (by rw [B64_eq]; omega)
    have hY3 : Y = y1 * B32 + y0 := by rw [hy1, hy0, B32_eq]; omega
    have e2 : (Y : Int) / 4294967296 = (y1 : Int) := by rw [hy1]; simp
    have e3 : Go.bits .and .u64 (Y : Int) 4294967295 = (y0 : Int) := by rw [and_mask Y hY2, hy0]
    have e4 : IntKind.u64.wrap ((hi : Int) * 2 ^ s) = (p1 : Int) := wrap_of (by omega) (.inl (by rw [hp1]; simp))
    have e5 : (lo : Int) / 2 ^ (64 - s) = (p2 : Int) := by rw [hp2]; simp
    have e6 : Go.bits .or .u64 (p1 : Int) (p2 : Int) = (u : Int) := by rw [bits_or_u64_nat p1 p2 (show p1 < B64 by omega) (show p2 < B64 by omega), hu]; rw [hp1, or_high hp2s]
    have e7 : IntKind.u64.wrap ((lo : Int) * 2 ^ s) = (un : Int) := by rw [hun]; exact wrap_mod (by simp)
    have e8 : (un : Int) / 4294967296 = (d1 : Int) := by rw [hd1]; simp
    have e9 : Go.bits .and .u64 (un : Int) 4294967295 = (d0 : Int) := by rw [and_mask un hunB, hd0]
    obtain ⟨q, hq⟩ : ∃ t, t = u / y1 := ⟨_, rfl⟩
    obtain ⟨t1, ht1⟩ : ∃ t, t = q * y1 := ⟨_, rfl⟩
    obtain ⟨r, hr⟩ : ∃ t, t = u - t1 := ⟨_, rfl⟩
    have hq1u : q ≤ u := by rw [hq]; exact Nat.div_le_self _ _
    have ht1u : t1 ≤ u := by rw [ht1, hq]; exact Nat.div_mul_le_self _ _
    have hy1p' : 0 < y1 := by rw [hy1]; omega
    have hr1 : r < y1 := by rw [hr, ht1, hq, Nat.mul_comm, ← Nat.mod_eq_sub_mul_div]; exact Nat.mod_lt _ hy1p'
    have e10 : IntKind.u64.wrap ((u : Int) / (y1 : Int)) = (q : Int) := wrap_of (by omega) (.inl (by rw [hq]; simp))
    have e11 : IntKind.u64.wrap ((q : Int) * (y1 : Int)) = (t1 : Int) := wrap_prod ht1 (by omega)
    have e12 : IntKind.u64.wrap ((u : Int) - (t1 : Int)) = (r : Int) := by rw [hr]; exact wrap_diff' ht1u (by omega)
    have GY1 : Hid (y1 < B32) := by show y1 < B32; rw [B64_eq] at hY2; rw [B32_eq]; omega
    have GYpos : Hid (0 < y1 * B32 + y0) := by show 0 < y1 * B32 + y0; omega
    have Gy0 : Hid (y0 < B32) := by show y0 < B32; rw [B32_eq]; omega
    have GuY : Hid (u < y1 * B32 + y0) := by show u < y1 * B32 + y0; omega
    have Gd1 : Hid (d1 < B32) := by show d1 < B32; rw [B64_eq] at hunB; rw [B32_eq]; omega
    have Gd0 : Hid (d0 < B32) := by show d0 < B32; rw [B32_eq]; omega
    have GST : Hid (Wd.DigInv B32 y1 y0 u d1 q r) := by rw [hr, ht1, hq]; exact Wd.DigInv.start hy1p' (unhide Gd1)
    have GqB : Hid (q < B64) := show q < B64 by omega
    have GrB : Hid (r < B32) := show r < B32 by have := unhide GY1; omega
    have GY3 := Lib.hid hY3
    have GSH := hide hsh
    have GuB : Hid (u < Y) := huY
    have hy1p : 1 ≤ (y1 : Int) := by rw [hy1]; omega
    have HLZ := hide hlz
    have H1 := Lib.hid hYY; have H2 := Lib.hid hy1; have H3 := Lib.hid hy0; have H4 := Lib.hid hp1; have H5 := Lib.hid hp2; have H6 := Lib.hid hu; have H7 := Lib.hid hun; have H8 := Lib.hid hd1; have H9 := Lib.hid hd0
    have H10 := Lib.hid hq; have H11 := Lib.hid ht1; have H12 := Lib.hid hr
    have G1 := hide hY1; have G2 := hide hY2
    clear hlz hYY hy1 hy0 hp1 hp2 hu hun hd1 hd0 hY1 hY2 hq ht1 hr hsh hp1Y hp2s huY hunB hY3 hq1u ht1u hr1 hy1p'
    go_enter Tryz.func195, Tryz.ntmps195
    go_wp2_with fail
    refine ((unhide HLZ) _).mono ?_
    rintro e w' ⟨rfl, rfl⟩
    go_upto_block 0 with (fail)
    go_cut [15] (fun qv wx => w' = wx ∧ qv = .int .u64 (((u * B32 + d1) / (y1 * B32 + y0) : Nat) : Int))
    case first =>
      go_wp2_with fail
      go_loop [15, 16] (fun qv rv => ∃ q r : Nat, qv = .int .u64 ((q : Nat) : Int) ∧ rv = .int .u64 ((r : Nat) : Int) ∧ Hid (q < B64) ∧ Hid (r < B32) ∧ Hid (Wd.DigInv B32 y1 y0 u d1 q r)) (fun qv _ => (intOf qv).toNat)
      case atStart => exact ⟨q, r, rfl, rfl, GqB, GrB, GST⟩
      case round =>
        obtain ⟨q2, r2, rfl, rfl, hq2, hr2, HI⟩ := hrel
        obtain ⟨q3, hq3⟩ : ∃ t, t = q2 - 1 := ⟨_, rfl⟩
        obtain ⟨r3, hr3⟩ : ∃ t, t = r2 + y1 := ⟨_, rfl⟩
        have f1 : 1 ≤ q2 → IntKind.u64.wrap ((q2 : Int) - 1) = (q3 : Int) := fun h => by
          have := hq2.out; rw [B64_eq] at this; rw [IntKind.wrap_u64]; omega
        have f2 : IntKind.u64.wrap ((r2 : Int) + (y1 : Int)) = (r3 : Int) := wrap_sumd hr3 (by have h1 := hr2.out; have h2 := unhide GY1; rw [B32_eq] at h1 h2; rw [B64_eq]; omega)
        have hstep : (B32 ≤ q2 ∨ B32 * r2 + d1 < q2 * y0) → 1 ≤ q2 ∧ Wd.DigInv B32 y1 y0 u d1 q3 r3 := fun h => by
          rw [hq3, hr3]; exact HI.out.step (unhide GYpos) (unhide GuY) (unhide Gd1) h
        have HSTEP := hide hstep
        by_cases hb : B32 ≤ q2
        · obtain ⟨hq1, hinv3⟩ := hstep (.inl hb)
          have hbd : decide ((4294967296 : Int) ≤ (q2 : Int)) = true := by rw [B32_eq] at hb; simp; omega
          have f1' := f1 hq1
          have HQ1 := hide hq1; have HINV := hide hinv3; have HQ3 := hide hq3
          by_cases hr : B32 ≤ r3
          · have hrd : decide ((4294967296 : Int) ≤ (r3 : Int)) = true := by rw [B32_eq] at hr; simp; omega
            have hfin := hinv3.stop (unhide GYpos) (unhide Gy0) (unhide GuY) hr
            have HFIN := Lib.hid hfin
            clear hb hr hq3 hr3 f1 hstep hq1 hinv3 hfin HI
            go_wp2_with fail
            go_meet
            exact ⟨rfl, HFIN.out ▸ rfl⟩
          · have hrd : decide ((4294967296 : Int) ≤ (r3 : Int)) = false := by rw [B32_eq] at hr; simp; omega
            have HR := hide (show r3 < B32 by omega)
            clear hb hr hq3 hr3 f1 hstep hq1 hinv3 HI
            go_wp2_with fail
            go_round
            case rel => exact ⟨q3, r3, rfl, rfl, by rw [HQ3.out]; exact Nat.lt_of_le_of_lt (Nat.sub_le _ _) hq2.out, HR, HINV⟩
            case measure => have h1 := HQ1.out; have h2 := HQ3.out; simp [intOf]; omega
        · have hbd : decide ((4294967296 : Int) ≤ (q2 : Int)) = false := by rw [B32_eq] at hb; simp; omega
          obtain ⟨pp, hpp⟩ : ∃ t, t = q2 * y0 := ⟨_, rfl⟩
          obtain ⟨m2, hm2⟩ : ∃ t, t = B32 * r2 := ⟨_, rfl⟩
          obtain ⟨m3, hm3⟩ : ∃ t, t = m2 + d1 := ⟨_, rfl⟩
          have g0 : pp < B64 := by
            have h1 : q2 * y0 ≤ (B32 - 1) * (B32 - 1) := prod_le' (by omega) (unhide Gy0)
            rw [hpp]; rw [B32_eq] at h1; rw [B64_eq]; omega
          have g1 : IntKind.u64.wrap ((q2 : Int) * (y0 : Int)) = (pp : Int) := wrap_prod hpp g0
          have g2 : IntKind.u64.wrap (4294967296 * (r2 : Int)) = (m2 : Int) := by
            have h1 := hr2.out
            rw [B32_eq] at h1 hm2
            rw [IntKind.wrap_u64, hm2]; omega
          have g3 : IntKind.u64.wrap ((m2 : Int) + (d1 : Int)) = (m3 : Int) := wrap_sumd hm3 (by have h1 := hr2.out; have h2 := unhide Gd1; rw [B32_eq] at h1 h2 hm2; rw [B64_eq]; omega)
          by_cases ht : m3 < pp
          · have htd : decide ((m3 : Int) < (pp : Int)) = true := by simp; omega
            have htd' : decide (m3 < pp) = true := by simp; omega
            obtain ⟨hq1, hinv3⟩ := hstep (.inr (by omega))
            have f1' := f1 hq1
            have HQ1 := hide hq1; have HINV := hide hinv3; have HQ3 := hide hq3
            by_cases hr : B32 ≤ r3
            · have hrd : decide ((4294967296 : Int) ≤ (r3 : Int)) = true := by rw [B32_eq] at hr; simp; omega
              have hfin := hinv3.stop (unhide GYpos) (unhide Gy0) (unhide GuY) hr
              have HFIN := Lib.hid hfin
              clear hb hr hq3 hr3 f1 hstep hq1 hinv3 hfin HI hpp hm2 hm3 g0 ht
              go_wp2_with fail
              go_meet
              exact ⟨rfl, HFIN.out ▸ rfl⟩
            · have hrd : decide ((4294967296 : Int) ≤ (r3 : Int)) = false := by rw [B32_eq] at hr; simp; omega
              have HR := hide (show r3 < B32 by omega)
              clear hb hr hq3 hr3 f1 hstep hq1 hinv3 HI hpp hm2 hm3 g0 ht
              go_wp2_with fail
              go_round
              case rel => exact ⟨q3, r3, rfl, rfl, by rw [HQ3.out]; exact Nat.lt_of_le_of_lt (Nat.sub_le _ _) hq2.out, HR, HINV⟩
              case measure => have h1 := HQ1.out; have h2 := HQ3.out; simp [intOf]; omega
          · have htd : decide ((m3 : Int) < (pp : Int)) = false := by simp; omega
            have htd' : decide (m3 < pp) = false := by simp; omega
            have hfin := HI.out.done (unhide GYpos) (by omega)
            have HFIN := Lib.hid hfin
            clear hb hq3 hr3 f1 hstep hfin HI hpp hm2 hm3 g0 ht
            go_wp2_with fail
            go_meet
            exact ⟨rfl, HFIN.out ▸ rfl⟩
    case rest =>
      obtain ⟨rfl, rfl⟩ := hcut
      obtain ⟨q1, hq1⟩ : ∃ t, t = (u * B32 + d1) / (y1 * B32 + y0) := ⟨_, rfl⟩
      obtain ⟨v, hv⟩ : ∃ t, t = (u * B32 + d1) % (y1 * B32 + y0) := ⟨_, rfl⟩
      rw [← hq1]
      have hdm : u * B32 + d1 = q1 * Y + v := by
        rw [hq1, hv, GY3.out, Nat.mul_comm _ (y1 * B32 + y0)]; exact (Nat.div_add_mod _ _).symm
      have hvY : v < Y := by rw [hv, GY3.out]; exact Nat.mod_lt _ (unhide GYpos)
      have hvB : v < B64 := Nat.lt_trans hvY (unhide G2)
      have hq1B : q1 < B32 := by rw [hq1]; exact Wd.dig_lt (unhide GYpos) (unhide GuY) (unhide Gd1)
      have k1 : IntKind.u64.wrap ((u : Int) * 4294967296) = ((u * B32 % B64 : Nat) : Int) := wrap_mod (by rw [B32_eq]; simp)
      have k2 : IntKind.u64.wrap (((u * B32 % B64 : Nat) : Int) + (d1 : Int)) = (((u * B32 % B64 + d1) % B64 : Nat) : Int) := wrap_mod (by simp)
      have k3 : IntKind.u64.wrap ((q1 : Int) * (Y : Int)) = ((q1 * Y % B64 : Nat) : Int) := wrap_mod (by simp)
      have k4 := wrap_of hvB (rem_wrap hdm hvB)
      obtain ⟨a1, ha1⟩ : ∃ t, t = u * B32 % B64 := ⟨_, rfl⟩
      rw [← ha1] at k1 k2 k4
      obtain ⟨a2, ha2⟩ : ∃ t, t = (a1 + d1) % B64 := ⟨_, rfl⟩
      rw [← ha2] at k2 k4
      obtain ⟨a3, ha3⟩ : ∃ t, t = q1 * Y % B64 := ⟨_, rfl⟩
      rw [← ha3] at k3 k4
      obtain ⟨q', hq'⟩ : ∃ t, t = v / y1 := ⟨_, rfl⟩
      obtain ⟨t', ht'⟩ : ∃ t, t = q' * y1 := ⟨_, rfl⟩
      obtain ⟨r', hr'⟩ : ∃ t, t = v - t' := ⟨_, rfl⟩
      have hqv : q' ≤ v := by rw [hq']; exact Nat.div_le_self _ _
      have htv : t' ≤ v := by rw [ht', hq']; exact Nat.div_mul_le_self _ _
      have hy1p' : 0 < y1 := by omega
      have hrv : r' < y1 := by rw [hr', ht', hq', Nat.mul_comm, ← Nat.mod_eq_sub_mul_div]; exact Nat.mod_lt _ hy1p'
      have k5 : IntKind.u64.wrap ((v : Int) / (y1 : Int)) = (q' : Int) := wrap_of (by omega) (.inl (by rw [hq']; simp))
      have k6 : IntKind.u64.wrap ((q' : Int) * (y1 : Int)) = (t' : Int) := wrap_prod ht' (by omega)
      have k7 : IntKind.u64.wrap ((v : Int) - (t' : Int)) = (r' : Int) := by rw [hr']; exact wrap_diff' htv hvB
      have GvY : Hid (v < y1 * B32 + y0) := by show v < y1 * B32 + y0; rw [← GY3.out]; exact hvY
      have GST' : Hid (Wd.DigInv B32 y1 y0 v d0 q' r') := by rw [hr', ht', hq']; exact Wd.DigInv.start hy1p' (unhide Gd0)
      have GqB' : Hid (q' < B64) := show q' < B64 by omega
      have GrB' : Hid (r' < B32) := show r' < B32 by have := unhide GY1; omega
      have K1 := Lib.hid hq1; have K2 := Lib.hid hv; have K3 := hide hvB; have K4 := hide hq1B
      clear hq1 hv hdm hvY hvB hq1B ha1 ha2 ha3 hq' ht' hr' hqv htv hy1p' hrv
      go_upto_block 2 with (fail)
      go_cut [18] (fun qv wx => w' = wx ∧ qv = .int .u64 (((v * B32 + d0) / (y1 * B32 + y0) : Nat) : Int))
      case first =>
        go_wp2_with fail
        go_loop [18, 16] (fun qv rv => ∃ q r : Nat, qv = .int .u64 ((q : Nat) : Int) ∧ rv = .int .u64 ((r : Nat) : Int) ∧ Hid (q < B64) ∧ Hid (r < B32) ∧ Hid (Wd.DigInv B32 y1 y0 v d0 q r)) (fun qv _ => (intOf qv).toNat)
        case atStart => exact ⟨q', r', rfl, rfl, GqB', GrB', GST'⟩
        case round =>
          obtain ⟨q2, r2, rfl, rfl, hq2, hr2, HI⟩ := hrel
          obtain ⟨q3, hq3⟩ : ∃ t, t = q2 - 1 := ⟨_, rfl⟩
          obtain ⟨r3, hr3⟩ : ∃ t, t = r2 + y1 := ⟨_, rfl⟩
          have f1 : 1 ≤ q2 → IntKind.u64.wrap ((q2 : Int) - 1) = (q3 : Int) := fun h => by
            have := hq2.out; rw [B64_eq] at this; rw [IntKind.wrap_u64]; omega
          have f2 : IntKind.u64.wrap ((r2 : Int) + (y1 : Int)) = (r3 : Int) := wrap_sumd hr3 (by have h1 := hr2.out; have h2 := unhide GY1; rw [B32_eq] at h1 h2; rw [B64_eq]; omega)
          have hstep : (B32 ≤ q2 ∨ B32 * r2 + d0 < q2 * y0) → 1 ≤ q2 ∧ Wd.DigInv B32 y1 y0 v d0 q3 r3 := fun h => by
            rw [hq3, hr3]; exact HI.out.step (unhide GYpos) (unhide GvY) (unhide Gd0) h
          have HSTEP := hide hstep
          by_cases hb : B32 ≤ q2
          · obtain ⟨hq1, hinv3⟩ := hstep (.inl hb)
            have hbd : decide ((4294967296 : Int) ≤ (q2 : Int)) = true := by rw [B32_eq] at hb; simp; omega
            have f1' := f1 hq1
            have HQ1 := hide hq1; have HINV := hide hinv3; have HQ3 := hide hq3
            by_cases hr : B32 ≤ r3
            · have hrd : decide ((4294967296 : Int) ≤ (r3 : Int)) = true := by rw [B32_eq] at hr; simp; omega
              have hfin := hinv3.stop (unhide GYpos) (unhide Gy0) (unhide GvY) hr
              have HFIN := Lib.hid hfin
              clear hb hr hq3 hr3 f1 hstep hq1 hinv3 hfin HI
              go_wp2_with fail
              go_meet
              exact ⟨rfl, HFIN.out ▸ rfl⟩
            · have hrd : decide ((4294967296 : Int) ≤ (r3 : Int)) = false := by rw [B32_eq] at hr; simp; omega
              have HR := hide (show r3 < B32 by omega)
              clear hb hr hq3 hr3 f1 hstep hq1 hinv3 HI
              go_wp2_with fail
              go_round
              case rel => exact ⟨q3, r3, rfl, rfl, by rw [HQ3.out]; exact Nat.lt_of_le_of_lt (Nat.sub_le _ _) hq2.out, HR, HINV⟩
              case measure => have h1 := HQ1.out; have h2 := HQ3.out; simp [intOf]; omega
          · have hbd : decide ((4294967296 : Int) ≤ (q2 : Int)) = false := by rw [B32_eq] at hb; simp; omega
            obtain ⟨pp, hpp⟩ : ∃ t, t = q2 * y0 := ⟨_, rfl⟩
            obtain ⟨m2, hm2⟩ : ∃ t, t = B32 * r2 := ⟨_, rfl⟩
            obtain ⟨m3, hm3⟩ : ∃ t, t = m2 + d0 := ⟨_, rfl⟩
            have g0 : pp < B64 := by
              have h1 : q2 * y0 ≤ (B32 - 1) * (B32 - 1) := prod_le' (by omega) (unhide Gy0)
              rw [hpp]; rw [B32_eq] at h1; rw [B64_eq]; omega
            have g1 : IntKind.u64.wrap ((q2 : Int) * (y0 : Int)) = (pp : Int) := wrap_prod hpp g0
            have g2 : IntKind.u64.wrap (4294967296 * (r2 : Int)) = (m2 : Int) := by
              have h1 := hr2.out
              rw [B32_eq] at h1 hm2
              rw [IntKind.wrap_u64, hm2]; omega
            have g3 : IntKind.u64.wrap ((m2 : Int) + (d0 : Int)) = (m3 : Int) := wrap_sumd hm3 (by have h1 := hr2.out; have h2 := unhide Gd0; rw [B32_eq] at h1 h2 hm2; rw [B64_eq]; omega)
            by_cases ht : m3 < pp
            · have htd : decide ((m3 : Int) < (pp : Int)) = true := by simp; omega
              have htd' : decide (m3 < pp) = true := by simp; omega
              obtain ⟨hq1, hinv3⟩ := hstep (.inr (by omega))
              have f1' := f1 hq1
              have HQ1 := hide hq1; have HINV := hide hinv3; have HQ3 := hide hq3
              by_cases hr : B32 ≤ r3
              · have hrd : decide ((4294967296 : Int) ≤ (r3 : Int)) = true := by rw [B32_eq] at hr; simp; omega
                have hfin := hinv3.stop (unhide GYpos) (unhide Gy0) (unhide GvY) hr
                have HFIN := Lib.hid hfin
                clear hb hr hq3 hr3 f1 hstep hq1 hinv3 hfin HI hpp hm2 hm3 g0 ht
                go_wp2_with fail
                go_meet
                exact ⟨rfl, HFIN.out ▸ rfl⟩
              · have hrd : decide ((4294967296 : Int) ≤ (r3 : Int)) = false := by rw [B32_eq] at hr; simp; omega
                have HR := hide (show r3 < B32 by omega)
                clear hb hr hq3 hr3 f1 hstep hq1 hinv3 HI hpp hm2 hm3 g0 ht
                go_wp2_with fail
                go_round
                case rel => exact ⟨q3, r3, rfl, rfl, by rw [HQ3.out]; exact Nat.lt_of_le_of_lt (Nat.sub_le _ _) hq2.out, HR, HINV⟩
                case measure => have h1 := HQ1.out; have h2 := HQ3.out; simp [intOf]; omega
            · have htd : decide ((m3 : Int) < (pp : Int)) = false := by simp; omega
              have htd' : decide (m3 < pp) = false := by simp; omega
              have hfin := HI.out.done (unhide GYpos) (by omega)
              have HFIN := Lib.hid hfin
              clear hb hq3 hr3 f1 hstep hfin HI hpp hm2 hm3 g0 ht
              go_wp2_with fail
              go_meet
              exact ⟨rfl, HFIN.out ▸ rfl⟩
      case rest =>
        obtain ⟨rfl, rfl⟩ := hcut
        obtain ⟨q0, hq0⟩ : ∃ t, t = (v * B32 + d0) / (y1 * B32 + y0) := ⟨_, rfl⟩
        obtain ⟨R, hR⟩ : ∃ t, t = (v * B32 + d0) % (y1 * B32 + y0) := ⟨_, rfl⟩
        rw [← hq0]
        have hdm : v * B32 + d0 = q0 * Y + R := by
          rw [hq0, hR, GY3.out, Nat.mul_comm _ (y1 * B32 + y0)]; exact (Nat.div_add_mod _ _).symm
        have hRY : R < Y := by rw [hR, GY3.out]; exact Nat.mod_lt _ (unhide GYpos)
        have hRB : R < B64 := Nat.lt_trans hRY (unhide G2)
        have hq0B : q0 < B32 := by rw [hq0]; exact Wd.dig_lt (unhide GYpos) (unhide GvY) (unhide Gd0)
        have hq1B := unhide K4
        have n1 : IntKind.u64.wrap ((q1 : Int) * 4294967296) = ((q1 * B32 : Nat) : Int) := wrap_of (by rw [B32_eq] at *; rw [B64_eq]; omega) (.inl (by rw [B32_eq]; simp))
        have n2 : IntKind.u64.wrap (((q1 * B32 : Nat) : Int) + (q0 : Int)) = ((q1 * B32 + q0 : Nat) : Int) := wrap_of (by rw [B32_eq] at *; rw [B64_eq]; omega) (.inl (by simp))
        have n3 : IntKind.u64.wrap ((v : Int) * 4294967296) = ((v * B32 % B64 : Nat) : Int) := wrap_mod (by rw [B32_eq]; simp)
        have n4 : IntKind.u64.wrap (((v * B32 % B64 : Nat) : Int) + (d0 : Int)) = (((v * B32 % B64 + d0) % B64 : Nat) : Int) := wrap_mod (by simp)
        have n5 : IntKind.u64.wrap ((q0 : Int) * (Y : Int)) = ((q0 * Y % B64 : Nat) : Int) := wrap_mod (by simp)
        have n6 := wrap_of hRB (rem_wrap hdm hRB)
        obtain ⟨b1, hb1⟩ : ∃ t, t = q1 * B32 := ⟨_, rfl⟩
        rw [← hb1] at n1 n2
        obtain ⟨Q, hQ⟩ : ∃ t, t = b1 + q0 := ⟨_, rfl⟩
        rw [← hQ] at n2
        obtain ⟨c1, hc1⟩ : ∃ t, t = v * B32 % B64 := ⟨_, rfl⟩
        rw [← hc1] at n3 n4 n6
        obtain ⟨c2, hc2⟩ : ∃ t, t = (c1 + d0) % B64 := ⟨_, rfl⟩
        rw [← hc2] at n4 n6
        obtain ⟨c3, hc3⟩ : ∃ t, t = q0 * Y % B64 := ⟨_, rfl⟩
        rw [← hc3] at n5 n6
        obtain ⟨z, hz⟩ : ∃ t, t = R / 2 ^ s := ⟨_, rfl⟩
        have n7 : (R : Int) / 2 ^ s = (z : Int) := by rw [hz]; simp
        have hfin : Q = (hi * B64 + lo) / y ∧ z = (hi * B64 + lo) % y := by
          have hY0 : 0 < Y := Nat.lt_of_lt_of_le (by omega) (unhide G1)
          have hS : 0 < 2 ^ s := Nat.pow_pos (by omega)
          have hN : u * (B32 * B32) + d1 * B32 + d0 = (hi * B64 + lo) * 2 ^ s := by
            have h1 := (unhide GSH).1
            rw [← H4.out, ← H5.out, ← H6.out, ← H7.out] at h1
            have h2 : un = d1 * B32 + d0 := by rw [H8.out, H9.out, B32_eq]; omega
            rw [← h1, h2, show B32 * B32 = B64 from rfl, Nat.add_assoc]
          have h3 := Wd.two_digits (b := B32) (Y := Y) (u := u) (d1 := d1) (d0 := d0) hY0
          have h4 := Wd.scaled_div (N := hi * B64 + lo) (Y := y) (S := 2 ^ s) hS
          rw [hN] at h3
          rw [← H1.out] at h4
          rw [GY3.out] at h3 h4
          rw [← K1.out, ← K2.out, ← hq0, ← hR] at h3
          rw [h3.1, h3.2] at h4
          exact ⟨by rw [hQ, hb1]; exact h4.1, by rw [hz]; exact h4.2⟩
        have HF := hide hfin
        clear hq0 hR hdm hRY hRB hq0B hq1B hb1 hQ hc1 hc2 hc3 hz hfin
        go_wp2_with fail
        go_ret2
        exact ⟨ret_pair (unhide HF).1 (unhide HF).2, 0, rfl⟩
end Go.Proofs.YtpjgoogeokbaaaaGreatDoor
/- Shifts of words of 64 bits. -/
namespace Go.Proofs.YtpjgoogeokbaaaaGreatDoor
open Go.RowKit

theorem pow_split (s : Nat) (hs : s ≤ 64) : 2 ^ s * 2 ^ (64 - s) = B64 := by
  rw [← Nat.pow_add, show s + (64 - s) = 64 by omega]; rfl

theorem shl_word {m s : Nat} (hs : s ≤ 64) : m * 2 ^ s % B64 = m % 2 ^ (64 - s) * 2 ^ s := by
  rw [← pow_split s hs, Nat.mul_comm (2 ^ s), Nat.mul_mod_mul_right]

theorem or_word {z a s : Nat} (hz : z < 2 ^ s) : z ||| (a * 2 ^ s) = z + a * 2 ^ s := by
  rw [Nat.or_comm, Nat.mul_comm a, ← Nat.two_pow_add_eq_or_of_lt hz, Nat.add_comm]

/-- What a shift to the left hands back: a block of its own, with noughts at its top. -/
def ShlR (w : World) (xl : List Nat) (v : Nat) (e : Ending) (w' : World) : Prop :=
  ∃ zr, e = .returned (.slice (some ⟨w.heap.size, 0, none⟩) (xl.length + 1) (xl.length + 1)) ∧ zr.length = xl.length + 1 ∧ (∀ x ∈ zr, x < B64) ∧ Wd.val B64 zr = v ∧ ZB .u64 w' w.heap.size 116 zr ∧ Below w.heap.size w w'

set_option maxRecDepth 100000 in
set_option maxHeartbeats 1000000 in
theorem left_any (Ax : Option Addr) (cx : Nat) (xl : List Nat) (n s : Nat) (w : World) (hx : NatV w Ax cx xl n) (hs : s < 64) (hk : xl.length + 1 ≤ 35184372088832) :
    Calls Tryz.prog 183 #[.slice Ax xl.length cx, .int .u64 ((s : Nat) : Int)] w fun e w' => ShlR w xl (n * 2 ^ s) e w' := by
  have hmk := make64 (xl.length + 1) hk
  simp only [Int.natCast_add, Int.cast_ofNat_Int] at hmk
  have hx1 := hx.cap1; have hx2 := hx.cap2
  go_enter Tryz.func183, Tryz.ntmps183
  go_wp2
  go_loopw [14] (fun iv wr => ∃ (i : Nat) (zr : List Nat), i ≤ xl.length ∧ iv = .int .i64 ((i : Nat) : Int) ∧ Hid (Wd.ShlInv B64 (2 ^ s) xl zr i) ∧ ZB .u64 wr w.heap.size 116 zr ∧ Below w.heap.size w wr) (fun iv _ => xl.length - (intOf iv).toNat)
  case atStart => exact ⟨0, List.replicate (xl.length + 1) 0, Nat.zero_le _, rfl, Wd.ShlInv.start _ _ (Nat.pow_pos (by omega)) (by rw [B64_eq]; omega) (by simp) (zeros_getD _), heap_alloc_new w _, (Below.refl _ _).alloc (Nat.le_refl _) _⟩
  case round =>
    obtain ⟨i, zr, hi, rfl, HI, hzr, hg⟩ := hrel
    have hlen := HI.out.len
    by_cases hlt : i < xl.length
    · obtain ⟨bx, ox, rfl, hbx, hcx⟩ := hx.ws (by omega)
      have hxc := (hg.cell (p := ⟨bx, ox + i, none⟩) hbx).trans (hcx i hlt)
      clear hcx
      have hzc := hzr.cell i (by omega)
      have hzf := hzr.frozen i
      have hzc1 := hzr.cell (i + 1) (by omega)
      have hzf1 := hzr.frozen (i + 1)
      obtain ⟨m, hm⟩ : ∃ m, m = Wd.g xl i := ⟨_, rfl⟩
      obtain ⟨z, hz⟩ : ∃ z, z = Wd.g zr i := ⟨_, rfl⟩
      rw [← hm] at hxc
      rw [← hz] at hzc
      have hmB : m < B64 := by rw [hm]; exact Wd.getD_lt (by rw [B64_eq]; omega) _ hx.lt i
      have hzB : z < B64 := by rw [hz]; exact Wd.getD_lt (by rw [B64_eq]; omega) _ HI.out.lt i
      have hzS : z < 2 ^ s := by rw [hz]; exact HI.out.low
      obtain ⟨p, hp⟩ : ∃ p, p = m % 2 ^ (64 - s) * 2 ^ s := ⟨_, rfl⟩
      obtain ⟨r, hr⟩ : ∃ r, r = z + p := ⟨_, rfl⟩
      obtain ⟨q, hq⟩ : ∃ q, q = m / 2 ^ (64 - s) := ⟨_, rfl⟩
      have hpB : p < B64 := by rw [hp, ← shl_word (by omega)]; exact Nat.mod_lt _ (by rw [B64_eq]; omega)
      have e1 : IntKind.u64.wrap ((m : Int) * 2 ^ s) = (p : Int) := by
        rw [hp, ← shl_word (by omega), IntKind.wrap_u64, B64_eq]; simp
      have e2 : Go.bits .or .u64 (z : Int) (p : Int) = (r : Int) := by
        rw [bits_or_u64_nat z p hzB hpB, hr, hp, or_word hzS]
      have e3 : (m : Int) / 2 ^ (64 - s) = (q : Int) := by rw [hq]; simp
      have hfin : ∀ W, W = (wr.setCell ⟨w.heap.size, i, none⟩ (.int .u64 (r : Int))).setCell ⟨w.heap.size, i + 1, none⟩ (.int .u64 (q : Int)) → Hid (Wd.ShlInv B64 (2 ^ s) xl ((zr.set i r).set (i + 1) q) (i + 1)) ∧ ZB .u64 W w.heap.size 116 ((zr.set i r).set (i + 1) q) ∧ Below w.heap.size w W := by
        rintro W rfl
        refine ⟨?_, (hzr.set_ _ _).set_ _ _, (hg.setCell (by simp) _).setCell (by simp) _⟩
        rw [hr, hp, hq, hm, hz]
        exact HI.out.step (pow_split s (by omega)) (Nat.pow_pos (by omega)) hlt (by rw [← Wd.g_def, ← hm]; exact hmB)
      have HF := hide hfin
      clear hfin hp hr hq hm hz hzS hzr hg
      go_wp2_with fail
      go_roundw
      case rel =>
        obtain ⟨r1, r2, r3⟩ := (unhide HF) _ rfl
        exact ⟨i + 1, _, by omega, by go_num, r1, r2, r3⟩
      case measure => simp [intOf] <;> omega
    · have e : i = xl.length := by omega
      subst e
      have hv := HI.out.done
      rw [hx.val] at hv
      have HV := Lib.hid hv
      clear hv
      go_wp2_with fail
      go_ret
      exact ⟨zr, rfl, hlen, HI.out.lt, HV.out, hzr, hg⟩

set_option maxRecDepth 100000 in
set_option maxHeartbeats 2000000 in
theorem right_any (Ax : Option Addr) (cx : Nat) (xl : List Nat) (s : Nat) (w : World) (hx : Ws .u64 w w.heap.size Ax xl) (hx1 : xl.length ≤ cx) (hx2 : cx ≤ 9223372036854775807) (hxl : ∀ x ∈ xl, x < B64) (hs : s < 64) (hk : xl.length ≤ 35184372088832) :
    Calls Tryz.prog 185 #[.slice Ax xl.length cx, .int .u64 ((s : Nat) : Int)] w fun e w' => NatR w (Wd.val B64 xl / 2 ^ s) e w' := by
  have hmk := make64 xl.length hk
  go_enter Tryz.func185, Tryz.ntmps185
  go_wp2
  go_loopw [12] (fun iv wr => ∃ (i : Nat) (zr : List Nat), i ≤ xl.length ∧ iv = .int .i64 ((i : Nat) : Int) ∧ Hid (Wd.ShrInv B64 (2 ^ s) xl zr i) ∧ ZB .u64 wr w.heap.size 116 zr ∧ Below w.heap.size w wr) (fun iv _ => xl.length - (intOf iv).toNat)
  case atStart => exact ⟨0, List.replicate xl.length 0, Nat.zero_le _, rfl, Wd.ShrInv.start _ _ (by simp) (zeros_lt (by rw [B64_eq]; omega) _), heap_alloc_new w _, (Below.refl _ _).alloc (Nat.le_refl _) _⟩
  case round =>
    obtain ⟨i, zr, hi, rfl, HI, hzr, hg⟩ := hrel
    have hlen := HI.out.len
    by_cases hlt : i < xl.length
    · obtain ⟨bx, ox, hA, hbx, hcx⟩ := hx (by omega)
      have hxr : Ws .u64 wr w.heap.size Ax xl := hx.below hg
      subst hA
      have hxc := (hg.cell (p := ⟨bx, ox + i, none⟩) hbx).trans (hcx i hlt)
      clear hcx
      have hzc := hzr.cell i (by omega)
      have hzf := hzr.frozen i
      obtain ⟨m, hm⟩ : ∃ m, m = Wd.g xl i := ⟨_, rfl⟩
      obtain ⟨m1, hm1⟩ : ∃ m1, m1 = Wd.g xl (i + 1) := ⟨_, rfl⟩
      rw [← hm] at hxc
      have hmB : m < B64 := by rw [hm]; exact Wd.getD_lt (by rw [B64_eq]; omega) _ hxl i
      obtain ⟨q, hq⟩ : ∃ q, q = m / 2 ^ s := ⟨_, rfl⟩
      obtain ⟨p, hp⟩ : ∃ p, p = m1 % 2 ^ s * 2 ^ (64 - s) := ⟨_, rfl⟩
      obtain ⟨r, hr⟩ : ∃ r, r = q + p := ⟨_, rfl⟩
      have hsh : m1 * 2 ^ (64 - s) % B64 = p := by
        rw [shl_word (by omega), hp, show 64 - (64 - s) = s by omega]
      have hpB : p < B64 := by rw [← hsh]; exact Nat.mod_lt _ (by rw [B64_eq]; omega)
      have hqB : q < B64 := by rw [hq]; exact Nat.lt_of_le_of_lt (Nat.div_le_self _ _) hmB
      have hqT : q < 2 ^ (64 - s) := by
        rw [hq, Nat.div_lt_iff_lt_mul (Nat.pow_pos (by omega)), Nat.mul_comm, pow_split s (by omega)]; exact hmB
      have e0 : (m : Int) / 2 ^ s = (q : Int) := by rw [hq]; simp
      have e1 : IntKind.u64.wrap ((m1 : Int) * 2 ^ (64 - s)) = (p : Int) := by
        rw [← hsh, IntKind.wrap_u64, B64_eq]; simp
      have e1' : IntKind.u64.wrap ((m1 : Int) * 2 ^ min (64 - s) 64) = (p : Int) := by rw [Nat.min_eq_left (by omega)]; exact e1
      have e2 : Go.bits .or .u64 (q : Int) (p : Int) = (r : Int) := by
        rw [bits_or_u64_nat q p hqB hpB, hr, hp, or_word hqT]
      have hfin : ∀ W, W = wr.drew.setCell ⟨w.heap.size, i, none⟩ (.int .u64 (r : Int)) → Hid (Wd.ShrInv B64 (2 ^ s) xl (zr.set i r) (i + 1)) ∧ ZB .u64 W w.heap.size 116 (zr.set i r) ∧ Below w.heap.size w W := by
        rintro W rfl
        refine ⟨?_, (hzr.drew).set_ _ _, hg.drew.setCell (by simp) _⟩
        rw [hr, hp, hq, hm, hm1]
        exact HI.out.step (pow_split s (by omega)) (Nat.pow_pos (by omega)) hlt (by rw [← Wd.g_def, ← hm]; exact hmB)
      have HF := hide hfin
      have hlim : ∀ W, Ws .u64 W w.heap.size (some ⟨bx, ox, none⟩) xl → Calls Tryz.prog 171 #[.slice (some ⟨bx, ox, none⟩) xl.length cx, .int .i64 ((i : Int) + 1)] W fun e w' => e = .returned (.int .u64 ((m1 : Nat) : Int)) ∧ w' = W := fun W h => by
        rw [hm1]; exact limb_any _ cx xl w.heap.size (i + 1) W h hx1 hx2 (by omega)
      have HLIM := hide hlim
      have hwi : IntKind.i64.wrap ((i : Int) + 1) = (i : Int) + 1 := IntWalk.i64_in _ (by omega)
      clear hfin hp hr hq hm hm1 hqT hsh hzr hg hlim
      go_wp2_with fail
      go_region_with (go_at_call 171; refine ((unhide HLIM) _ (by exact hxr)).mono ?_; rintro e w' ⟨rfl, rfl⟩)
      all_goals
        go_wp2
        go_roundw
        case rel =>
          simp only [e1', e2]
          obtain ⟨r1, r2, r3⟩ := (unhide HF) _ rfl
          exact ⟨i + 1, _, by omega, by go_num, r1, r2, r3⟩
        case measure => simp [intOf] <;> omega
    · have e : i = xl.length := by omega
      subst e
      have hv := HI.out.done (pow_split s (by omega)) (Nat.pow_pos (by omega))
      have HV := Lib.hid hv
      clear hv
      go_wp2_with fail
      have htr := trim_any (some ⟨w.heap.size, 0, none⟩) zr.length zr (wr.heap.size) wr (hzr.ws0 _ hzr.lt) (Nat.le_refl _) (by omega)
      rw [hlen] at htr
      refine htr.mono ?_
      rintro e w' ⟨⟨k, rfl, ht, hk2⟩, rfl⟩
      go_wp2_with fail
      go_ret
      have hk3 : k = (zr.take k).length := by simp; omega
      refine ⟨some ⟨w.heap.size, 0, none⟩, xl.length, zr.take k, ret_slice hk3, ?_, hg⟩
      have := NatV.of_trim (cap := xl.length) hzr HI.out.lt ht (by omega) (by omega) (by omega)
      rwa [HV.out] at this
end Go.Proofs.YtpjgoogeokbaaaaGreatDoor
