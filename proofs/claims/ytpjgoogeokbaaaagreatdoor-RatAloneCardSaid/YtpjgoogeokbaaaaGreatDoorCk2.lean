/- Texts beneath a law of layer 1. -/
import Derived.Test.YtpjgoogeokbaaaaGreatDoorCk1
import Derived.Shelf.Small.Bits
import Derived.Shelf.Small.Wraps
import Derived.Shelf.Strconv.Itoa0
import Derived.Shelf.Strconv.Itoa1
import Derived.Shelf.LaysM
import Derived.Shelf.Strconv.Itoa2
import Derived.Shelf.Strconv.Itoa3
import Derived.Shelf.Strings.Search1
import Derived.Shelf.Strings.Search2
import Derived.Shelf.Strings.Cut
import Derived.Shelf.Strings.Shaped
import Derived.Shelf.Strings.Prefix
import Derived.Shelf.Bits.Mul64
import Derived.Ground.Names2Prog
import Derived.Shelf.Slices.SearchI
import Derived.Test.YtpjgoogeokbaaaaGreatDoorProg
import Derived.Laws.Bits64b
import Derived.Deep.DeepCutAuto
import Derived.Deep.CutBlock
set_option maxRecDepth 100000
namespace Go.Proofs
open Go.Shelf
def Tryz.lays133_ren : Go.Shelf.Ren := ⟨fun | 133 => 168 | 128 => 189 | n => n, fun | 51 => 136 | 3 => 3 | 4 => 4 | 46 => 141 | 5 => 5 | 9 => 9 | n => n, fun | n => n⟩
theorem Tryz.lays133 : Go.Proofs.Lays.n133 Tryz.prog Tryz.lays133_ren := {
 mixed := by kernel_rfl
 f128 := Tryz.func189.trans (congrArg some (by kernel_rfl))
 f133 := Tryz.func168.trans (congrArg some (by kernel_rfl))
 t3 := Tryz.underlying3
 a3 := Tryz.isAgg3
 z3 := Tryz.sizeOf3
 v3 := Tryz.zeroValue3
 t4 := Tryz.underlying4
 a4 := Tryz.isAgg4
 z4 := Tryz.sizeOf4
 v4 := Tryz.zeroValue4
 t5 := Tryz.underlying5
 a5 := Tryz.isAgg5
 z5 := Tryz.sizeOf5
 v5 := Tryz.zeroValue5
 t9 := Tryz.underlying9
 a9 := Tryz.isAgg9
 z9 := Tryz.sizeOf9
 v9 := Tryz.zeroValue9
 t46 := Tryz.underlying141
 a46 := Tryz.isAgg141
 z46 := Tryz.sizeOf141
 v46 := Tryz.zeroValue141
 t51 := Tryz.underlying136
 a51 := Tryz.isAgg136
 z51 := Tryz.sizeOf136
 v51 := Tryz.zeroValue136 }
theorem Tryz.bits_LeadingZeros32 (x : Int) (w : World) (h0 : 0 ≤ x) (h1 : x ≤ 4294967295) :
  Calls Tryz.prog 168 #[.int .u32 x] w fun e w' => e = .returned (.int .i64 (32 - (Lib.bitLen x.toNat : Int))) ∧ w' = w := Any.bits_LeadingZeros32 Tryz.lays133 x w h0 h1
def Tryz.lays134_ren : Go.Shelf.Ren := ⟨fun | 134 => 182 | 129 => 191 | n => n, fun | 53 => 116 | 3 => 3 | 4 => 4 | 46 => 141 | 5 => 5 | 9 => 9 | n => n, fun | n => n⟩
theorem Tryz.lays134 : Go.Proofs.Lays.n134 Tryz.prog Tryz.lays134_ren := {
 mixed := by kernel_rfl
 f129 := Tryz.func191.trans (congrArg some (by kernel_rfl))
 f134 := Tryz.func182.trans (congrArg some (by kernel_rfl))
 t3 := Tryz.underlying3
 a3 := Tryz.isAgg3
 z3 := Tryz.sizeOf3
 v3 := Tryz.zeroValue3
 t4 := Tryz.underlying4
 a4 := Tryz.isAgg4
 z4 := Tryz.sizeOf4
 v4 := Tryz.zeroValue4
 t5 := Tryz.underlying5
 a5 := Tryz.isAgg5
 z5 := Tryz.sizeOf5
 v5 := Tryz.zeroValue5
 t9 := Tryz.underlying9
 a9 := Tryz.isAgg9
 z9 := Tryz.sizeOf9
 v9 := Tryz.zeroValue9
 t46 := Tryz.underlying141
 a46 := Tryz.isAgg141
 z46 := Tryz.sizeOf141
 v46 := Tryz.zeroValue141
 t53 := Tryz.underlying116
 a53 := Tryz.isAgg116
 z53 := Tryz.sizeOf116
 v53 := Tryz.zeroValue116 }
theorem Tryz.bits_LeadingZeros64 (x : Int) (w : World) (h0 : 0 ≤ x) (h1 : x ≤ 18446744073709551615) :
  Calls Tryz.prog 182 #[.int .u64 x] w fun e w' => e = .returned (.int .i64 (64 - (Lib.bitLen x.toNat : Int))) ∧ w' = w := Any.bits_LeadingZeros64 Tryz.lays134 x w h0 h1
def Tryz.laysM171_ren : Go.Shelf.Ren := ⟨fun | 171 => 66 | 243 => 118 | 246 => 158 | 283 => 177 | 284 => 178 | 285 => 179 | 286 => 180 | 129 => 191 | 317 => 190 | 318 => 192 | 319 => 193 | 320 => 194 | 337 => 201 | 338 => 149 | n => n, fun | 3 => 3 | 9 => 9 | 2 => 2 | 4 => 4 | 171 => 168 | 0 => 0 | 53 => 116 | 37 => 170 | 5 => 5 | 173 => 171 | 212 => 179 | 51 => 136 | 20 => 20 | 213 => 180 | 46 => 141 | 232 => 188 | 233 => 163 | n => n, fun | 17 => 1 | 18 => 5 | 19 => 0 | n => n⟩
theorem Tryz.laysM171 : Go.Proofs.LaysM.n171 Tryz.prog Tryz.laysM171_ren := {
 mixed := by kernel_rfl
 f129 := Tryz.func191.trans (congrArg some (by kernel_rfl))
 f171 := Tryz.func66.trans (congrArg some (by kernel_rfl))
 f243 := Tryz.func118.trans (congrArg some (by kernel_rfl))
 f246 := Tryz.func158.trans (congrArg some (by kernel_rfl))
 f283 := Tryz.func177.trans (congrArg some (by kernel_rfl))
 f284 := Tryz.func178.trans (congrArg some (by kernel_rfl))
 f285 := Tryz.func179.trans (congrArg some (by kernel_rfl))
 f286 := Tryz.func180.trans (congrArg some (by kernel_rfl))
 f317 := Tryz.func190.trans (congrArg some (by kernel_rfl))
 f318 := Tryz.func192.trans (congrArg some (by kernel_rfl))
 f319 := Tryz.func193.trans (congrArg some (by kernel_rfl))
 f320 := Tryz.func194.trans (congrArg some (by kernel_rfl))
 f337 := Tryz.func201.trans (congrArg some (by kernel_rfl))
 f338 := Tryz.func149.trans (congrArg some (by kernel_rfl))
 t0 := Tryz.underlying0
 a0 := Tryz.isAgg0
 z0 := Tryz.sizeOf0
 v0 := Tryz.zeroValue0
 t2 := Tryz.underlying2
 a2 := Tryz.isAgg2
 z2 := Tryz.sizeOf2
 v2 := Tryz.zeroValue2
 t3 := Tryz.underlying3
 a3 := Tryz.isAgg3
 z3 := Tryz.sizeOf3
 v3 := Tryz.zeroValue3
 t4 := Tryz.underlying4
 a4 := Tryz.isAgg4
 z4 := Tryz.sizeOf4
 v4 := Tryz.zeroValue4
 t5 := Tryz.underlying5
 a5 := Tryz.isAgg5
 z5 := Tryz.sizeOf5
 v5 := Tryz.zeroValue5
 t9 := Tryz.underlying9
 a9 := Tryz.isAgg9
 z9 := Tryz.sizeOf9
 v9 := Tryz.zeroValue9
 t20 := Tryz.underlying20
 a20 := Tryz.isAgg20
 z20 := Tryz.sizeOf20
 v20 := Tryz.zeroValue20
 t37 := Tryz.underlying170
 a37 := Tryz.isAgg170
 z37 := Tryz.sizeOf170
 v37 := Tryz.zeroValue170
 t46 := Tryz.underlying141
 a46 := Tryz.isAgg141
 z46 := Tryz.sizeOf141
 v46 := Tryz.zeroValue141
 t51 := Tryz.underlying136
 a51 := Tryz.isAgg136
 z51 := Tryz.sizeOf136
 v51 := Tryz.zeroValue136
 t53 := Tryz.underlying116
 a53 := Tryz.isAgg116
 z53 := Tryz.sizeOf116
 v53 := Tryz.zeroValue116
 t171 := Tryz.underlying168
 a171 := Tryz.isAgg168
 z171 := Tryz.sizeOf168
 v171 := Tryz.zeroValue168
 t173 := Tryz.underlying171
 a173 := Tryz.isAgg171
 z173 := Tryz.sizeOf171
 v173 := Tryz.zeroValue171
 t212 := Tryz.underlying179
 a212 := Tryz.isAgg179
 z212 := Tryz.sizeOf179
 v212 := Tryz.zeroValue179
 t213 := Tryz.underlying180
 a213 := Tryz.isAgg180
 z213 := Tryz.sizeOf180
 t232 := Tryz.underlying188
 a232 := Tryz.isAgg188
 z232 := Tryz.sizeOf188
 v232 := Tryz.zeroValue188
 t233 := Tryz.underlying163
 a233 := Tryz.isAgg163
 z233 := Tryz.sizeOf163
 v233 := Tryz.zeroValue163
 g17 := by kernel_rfl
 g18 := by kernel_rfl
 g19 := by kernel_rfl
 i0 := by kernel_rfl
 i2 := by kernel_rfl
 i3 := by kernel_rfl
 i4 := by kernel_rfl
 i5 := by kernel_rfl
 i9 := by kernel_rfl
 i20 := by kernel_rfl
 i37 := by kernel_rfl
 i46 := by kernel_rfl
 i51 := by kernel_rfl
 i53 := by kernel_rfl
 i171 := by kernel_rfl
 i173 := by kernel_rfl
 i212 := by kernel_rfl
 i232 := by kernel_rfl
 i233 := by kernel_rfl
 m17 := by kernel_rfl
 m18 := by kernel_rfl
 m19 := by kernel_rfl }
open Go.RowKit Go.Sort Go.Lib in
theorem Tryz.strconv_Itoa (n : Int) (h0 : -9223372036854775808 ≤ n) (h1 : n ≤ 9223372036854775807) (w : World) (htab : Lib.TabIs Tryz.prog w "internal/strconv.uint64pow10" .u64 Lib.pow10Tab) :
  Calls Tryz.prog 66 #[.int .i64 n] w fun e w' => e = .returned (.string ⟨(Lib.itoa n).toArray⟩) ∧ ∃ k os, w' = grow (w.drewN k) os := Any.strconv_Itoa Tryz.laysM171 n h0 h1 w htab
end Go.Proofs
namespace Go.Proofs.YtpjgoogeokbaaaaGreatDoor
open Go.RowKit

theorem aym {k : IntKind} {a b c d : Nat} (h : a = c) (h' : b = d) : Ending.returned (.tuple #[.int k (a : Int), .int k (b : Int)]) = .returned (.tuple #[.int k (c : Int), .int k (d : Int)]) := by rw [h, h']

theorem Zd (s : Nat) (hs : s ≤ 64) : 2 ^ s * 2 ^ (64 - s) = dm := by
 rw [← Nat.pow_add, show s + (64 - s) = 64 by omega]; rfl
theorem bgs {z a s : Nat} (hz : z < 2 ^ s) : (a * 2 ^ s) ||| z = a * 2 ^ s + z := by
 rw [Nat.mul_comm a, ← Nat.two_pow_add_eq_or_of_lt hz]

theorem aok {hi lo s : Nat} (hs : s < 64) (hlo : lo < dm) : (hi * 2 ^ s + lo / 2 ^ (64 - s)) * dm + lo * 2 ^ s % dm = (hi * dm + lo) * 2 ^ s ∧ lo / 2 ^ (64 - s) < 2 ^ s := by
 have hST := Zd s om
 have hS : 0 < 2 ^ s := Nat.pow_pos om
 have hT : 0 < 2 ^ (64 - s) := Nat.pow_pos om
 generalize 2 ^ s = S at *
 generalize 2 ^ (64 - s) = T at *
 constructor
 ·
  have h1 : lo * S % dm = lo % T * S := by rw [← hST, Nat.mul_comm S, Nat.mul_mod_mul_right]
  have h2 := Nat.div_add_mod lo T
  rw [h1]
  generalize lo / T = a at *
  generalize lo % T = b at *
  rw [← h2, ← hST]
  simp only [Nat.add_mul, Nat.mul_add, Nat.mul_comm, Nat.mul_left_comm, Nat.mul_assoc]
  omega
 ·
  rw [Nat.div_lt_iff_lt_mul hT, hST]; exact hlo

theorem ail {n p d v : Nat} (h : n + d = p + v) (hv : v < dm) : (((n % dm + d) % dm : Nat) : Int) - ((p % dm : Nat) : Int) = (v : Int) ∨ (((n % dm + d) % dm : Nat) : Int) - ((p % dm : Nat) : Int) = (v : Int) - 18446744073709551616 := by
 rw [gu] at *; omega
theorem Jn {a : Nat} {x : Int} (h : x = (a : Int)) : IntKind.u64.wrap x = ((a % dm : Nat) : Int) := by
 rw [IntKind.wrap_u64, h, gu]; omega
theorem Js {v : Nat} {x : Int} (hv : v < dm) (h : x = (v : Int) ∨ x = (v : Int) - 18446744073709551616) : IntKind.u64.wrap x = (v : Int) := by
 rw [IntKind.wrap_u64]; rw [gu] at hv; omega

theorem aip {a b B : Nat} (ha : a < B) (hb : b < B) : a * b ≤ (B - 1) * (B - 1) := Nat.mul_le_mul om om
theorem Pk {a b c : Nat} (h : c = a * b) (hc : c < dm) : IntKind.u64.wrap ((a : Int) * (b : Int)) = ((c : Nat) : Int) := by
 rw [IntKind.wrap_u64, h, ← Int.natCast_mul]; rw [gu, h] at hc; omega
theorem Pj {a b c : Nat} (h : c = a + b) (hc : c < dm) : IntKind.u64.wrap ((a : Int) + (b : Int)) = ((c : Nat) : Int) := by
 rw [IntKind.wrap_u64, h]; rw [gu] at hc; omega
theorem Yn {a b : Nat} (h : b ≤ a) (ha : a < dm) : IntKind.u64.wrap ((a : Int) - (b : Int)) = ((a - b : Nat) : Int) := by
 rw [IntKind.wrap_u64]; rw [gu] at ha; omega

theorem Rv : ∀ (f x : Nat), x < 2 ^ f → x < 2 ^ Lib.bitLenAux f x ∧ (x ≠ 0 → 2 ^ (Lib.bitLenAux f x - 1) ≤ x ∧ 0 < Lib.bitLenAux f x) := by
 intro f
 induction f with
 | zero => intro x h; simp at h; subst h; exact ⟨by simp [Lib.bitLenAux], fun h => absurd rfl h⟩
 | succ f ih =>
  intro x h
  unfold Lib.bitLenAux
  by_cases h0 : x = 0
  ·
   rw [if_pos h0]; subst h0; exact ⟨by simp, fun h => absurd rfl h⟩
  ·
   rw [if_neg h0]
   have hx2 : x / 2 < 2 ^ f := by rw [Nat.pow_succ] at h; omega
   obtain ⟨h1, h2⟩ := ih (x / 2) hx2
   refine ⟨?_, fun _ => ⟨?_, by omega⟩⟩
   ·
    rw [Nat.pow_add, Nat.pow_one]; omega
   ·
    rw [Nat.add_sub_cancel_left]
    by_cases h3 : x / 2 = 0
    ·
     have : Lib.bitLenAux f (x / 2) = 0 := by
      rw [h3]; cases f <;> simp [Lib.bitLenAux]
     rw [this]; simp; omega
    ·
     obtain ⟨h4, h5⟩ := h2 h3
     have : Lib.bitLenAux f (x / 2) = (Lib.bitLenAux f (x / 2) - 1) + 1 := by omega
     rw [this, Nat.pow_succ]; omega

theorem amq (y : Nat) (hy : y < dm) (h0 : 0 < y) (w : World) : ∃ s : Nat, s < 64 ∧ 9223372036854775808 ≤ y * 2 ^ s ∧ y * 2 ^ s < dm ∧
  ∀ w : World, Calls Tryz.prog 182 #[.int .u64 ((y : Nat) : Int)] w fun e w' => e = .returned (.int .i64 ((s : Nat) : Int)) ∧ w' = w := by
 obtain ⟨h1, h2⟩ := Rv 64 y hy
 have h3 := (h2 om).1
 change y < 2 ^ Lib.bitLen y at h1
 change 2 ^ (Lib.bitLen y - 1) ≤ y at h3
 have hle := Lib.bitLen_le y 64 om (by rw [gu] at hy; omega)
 have hpos : 0 < Lib.bitLen y := by
  apply Classical.byContradiction
  intro h
  rw [show Lib.bitLen y = 0 by omega] at h1
  simp at h1; omega
 have e1 : 2 ^ (Lib.bitLen y - 1) * 2 ^ (64 - Lib.bitLen y) = 9223372036854775808 := by
  rw [← Nat.pow_add, show Lib.bitLen y - 1 + (64 - Lib.bitLen y) = 63 by omega]
 have e2 : 2 ^ Lib.bitLen y * 2 ^ (64 - Lib.bitLen y) = dm := by
  rw [← Nat.pow_add, show Lib.bitLen y + (64 - Lib.bitLen y) = 64 by omega]; rfl
 refine ⟨64 - Lib.bitLen y, by omega, ?_, ?_, fun w => ?_⟩
 ·
  rw [← e1]; exact Nat.mul_le_mul_right _ h3
 ·
  rw [← e2]; exact Nat.mul_lt_mul_of_pos_right h1 (Nat.pow_pos om)
 ·
  refine (Tryz.bits_LeadingZeros64 (y : Int) w om (by rw [gu] at hy; omega)).mono ?_
  rintro e w' ⟨rfl, rfl⟩
  refine ⟨xh ?_, rfl⟩
  rw [Int.toNat_natCast]; omega

theorem akn (Y : Nat) (hY : Y < dm) : Go.bits .and .u64 (Y : Int) 4294967295 = ((Y % 4294967296 : Nat) : Int) := by
 have h := bits_and_u64_nat Y 4294967295 hY om
 rw [Nat.and_two_pow_sub_one_eq_mod Y 32] at h
 exact h

set_option maxHeartbeats 2000000 in
theorem afe (hi lo y : Nat) (hy : y < dm) (hlo : lo < dm) (hh : hi < y) (w : World) :
  Calls Tryz.prog 195 #[.int .u64 ((hi : Nat) : Int), .int .u64 ((lo : Nat) : Int), .int .u64 ((y : Nat) : Int)] w fun e w' => e = .returned (.tuple #[.int .u64 (((hi * dm + lo) / y : Nat) : Int), .int .u64 (((hi * dm + lo) % y : Nat) : Int)]) ∧ ∃ k, w' = w.drewN k := by
 by_cases h0 : hi = 0
 ·
  subst h0
  have b1 : ((y : Int) == 0) = false := by simp; omega
  have b2 : ¬ ((y : Int) ≤ 0) := by omega
  go_enter Tryz.func195, Tryz.ntmps195
  go_wp2_with fail
  go_region
  go_wp2_with fail
  go_ret2
  refine ⟨?_, 1, rfl⟩
  have e1 : IntKind.u64.wrap ((lo : Int) / (y : Int)) = ((lo / y : Nat) : Int) := by
   have : lo / y ≤ lo := Nat.div_le_self _ _
   rw [gu] at hlo
   rw [IntKind.wrap_u64, ← Int.natCast_ediv]; generalize lo / y = z at *; omega
  simp [e1]
 ·
  have b1 : ((y : Int) == 0) = false := by simp; omega
  have b3 : ((hi : Int) == 0) = false := by simp; omega
  have b2 : ¬ ((y : Int) ≤ (hi : Int)) := by omega
  obtain ⟨s, hs, hY1, hY2, hlz⟩ := amq y hy om w
  obtain ⟨Y, hYY⟩ : ∃ Y, Y = y * 2 ^ s := ⟨_, rfl⟩
  rw [← hYY] at hY1 hY2
  obtain ⟨y1, hy1⟩ : ∃ t, t = Y / 4294967296 := ⟨_, rfl⟩
  obtain ⟨y0, hy0⟩ : ∃ t, t = Y % 4294967296 := ⟨_, rfl⟩
  obtain ⟨p1, hp1⟩ : ∃ t, t = hi * 2 ^ s := ⟨_, rfl⟩
  obtain ⟨p2, hp2⟩ : ∃ t, t = lo / 2 ^ (64 - s) := ⟨_, rfl⟩
  obtain ⟨u, hu⟩ : ∃ t, t = p1 + p2 := ⟨_, rfl⟩
  obtain ⟨un, hun⟩ : ∃ t, t = lo * 2 ^ s % dm := ⟨_, rfl⟩
  obtain ⟨d1, hd1⟩ : ∃ t, t = un / 4294967296 := ⟨_, rfl⟩
  obtain ⟨d0, hd0⟩ : ∃ t, t = un % 4294967296 := ⟨_, rfl⟩
  have e1 : IntKind.u64.wrap ((y : Int) * 2 ^ s) = (Y : Int) := Js hY2 (.inl (by rw [hYY]; simp))
  have hsh := aok (hi := hi) hs hlo
  have bua : p1 + 2 ^ s ≤ Y := by
   rw [hp1, hYY, ← Nat.succ_mul]; exact Nat.mul_le_mul_right _ hh
  have bjr : p2 < 2 ^ s := by rw [hp2]; exact hsh.2
  have huY : u < Y := by omega
  have adl : un < dm := by rw [hun]; exact Nat.mod_lt _ (by rw [gu]; omega)
  have hY3 : Y = y1 * di + y0 := by rw [hy1, hy0, fo]; omega
  have e2 : (Y : Int) / 4294967296 = (y1 : Int) := by rw [hy1]; simp
  have e3 : Go.bits .and .u64 (Y : Int) 4294967295 = (y0 : Int) := by rw [akn Y hY2, hy0]
  have e4 : IntKind.u64.wrap ((hi : Int) * 2 ^ s) = (p1 : Int) := Js om (.inl (by rw [hp1]; simp))
  have e5 : (lo : Int) / 2 ^ (64 - s) = (p2 : Int) := by rw [hp2]; simp
  have e6 : Go.bits .or .u64 (p1 : Int) (p2 : Int) = (u : Int) := by rw [bits_or_u64_nat p1 p2 (show p1 < dm by omega) (show p2 < dm by omega), hu]; rw [hp1, bgs bjr]
  have e7 : IntKind.u64.wrap ((lo : Int) * 2 ^ s) = (un : Int) := by rw [hun]; exact Jn (by simp)
  have e8 : (un : Int) / 4294967296 = (d1 : Int) := by rw [hd1]; simp
  have e9 : Go.bits .and .u64 (un : Int) 4294967295 = (d0 : Int) := by rw [akn un adl, hd0]
  obtain ⟨q, hq⟩ : ∃ t, t = u / y1 := ⟨_, rfl⟩
  obtain ⟨t1, ht1⟩ : ∃ t, t = q * y1 := ⟨_, rfl⟩
  obtain ⟨r, hr⟩ : ∃ t, t = u - t1 := ⟨_, rfl⟩
  have bty : q ≤ u := by rw [hq]; exact Nat.div_le_self _ _
  have bjm : t1 ≤ u := by rw [ht1, hq]; exact Nat.div_mul_le_self _ _
  have Te : 0 < y1 := by rw [hy1]; omega
  have hr1 : r < y1 := by rw [hr, ht1, hq, Nat.mul_comm, ← Nat.mod_eq_sub_mul_div]; exact Nat.mod_lt _ Te
  have e10 : IntKind.u64.wrap ((u : Int) / (y1 : Int)) = (q : Int) := Js om (.inl (by rw [hq]; simp))
  have e11 : IntKind.u64.wrap ((q : Int) * (y1 : Int)) = (t1 : Int) := Pk ht1 om
  have e12 : IntKind.u64.wrap ((u : Int) - (t1 : Int)) = (r : Int) := by rw [hr]; exact Yn bjm om
  have GY1 : Hid (y1 < di) := by show y1 < di; rw [gu] at hY2; rw [fo]; omega
  have Jm : Hid (0 < y1 * di + y0) := by show 0 < y1 * di + y0; omega
  have Gy0 : Hid (y0 < di) := by show y0 < di; rw [fo]; omega
  have GuY : Hid (u < y1 * di + y0) := by show u < y1 * di + y0; omega
  have Gd1 : Hid (d1 < di) := by show d1 < di; rw [gu] at adl; rw [fo]; omega
  have Gd0 : Hid (d0 < di) := by show d0 < di; rw [fo]; omega
  have GST : Hid (Wd.Dr di y1 y0 u d1 q r) := by rw [hr, ht1, hq]; exact Wd.Dr.start Te (aa Gd1)
  have GqB : Hid (q < dm) := show q < dm by omega
  have GrB : Hid (r < di) := show r < di by have := aa GY1; omega
  have GY3 := Lib.hid hY3
  have GSH := hide hsh
  have GuB : Hid (u < Y) := huY
  have cfm : 1 ≤ (y1 : Int) := by rw [hy1]; omega
  have HLZ := hide hlz
  have H1 := Lib.hid hYY; have H2 := Lib.hid hy1; have H3 := Lib.hid hy0; have H4 := Lib.hid hp1; have H5 := Lib.hid hp2; have H6 := Lib.hid hu; have H7 := Lib.hid hun; have H8 := Lib.hid hd1; have H9 := Lib.hid hd0
  have Gg := Lib.hid hq; have Vf := Lib.hid ht1; have H12 := Lib.hid hr
  have G1 := hide hY1; have G2 := hide hY2
  clear hlz hYY hy1 hy0 hp1 hp2 hu hun hd1 hd0 hY1 hY2 hq ht1 hr hsh bua bjr huY adl hY3 bty bjm hr1 Te
  go_enter Tryz.func195, Tryz.ntmps195
  go_wp2_with fail
  refine ((aa HLZ) _).mono ?_
  rintro e w' ⟨rfl, rfl⟩
  go_upto_block 0 with (fail)
  go_cut [15] (fun qv wx => w' = wx ∧ qv = .int .u64 (((u * di + d1) / (y1 * di + y0) : Nat) : Int))
  case first =>
   go_wp2_with fail
   go_loop [15, 16] (fun qv rv => ∃ q r : Nat, qv = .int .u64 ((q : Nat) : Int) ∧ rv = .int .u64 ((r : Nat) : Int) ∧ Hid (q < dm) ∧ Hid (r < di) ∧ Hid (Wd.Dr di y1 y0 u d1 q r)) (fun qv _ => (intOf qv).toNat)
   case atStart => exact ⟨q, r, rfl, rfl, GqB, GrB, GST⟩
   case round =>
    obtain ⟨q2, r2, rfl, rfl, hq2, hr2, HI⟩ := hrel
    obtain ⟨q3, hq3⟩ : ∃ t, t = q2 - 1 := ⟨_, rfl⟩
    obtain ⟨r3, hr3⟩ : ∃ t, t = r2 + y1 := ⟨_, rfl⟩
    have f1 : 1 ≤ q2 → IntKind.u64.wrap ((q2 : Int) - 1) = (q3 : Int) := fun h => by
     have := hq2.out; rw [gu] at this; rw [IntKind.wrap_u64]; omega
    have f2 : IntKind.u64.wrap ((r2 : Int) + (y1 : Int)) = (r3 : Int) := Pj hr3 (by have h1 := hr2.out; have h2 := aa GY1; rw [fo] at h1 h2; rw [gu]; omega)
    have hstep : (di ≤ q2 ∨ di * r2 + d1 < q2 * y0) → 1 ≤ q2 ∧ Wd.Dr di y1 y0 u d1 q3 r3 := fun h => by
     rw [hq3, hr3]; exact HI.out.step (aa Jm) (aa GuY) (aa Gd1) h
    have aga := hide hstep
    by_cases hb : di ≤ q2
    ·
     obtain ⟨hq1, Eb⟩ := hstep (.inl hb)
     have hbd : decide ((4294967296 : Int) ≤ (q2 : Int)) = true := by rw [fo] at hb; simp; omega
     have Pt := f1 hq1
     have Vd := hide hq1; have Tx := hide Eb; have Vb := hide hq3
     by_cases hr : di ≤ r3
     ·
      have hrd : decide ((4294967296 : Int) ≤ (r3 : Int)) = true := by rw [fo] at hr; simp; omega
      have hfin := Eb.stop (aa Jm) (aa Gy0) (aa GuY) hr
      have Ha := Lib.hid hfin
      clear hb hr hq3 hr3 f1 hstep hq1 Eb hfin HI
      go_wp2_with fail
      go_meet
      exact ⟨rfl, Ha.out ▸ rfl⟩
     ·
      have hrd : decide ((4294967296 : Int) ≤ (r3 : Int)) = false := by rw [fo] at hr; simp; omega
      have HR := hide (show r3 < di by omega)
      clear hb hr hq3 hr3 f1 hstep hq1 Eb HI
      go_wp2_with fail
      go_round
      case rel => exact ⟨q3, r3, rfl, rfl, by rw [Vb.out]; exact Nat.lt_of_le_of_lt (Nat.sub_le _ _) hq2.out, HR, Tx⟩
      case measure => have h1 := Vd.out; have h2 := Vb.out; simp [intOf]; omega
    ·
     have hbd : decide ((4294967296 : Int) ≤ (q2 : Int)) = false := by rw [fo] at hb; simp; omega
     obtain ⟨pp, Bw⟩ : ∃ t, t = q2 * y0 := ⟨_, rfl⟩
     obtain ⟨m2, hm2⟩ : ∃ t, t = di * r2 := ⟨_, rfl⟩
     obtain ⟨m3, Jg⟩ : ∃ t, t = m2 + d1 := ⟨_, rfl⟩
     have g0 : pp < dm := by
      have h1 : q2 * y0 ≤ (di - 1) * (di - 1) := aip (by omega) (aa Gy0)
      rw [Bw]; rw [fo] at h1; rw [gu]; omega
     have g1 : IntKind.u64.wrap ((q2 : Int) * (y0 : Int)) = (pp : Int) := Pk Bw g0
     have g2 : IntKind.u64.wrap (4294967296 * (r2 : Int)) = (m2 : Int) := by
      have h1 := hr2.out
      rw [fo] at h1 hm2
      rw [IntKind.wrap_u64, hm2]; omega
     have g3 : IntKind.u64.wrap ((m2 : Int) + (d1 : Int)) = (m3 : Int) := Pj Jg (by have h1 := hr2.out; have h2 := aa Gd1; rw [fo] at h1 h2 hm2; rw [gu]; omega)
     by_cases ht : m3 < pp
     ·
      have htd : decide ((m3 : Int) < (pp : Int)) = true := by simp; omega
      have bah : decide (m3 < pp) = true := by simp; omega
      obtain ⟨hq1, Eb⟩ := hstep (.inr om)
      have Pt := f1 hq1
      have Vd := hide hq1; have Tx := hide Eb; have Vb := hide hq3
      by_cases hr : di ≤ r3
      ·
       have hrd : decide ((4294967296 : Int) ≤ (r3 : Int)) = true := by rw [fo] at hr; simp; omega
       have hfin := Eb.stop (aa Jm) (aa Gy0) (aa GuY) hr
       have Ha := Lib.hid hfin
       clear hb hr hq3 hr3 f1 hstep hq1 Eb hfin HI Bw hm2 Jg g0 ht
       go_wp2_with fail
       go_meet
       exact ⟨rfl, Ha.out ▸ rfl⟩
      ·
       have hrd : decide ((4294967296 : Int) ≤ (r3 : Int)) = false := by rw [fo] at hr; simp; omega
       have HR := hide (show r3 < di by omega)
       clear hb hr hq3 hr3 f1 hstep hq1 Eb HI Bw hm2 Jg g0 ht
       go_wp2_with fail
       go_round
       case rel => exact ⟨q3, r3, rfl, rfl, by rw [Vb.out]; exact Nat.lt_of_le_of_lt (Nat.sub_le _ _) hq2.out, HR, Tx⟩
       case measure => have h1 := Vd.out; have h2 := Vb.out; simp [intOf]; omega
     ·
      have htd : decide ((m3 : Int) < (pp : Int)) = false := by simp; omega
      have bah : decide (m3 < pp) = false := by simp; omega
      have hfin := HI.out.done (aa Jm) om
      have Ha := Lib.hid hfin
      clear hb hq3 hr3 f1 hstep hfin HI Bw hm2 Jg g0 ht
      go_wp2_with fail
      go_meet
      exact ⟨rfl, Ha.out ▸ rfl⟩
  case rest =>
   obtain ⟨rfl, rfl⟩ := hcut
   obtain ⟨q1, hq1⟩ : ∃ t, t = (u * di + d1) / (y1 * di + y0) := ⟨_, rfl⟩
   obtain ⟨v, hv⟩ : ∃ t, t = (u * di + d1) % (y1 * di + y0) := ⟨_, rfl⟩
   rw [← hq1]
   have Dg : u * di + d1 = q1 * Y + v := by
    rw [hq1, hv, GY3.out, Nat.mul_comm _ (y1 * di + y0)]; exact (Nat.div_add_mod _ _).symm
   have hvY : v < Y := by rw [hv, GY3.out]; exact Nat.mod_lt _ (aa Jm)
   have hvB : v < dm := Nat.lt_trans hvY (aa G2)
   have aps : q1 < di := by rw [hq1]; exact Wd.akh (aa Jm) (aa GuY) (aa Gd1)
   have k1 : IntKind.u64.wrap ((u : Int) * 4294967296) = ((u * di % dm : Nat) : Int) := Jn (by rw [fo]; simp)
   have k2 : IntKind.u64.wrap (((u * di % dm : Nat) : Int) + (d1 : Int)) = (((u * di % dm + d1) % dm : Nat) : Int) := Jn (by simp)
   have k3 : IntKind.u64.wrap ((q1 : Int) * (Y : Int)) = ((q1 * Y % dm : Nat) : Int) := Jn (by simp)
   have k4 := Js hvB (ail Dg hvB)
   obtain ⟨a1, ha1⟩ : ∃ t, t = u * di % dm := ⟨_, rfl⟩
   rw [← ha1] at k1 k2 k4
   obtain ⟨a2, ha2⟩ : ∃ t, t = (a1 + d1) % dm := ⟨_, rfl⟩
   rw [← ha2] at k2 k4
   obtain ⟨a3, ha3⟩ : ∃ t, t = q1 * Y % dm := ⟨_, rfl⟩
   rw [← ha3] at k3 k4
   obtain ⟨q', hq'⟩ : ∃ t, t = v / y1 := ⟨_, rfl⟩
   obtain ⟨t', ht'⟩ : ∃ t, t = q' * y1 := ⟨_, rfl⟩
   obtain ⟨r', hr'⟩ : ∃ t, t = v - t' := ⟨_, rfl⟩
   have hqv : q' ≤ v := by rw [hq']; exact Nat.div_le_self _ _
   have htv : t' ≤ v := by rw [ht', hq']; exact Nat.div_mul_le_self _ _
   have Te : 0 < y1 := by omega
   have hrv : r' < y1 := by rw [hr', ht', hq', Nat.mul_comm, ← Nat.mod_eq_sub_mul_div]; exact Nat.mod_lt _ Te
   have k5 : IntKind.u64.wrap ((v : Int) / (y1 : Int)) = (q' : Int) := Js om (.inl (by rw [hq']; simp))
   have k6 : IntKind.u64.wrap ((q' : Int) * (y1 : Int)) = (t' : Int) := Pk ht' (by omega)
   have k7 : IntKind.u64.wrap ((v : Int) - (t' : Int)) = (r' : Int) := by rw [hr']; exact Yn htv hvB
   have GvY : Hid (v < y1 * di + y0) := by show v < y1 * di + y0; rw [← GY3.out]; exact hvY
   have bvo : Hid (Wd.Dr di y1 y0 v d0 q' r') := by rw [hr', ht', hq']; exact Wd.Dr.start Te (aa Gd0)
   have bvn : Hid (q' < dm) := show q' < dm by omega
   have bvm : Hid (r' < di) := show r' < di by have := aa GY1; omega
   have K1 := Lib.hid hq1; have K2 := Lib.hid hv; have K3 := hide hvB; have K4 := hide aps
   clear hq1 hv Dg hvY hvB aps ha1 ha2 ha3 hq' ht' hr' hqv htv Te hrv
   go_upto_block 2 with (fail)
   go_cut [18] (fun qv wx => w' = wx ∧ qv = .int .u64 (((v * di + d0) / (y1 * di + y0) : Nat) : Int))
   case first =>
    go_wp2_with fail
    go_loop [18, 16] (fun qv rv => ∃ q r : Nat, qv = .int .u64 ((q : Nat) : Int) ∧ rv = .int .u64 ((r : Nat) : Int) ∧ Hid (q < dm) ∧ Hid (r < di) ∧ Hid (Wd.Dr di y1 y0 v d0 q r)) (fun qv _ => (intOf qv).toNat)
    case atStart => exact ⟨q', r', rfl, rfl, bvn, bvm, bvo⟩
    case round =>
     obtain ⟨q2, r2, rfl, rfl, hq2, hr2, HI⟩ := hrel
     obtain ⟨q3, hq3⟩ : ∃ t, t = q2 - 1 := ⟨_, rfl⟩
     obtain ⟨r3, hr3⟩ : ∃ t, t = r2 + y1 := ⟨_, rfl⟩
     have f1 : 1 ≤ q2 → IntKind.u64.wrap ((q2 : Int) - 1) = (q3 : Int) := fun h => by
      have := hq2.out; rw [gu] at this; rw [IntKind.wrap_u64]; omega
     have f2 : IntKind.u64.wrap ((r2 : Int) + (y1 : Int)) = (r3 : Int) := Pj hr3 (by have h1 := hr2.out; have h2 := aa GY1; rw [fo] at h1 h2; rw [gu]; omega)
     have hstep : (di ≤ q2 ∨ di * r2 + d0 < q2 * y0) → 1 ≤ q2 ∧ Wd.Dr di y1 y0 v d0 q3 r3 := fun h => by
      rw [hq3, hr3]; exact HI.out.step (aa Jm) (aa GvY) (aa Gd0) h
     have aga := hide hstep
     by_cases hb : di ≤ q2
     ·
      obtain ⟨hq1, Eb⟩ := hstep (.inl hb)
      have hbd : decide ((4294967296 : Int) ≤ (q2 : Int)) = true := by rw [fo] at hb; simp; omega
      have Pt := f1 hq1
      have Vd := hide hq1; have Tx := hide Eb; have Vb := hide hq3
      by_cases hr : di ≤ r3
      ·
       have hrd : decide ((4294967296 : Int) ≤ (r3 : Int)) = true := by rw [fo] at hr; simp; omega
       have hfin := Eb.stop (aa Jm) (aa Gy0) (aa GvY) hr
       have Ha := Lib.hid hfin
       clear hb hr hq3 hr3 f1 hstep hq1 Eb hfin HI
       go_wp2_with fail
       go_meet
       exact ⟨rfl, Ha.out ▸ rfl⟩
      ·
       have hrd : decide ((4294967296 : Int) ≤ (r3 : Int)) = false := by rw [fo] at hr; simp; omega
       have HR := hide (show r3 < di by omega)
       clear hb hr hq3 hr3 f1 hstep hq1 Eb HI
       go_wp2_with fail
       go_round
       case rel => exact ⟨q3, r3, rfl, rfl, by rw [Vb.out]; exact Nat.lt_of_le_of_lt (Nat.sub_le _ _) hq2.out, HR, Tx⟩
       case measure => have h1 := Vd.out; have h2 := Vb.out; simp [intOf]; omega
     ·
      have hbd : decide ((4294967296 : Int) ≤ (q2 : Int)) = false := by rw [fo] at hb; simp; omega
      obtain ⟨pp, Bw⟩ : ∃ t, t = q2 * y0 := ⟨_, rfl⟩
      obtain ⟨m2, hm2⟩ : ∃ t, t = di * r2 := ⟨_, rfl⟩
      obtain ⟨m3, Jg⟩ : ∃ t, t = m2 + d0 := ⟨_, rfl⟩
      have g0 : pp < dm := by
       have h1 : q2 * y0 ≤ (di - 1) * (di - 1) := aip (by omega) (aa Gy0)
       rw [Bw]; rw [fo] at h1; rw [gu]; omega
      have g1 : IntKind.u64.wrap ((q2 : Int) * (y0 : Int)) = (pp : Int) := Pk Bw g0
      have g2 : IntKind.u64.wrap (4294967296 * (r2 : Int)) = (m2 : Int) := by
       have h1 := hr2.out
       rw [fo] at h1 hm2
       rw [IntKind.wrap_u64, hm2]; omega
      have g3 : IntKind.u64.wrap ((m2 : Int) + (d0 : Int)) = (m3 : Int) := Pj Jg (by have h1 := hr2.out; have h2 := aa Gd0; rw [fo] at h1 h2 hm2; rw [gu]; omega)
      by_cases ht : m3 < pp
      ·
       have htd : decide ((m3 : Int) < (pp : Int)) = true := by simp; omega
       have bah : decide (m3 < pp) = true := by simp; omega
       obtain ⟨hq1, Eb⟩ := hstep (.inr om)
       have Pt := f1 hq1
       have Vd := hide hq1; have Tx := hide Eb; have Vb := hide hq3
       by_cases hr : di ≤ r3
       ·
        have hrd : decide ((4294967296 : Int) ≤ (r3 : Int)) = true := by rw [fo] at hr; simp; omega
        have hfin := Eb.stop (aa Jm) (aa Gy0) (aa GvY) hr
        have Ha := Lib.hid hfin
        clear hb hr hq3 hr3 f1 hstep hq1 Eb hfin HI Bw hm2 Jg g0 ht
        go_wp2_with fail
        go_meet
        exact ⟨rfl, Ha.out ▸ rfl⟩
       ·
        have hrd : decide ((4294967296 : Int) ≤ (r3 : Int)) = false := by rw [fo] at hr; simp; omega
        have HR := hide (show r3 < di by omega)
        clear hb hr hq3 hr3 f1 hstep hq1 Eb HI Bw hm2 Jg g0 ht
        go_wp2_with fail
        go_round
        case rel => exact ⟨q3, r3, rfl, rfl, by rw [Vb.out]; exact Nat.lt_of_le_of_lt (Nat.sub_le _ _) hq2.out, HR, Tx⟩
        case measure => have h1 := Vd.out; have h2 := Vb.out; simp [intOf]; omega
      ·
       have htd : decide ((m3 : Int) < (pp : Int)) = false := by simp; omega
       have bah : decide (m3 < pp) = false := by simp; omega
       have hfin := HI.out.done (aa Jm) om
       have Ha := Lib.hid hfin
       clear hb hq3 hr3 f1 hstep hfin HI Bw hm2 Jg g0 ht
       go_wp2_with fail
       go_meet
       exact ⟨rfl, Ha.out ▸ rfl⟩
   case rest =>
    obtain ⟨rfl, rfl⟩ := hcut
    obtain ⟨q0, hq0⟩ : ∃ t, t = (v * di + d0) / (y1 * di + y0) := ⟨_, rfl⟩
    obtain ⟨R, hR⟩ : ∃ t, t = (v * di + d0) % (y1 * di + y0) := ⟨_, rfl⟩
    rw [← hq0]
    have Dg : v * di + d0 = q0 * Y + R := by
     rw [hq0, hR, GY3.out, Nat.mul_comm _ (y1 * di + y0)]; exact (Nat.div_add_mod _ _).symm
    have hRY : R < Y := by rw [hR, GY3.out]; exact Nat.mod_lt _ (aa Jm)
    have hRB : R < dm := Nat.lt_trans hRY (aa G2)
    have btz : q0 < di := by rw [hq0]; exact Wd.akh (aa Jm) (aa GvY) (aa Gd0)
    have aps := aa K4
    have n1 : IntKind.u64.wrap ((q1 : Int) * 4294967296) = ((q1 * di : Nat) : Int) := Js (by rw [fo] at *; rw [gu]; omega) (.inl (by rw [fo]; simp))
    have n2 : IntKind.u64.wrap (((q1 * di : Nat) : Int) + (q0 : Int)) = ((q1 * di + q0 : Nat) : Int) := Js (by rw [fo] at *; rw [gu]; omega) (.inl (by simp))
    have n3 : IntKind.u64.wrap ((v : Int) * 4294967296) = ((v * di % dm : Nat) : Int) := Jn (by rw [fo]; simp)
    have n4 : IntKind.u64.wrap (((v * di % dm : Nat) : Int) + (d0 : Int)) = (((v * di % dm + d0) % dm : Nat) : Int) := Jn (by simp)
    have n5 : IntKind.u64.wrap ((q0 : Int) * (Y : Int)) = ((q0 * Y % dm : Nat) : Int) := Jn (by simp)
    have n6 := Js hRB (ail Dg hRB)
    obtain ⟨b1, hb1⟩ : ∃ t, t = q1 * di := ⟨_, rfl⟩
    rw [← hb1] at n1 n2
    obtain ⟨Q, hQ⟩ : ∃ t, t = b1 + q0 := ⟨_, rfl⟩
    rw [← hQ] at n2
    obtain ⟨c1, hc1⟩ : ∃ t, t = v * di % dm := ⟨_, rfl⟩
    rw [← hc1] at n3 n4 n6
    obtain ⟨c2, hc2⟩ : ∃ t, t = (c1 + d0) % dm := ⟨_, rfl⟩
    rw [← hc2] at n4 n6
    obtain ⟨c3, hc3⟩ : ∃ t, t = q0 * Y % dm := ⟨_, rfl⟩
    rw [← hc3] at n5 n6
    obtain ⟨z, hz⟩ : ∃ t, t = R / 2 ^ s := ⟨_, rfl⟩
    have n7 : (R : Int) / 2 ^ s = (z : Int) := by rw [hz]; simp
    have hfin : Q = (hi * dm + lo) / y ∧ z = (hi * dm + lo) % y := by
     have hY0 : 0 < Y := Nat.lt_of_lt_of_le om (aa G1)
     have hS : 0 < 2 ^ s := Nat.pow_pos om
     have hN : u * (di * di) + d1 * di + d0 = (hi * dm + lo) * 2 ^ s := by
      have h1 := (aa GSH).1
      rw [← H4.out, ← H5.out, ← H6.out, ← H7.out] at h1
      have h2 : un = d1 * di + d0 := by rw [H8.out, H9.out, fo]; omega
      rw [← h1, h2, show di * di = dm from rfl, Nat.add_assoc]
     have h3 := Wd.anz (b := di) (Y := Y) (u := u) (d1 := d1) (d0 := d0) hY0
     have h4 := Wd.Sj (N := hi * dm + lo) (Y := y) (S := 2 ^ s) hS
     rw [hN] at h3
     rw [← H1.out] at h4
     rw [GY3.out] at h3 h4
     rw [← K1.out, ← K2.out, ← hq0, ← hR] at h3
     rw [h3.1, h3.2] at h4
     exact ⟨by rw [hQ, hb1]; exact h4.1, by rw [hz]; exact h4.2⟩
    have HF := hide hfin
    clear hq0 hR Dg hRY hRB btz aps hb1 hQ hc1 hc2 hc3 hz hfin
    go_wp2_with fail
    go_ret2
    exact ⟨aym (aa HF).1 (aa HF).2, 0, rfl⟩
end Go.Proofs.YtpjgoogeokbaaaaGreatDoor
namespace Go.Proofs.YtpjgoogeokbaaaaGreatDoor
open Go.RowKit

theorem Mg (s : Nat) (hs : s ≤ 64) : 2 ^ s * 2 ^ (64 - s) = dm := by
 rw [← Nat.pow_add, show s + (64 - s) = 64 by omega]; rfl

theorem Xg {m s : Nat} (hs : s ≤ 64) : m * 2 ^ s % dm = m % 2 ^ (64 - s) * 2 ^ s := by
 rw [← Mg s hs, Nat.mul_comm (2 ^ s), Nat.mul_mod_mul_right]

theorem Nr {z a s : Nat} (hz : z < 2 ^ s) : z ||| (a * 2 ^ s) = z + a * 2 ^ s := by
 rw [Nat.or_comm, Nat.mul_comm a, ← Nat.two_pow_add_eq_or_of_lt hz, Nat.add_comm]

def bva (w : World) (xl : List Nat) (v : Nat) (e : Ending) (w' : World) : Prop :=
 ∃ zr, e = .returned (.slice (some ⟨w.heap.size, 0, none⟩) (xl.length + 1) (xl.length + 1)) ∧ zr.length = xl.length + 1 ∧ (∀ x ∈ zr, x < dm) ∧ Wd.val dm zr = v ∧ ZB .u64 w' w.heap.size 116 zr ∧ Below w.heap.size w w'

set_option maxHeartbeats 1000000 in
theorem azi (Ax : Option Addr) (cx : Nat) (xl : List Nat) (n s : Nat) (w : World) (hx : nz w Ax cx xl n) (hs : s < 64) (hk : xl.length + 1 ≤ 35184372088832) :
  Calls Tryz.prog 183 #[.slice Ax xl.length cx, .int .u64 ((s : Nat) : Int)] w fun e w' => bva w xl (n * 2 ^ s) e w' := by
 have hmk := Mj (xl.length + 1) hk
 simp only [Int.natCast_add, Int.cast_ofNat_Int] at hmk
 have hx1 := hx.uk; have hx2 := hx.cap2
 go_enter Tryz.func183, Tryz.ntmps183
 go_wp2
 go_loopw [14] (fun iv wr => ∃ (i : Nat) (zr : List Nat), i ≤ xl.length ∧ iv = .int .i64 ((i : Nat) : Int) ∧ Hid (Wd.Gb dm (2 ^ s) xl zr i) ∧ ZB .u64 wr w.heap.size 116 zr ∧ Below w.heap.size w wr) (fun iv _ => xl.length - (intOf iv).toNat)
 case atStart => exact ⟨0, List.replicate (xl.length + 1) 0, Nat.zero_le _, rfl, Wd.Gb.start _ _ (Nat.pow_pos om) (by rw [gu]; omega) (by simp) (Nf _), heap_alloc_new w _, (Below.refl _ _).alloc (Nat.le_refl _) _⟩
 case round =>
  obtain ⟨i, zr, hi, rfl, HI, oo, hg⟩ := hrel
  have hlen := HI.out.len
  by_cases hlt : i < xl.length
  ·
   obtain ⟨bx, ox, rfl, hbx, hcx⟩ := hx.ws om
   have Fs := (hg.cell (p := ⟨bx, ox + i, none⟩) hbx).trans (hcx i hlt)
   clear hcx
   have hzc := oo.cell i om
   have Oh := oo.frozen i
   have btr := oo.cell (i + 1) om
   have bjh := oo.frozen (i + 1)
   obtain ⟨m, hm⟩ : ∃ m, m = Wd.g xl i := ⟨_, rfl⟩
   obtain ⟨z, hz⟩ : ∃ z, z = Wd.g zr i := ⟨_, rfl⟩
   rw [← hm] at Fs
   rw [← hz] at hzc
   have Kz : m < dm := by rw [hm]; exact Wd.getD_lt (by rw [gu]; omega) _ hx.lt i
   have Iq : z < dm := by rw [hz]; exact Wd.getD_lt (by rw [gu]; omega) _ HI.out.lt i
   have hzS : z < 2 ^ s := by rw [hz]; exact HI.out.low
   obtain ⟨p, hp⟩ : ∃ p, p = m % 2 ^ (64 - s) * 2 ^ s := ⟨_, rfl⟩
   obtain ⟨r, hr⟩ : ∃ r, r = z + p := ⟨_, rfl⟩
   obtain ⟨q, hq⟩ : ∃ q, q = m / 2 ^ (64 - s) := ⟨_, rfl⟩
   have Rq : p < dm := by rw [hp, ← Xg om]; exact Nat.mod_lt _ (by rw [gu]; omega)
   have e1 : IntKind.u64.wrap ((m : Int) * 2 ^ s) = (p : Int) := by
    rw [hp, ← Xg om, IntKind.wrap_u64, gu]; simp
   have e2 : Go.bits .or .u64 (z : Int) (p : Int) = (r : Int) := by
    rw [bits_or_u64_nat z p Iq Rq, hr, hp, Nr hzS]
   have e3 : (m : Int) / 2 ^ (64 - s) = (q : Int) := by rw [hq]; simp
   have hfin : ∀ W, W = (wr.setCell ⟨w.heap.size, i, none⟩ (.int .u64 (r : Int))).setCell ⟨w.heap.size, i + 1, none⟩ (.int .u64 (q : Int)) → Hid (Wd.Gb dm (2 ^ s) xl ((zr.set i r).set (i + 1) q) (i + 1)) ∧ ZB .u64 W w.heap.size 116 ((zr.set i r).set (i + 1) q) ∧ Below w.heap.size w W := by
    rintro W rfl
    refine ⟨?_, (oo.Ei _ _).Ei _ _, (hg.setCell (by simp) _).setCell (by simp) _⟩
    rw [hr, hp, hq, hm, hz]
    exact HI.out.step (Mg s om) (Nat.pow_pos om) hlt (by rw [← Wd.ry, ← hm]; exact Kz)
   have HF := hide hfin
   clear hfin hp hr hq hm hz hzS oo hg
   go_wp2_with fail
   go_roundw
   case rel =>
    obtain ⟨r1, r2, r3⟩ := (aa HF) _ rfl
    exact ⟨i + 1, _, by omega, by go_num, r1, r2, r3⟩
   case measure => simp [intOf] <;> omega
  ·
   have e : i = xl.length := by omega
   subst e
   have hv := HI.out.done
   rw [hx.val] at hv
   have HV := Lib.hid hv
   clear hv
   go_wp2_with fail
   go_ret
   exact ⟨zr, rfl, hlen, HI.out.lt, HV.out, oo, hg⟩

set_option maxHeartbeats 2000000 in
theorem atm (Ax : Option Addr) (cx : Nat) (xl : List Nat) (s : Nat) (w : World) (hx : Ws .u64 w w.heap.size Ax xl) (hx1 : xl.length ≤ cx) (hx2 : cx ≤ 9223372036854775807) (hxl : ∀ x ∈ xl, x < dm) (hs : s < 64) (hk : xl.length ≤ 35184372088832) :
  Calls Tryz.prog 185 #[.slice Ax xl.length cx, .int .u64 ((s : Nat) : Int)] w fun e w' => Gs w (Wd.val dm xl / 2 ^ s) e w' := by
 have hmk := Mj xl.length hk
 go_enter Tryz.func185, Tryz.ntmps185
 go_wp2
 go_loopw [12] (fun iv wr => ∃ (i : Nat) (zr : List Nat), i ≤ xl.length ∧ iv = .int .i64 ((i : Nat) : Int) ∧ Hid (Wd.Fe dm (2 ^ s) xl zr i) ∧ ZB .u64 wr w.heap.size 116 zr ∧ Below w.heap.size w wr) (fun iv _ => xl.length - (intOf iv).toNat)
 case atStart => exact ⟨0, List.replicate xl.length 0, Nat.zero_le _, rfl, Wd.Fe.start _ _ (by simp) (Ld (by rw [gu]; omega) _), heap_alloc_new w _, (Below.refl _ _).alloc (Nat.le_refl _) _⟩
 case round =>
  obtain ⟨i, zr, hi, rfl, HI, oo, hg⟩ := hrel
  have hlen := HI.out.len
  by_cases hlt : i < xl.length
  ·
   obtain ⟨bx, ox, hA, hbx, hcx⟩ := hx om
   have hxr : Ws .u64 wr w.heap.size Ax xl := hx.below hg
   subst hA
   have Fs := (hg.cell (p := ⟨bx, ox + i, none⟩) hbx).trans (hcx i hlt)
   clear hcx
   have hzc := oo.cell i om
   have Oh := oo.frozen i
   obtain ⟨m, hm⟩ : ∃ m, m = Wd.g xl i := ⟨_, rfl⟩
   obtain ⟨m1, hm1⟩ : ∃ m1, m1 = Wd.g xl (i + 1) := ⟨_, rfl⟩
   rw [← hm] at Fs
   have Kz : m < dm := by rw [hm]; exact Wd.getD_lt (by rw [gu]; omega) _ hxl i
   obtain ⟨q, hq⟩ : ∃ q, q = m / 2 ^ s := ⟨_, rfl⟩
   obtain ⟨p, hp⟩ : ∃ p, p = m1 % 2 ^ s * 2 ^ (64 - s) := ⟨_, rfl⟩
   obtain ⟨r, hr⟩ : ∃ r, r = q + p := ⟨_, rfl⟩
   have hsh : m1 * 2 ^ (64 - s) % dm = p := by
    rw [Xg om, hp, show 64 - (64 - s) = s by omega]
   have Rq : p < dm := by rw [← hsh]; exact Nat.mod_lt _ (by rw [gu]; omega)
   have Nb : q < dm := by rw [hq]; exact Nat.lt_of_le_of_lt (Nat.div_le_self _ _) Kz
   have hqT : q < 2 ^ (64 - s) := by
    rw [hq, Nat.div_lt_iff_lt_mul (Nat.pow_pos om), Nat.mul_comm, Mg s om]; exact Kz
   have e0 : (m : Int) / 2 ^ s = (q : Int) := by rw [hq]; simp
   have e1 : IntKind.u64.wrap ((m1 : Int) * 2 ^ (64 - s)) = (p : Int) := by
    rw [← hsh, IntKind.wrap_u64, gu]; simp
   have e1' : IntKind.u64.wrap ((m1 : Int) * 2 ^ min (64 - s) 64) = (p : Int) := by rw [Nat.min_eq_left om]; exact e1
   have e2 : Go.bits .or .u64 (q : Int) (p : Int) = (r : Int) := by
    rw [bits_or_u64_nat q p Nb Rq, hr, hp, Nr hqT]
   have hfin : ∀ W, W = wr.drew.setCell ⟨w.heap.size, i, none⟩ (.int .u64 (r : Int)) → Hid (Wd.Fe dm (2 ^ s) xl (zr.set i r) (i + 1)) ∧ ZB .u64 W w.heap.size 116 (zr.set i r) ∧ Below w.heap.size w W := by
    rintro W rfl
    refine ⟨?_, (oo.drew).Ei _ _, hg.drew.setCell (by simp) _⟩
    rw [hr, hp, hq, hm, hm1]
    exact HI.out.step (Mg s om) (Nat.pow_pos om) hlt (by rw [← Wd.ry, ← hm]; exact Kz)
   have HF := hide hfin
   have hlim : ∀ W, Ws .u64 W w.heap.size (some ⟨bx, ox, none⟩) xl → Calls Tryz.prog 171 #[.slice (some ⟨bx, ox, none⟩) xl.length cx, .int .i64 ((i : Int) + 1)] W fun e w' => e = .returned (.int .u64 ((m1 : Nat) : Int)) ∧ w' = W := fun W h => by
    rw [hm1]; exact Lh _ cx xl w.heap.size (i + 1) W h hx1 hx2 om
   have bve := hide hlim
   have hwi : IntKind.i64.wrap ((i : Int) + 1) = (i : Int) + 1 := IntWalk.i64_in _ om
   clear hfin hp hr hq hm hm1 hqT hsh oo hg hlim
   go_wp2_with fail
   go_region_with (go_at_call 171; refine ((aa bve) _ (by exact hxr)).mono ?_; rintro e w' ⟨rfl, rfl⟩)
   all_goals
    go_wp2
    go_roundw
    case rel =>
     simp only [e1', e2]
     obtain ⟨r1, r2, r3⟩ := (aa HF) _ rfl
     exact ⟨i + 1, _, by omega, by go_num, r1, r2, r3⟩
    case measure => simp [intOf] <;> omega
  ·
   have e : i = xl.length := by omega
   subst e
   have hv := HI.out.done (Mg s om) (Nat.pow_pos om)
   have HV := Lib.hid hv
   clear hv
   go_wp2_with fail
   have htr := Gp (some ⟨w.heap.size, 0, none⟩) zr.length zr (wr.heap.size) wr (oo.Fx _ oo.lt) (Nat.le_refl _) om
   rw [hlen] at htr
   refine htr.mono ?_
   rintro e w' ⟨⟨k, rfl, ht, hk2⟩, rfl⟩
   go_wp2_with fail
   go_ret
   have hk3 : k = (zr.take k).length := by simp; omega
   refine ⟨some ⟨w.heap.size, 0, none⟩, xl.length, zr.take k, Gh hk3, ?_, hg⟩
   have := nz.Dt (cap := xl.length) oo HI.out.lt ht om om om
   rwa [HV.out] at this
end Go.Proofs.YtpjgoogeokbaaaaGreatDoor
