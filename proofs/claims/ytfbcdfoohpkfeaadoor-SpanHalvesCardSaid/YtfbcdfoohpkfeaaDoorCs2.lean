/- Part 2 of the texts beneath a law of layer 1: NatSub, NatDivW, Shelf, Div64, NatSh, NatDiv, NatCmp, Plain2. -/
import Derived.Test.YtfbcdfoohpkfeaaDoorCs1
import Derived.Shelf.Small.Bits
import Derived.Shelf.Small.Wraps
import Derived.Shelf.Strconv.Itoa0
import Derived.Shelf.Bits.Mul64
import Derived.Ground.Names2Prog
import Derived.Shelf.Slices.SearchI
import Derived.Test.YtfbcdfoohpkfeaaDoorProg
import Derived.Laws.Bits64b
import Derived.Deep.DeepCutAuto
import Derived.Deep.CutBlock
/- Differences of words of 64 bits. -/
namespace Go.Proofs.YtfbcdfoohpkfeaaDoor
open Go.RowKit

theorem sub64_eq {x y b d c : Nat} (hx : x < B64) (hy : y < B64) (hb : b ≤ 1) (hd : d = (x + B64 - y - b) % B64) (hc : c = if x < y + b then 1 else 0) :
    d < B64 ∧ c ≤ 1 ∧ d + y + b = x + B64 * c := by
  rw [B64_eq] at *
  split at hc <;> subst hc <;> omega

set_option maxRecDepth 100000 in
set_option maxHeartbeats 1000000 in
theorem sub_any (Ax Ay : Option Addr) (cx cy : Nat) (xl yl : List Nat) (n m : Nat) (w : World) (hx : NatV w Ax cx xl n) (hy : NatV w Ay cy yl m) (hle : m ≤ n) (hk : xl.length ≤ 35184372088832) :
    Calls Tryd.prog 99 #[.slice Ax xl.length cx, .slice Ay yl.length cy] w fun e w' => NatR w (n - m) e w' := by
  have hmk := make64 xl.length hk
  have hyx : yl.length ≤ xl.length := by
    apply Classical.byContradiction
    intro h
    have := Wd.val_lt_of_length B64_pos xl yl hx.lt hy.norm (by omega)
    rw [hx.val, hy.val] at this
    omega
  go_enter Tryd.func99, Tryd.ntmps99
  go_wp2
  go_loopw [6, 13] (fun bv iv wr => ∃ (i c : Nat) (zc : List Nat), i ≤ xl.length ∧ bv = .int .u64 ((c : Nat) : Int) ∧ iv = .int .i64 ((i : Nat) : Int) ∧ Wd.SubInv B64 xl yl zc i c ∧ ZB .u64 wr w.heap.size 64 zc ∧ Below w.heap.size w wr) (fun _ iv _ => xl.length - (intOf iv).toNat)
  case atStart => exact ⟨0, 0, List.replicate xl.length 0, Nat.zero_le _, rfl, rfl, Wd.SubInv.start _ _ _ (by simp) (zeros_lt (by rw [B64_eq]; omega) _), heap_alloc_new w _, (Below.refl _ _).alloc (Nat.le_refl _) _⟩
  case round =>
    obtain ⟨i, c, zc, hi, rfl, rfl, hinv, hzr, hg⟩ := hrel
    have hlen := hinv.len
    have hc1 := hinv.b1
    have HI := Lib.hid hinv
    clear hinv
    by_cases hlt : i < xl.length
    · obtain ⟨bx, ox, rfl, hbx, hcx⟩ := hx.ws (by omega)
      have hxc := (hg.cell (p := ⟨bx, ox + i, none⟩) hbx).trans (hcx i hlt)
      clear hcx
      have hzc := hzr.cell i (by omega)
      have hzf := hzr.frozen i
      have hyr : NatV wr Ay cy yl m := hy.below hg
      have hcx2 := hx.cap2
      have hcx1 := hx.cap1
      obtain ⟨xi, hxi⟩ : ∃ xi, xi = Wd.g xl i := ⟨_, rfl⟩
      obtain ⟨yi, hyi⟩ : ∃ yi, yi = Wd.g yl i := ⟨_, rfl⟩
      obtain ⟨d, hd⟩ : ∃ d, d = (xi + B64 - yi - c) % B64 := ⟨_, rfl⟩
      obtain ⟨q, hq⟩ : ∃ q, q = if xi < yi + c then 1 else 0 := ⟨_, rfl⟩
      have hsub := sub64 xi yi c hc1
      rw [← hxi] at hxc
      rw [← hd, ← hq] at hsub
      have hfin : ∀ W, W = wr.drew.setCell ⟨w.heap.size, i, none⟩ (.int .u64 (d : Int)) → Wd.SubInv B64 xl yl (zc.set i d) (i + 1) q ∧ ZB .u64 W w.heap.size 64 (zc.set i d) ∧ Below w.heap.size w W := by
        rintro W rfl
        obtain ⟨e1, e2, e3⟩ := sub64_eq (by rw [hxi]; exact Wd.getD_lt (by rw [B64_eq]; omega) _ hx.lt i) (by rw [hyi]; exact Wd.getD_lt (by rw [B64_eq]; omega) _ hy.lt i) hc1 hd hq
        rw [hxi, hyi] at e3
        exact ⟨HI.out.step hlt e1 e2 e3, (hzr.drew).set_ _ _, hg.drew.setCell (by simp) _⟩
      have HF := hide hfin
      have HYI := Lib.hid hyi
      clear hfin hzr hg hd hq hxi hyi
      go_wp2_with fail
      go_region_with (go_at_call 102; refine (limb_any Ay cy yl wr.heap.size i _ (by exact hyr.ws) hyr.cap1 hyr.cap2 (by omega)).mono ?_; rintro e w' ⟨rfl, rfl⟩; rw [← HYI.out])
      all_goals
        go_wp2
        go_roundw
        case rel =>
          obtain ⟨r1, r2, r3⟩ := (unhide HF) _ rfl
          exact ⟨i + 1, q, zc.set i d, by omega, rfl, by go_num, r1, r2, r3⟩
        case measure => simp [intOf]; omega
    · have e : i = xl.length := by omega
      subst e
      have hlt2 := HI.out.lt
      have hv := HI.out.done_le hyx (by rw [hx.val, hy.val]; exact hle)
      rw [hx.val, hy.val] at hv
      have HV := Lib.hid hv
      have HLT := hide hlt2
      clear hv hlt2
      have hcx2 := hx.cap2
      have hcx1 := hx.cap1
      go_wp2_with fail
      have htr := trim_any (some ⟨w.heap.size, 0, none⟩) zc.length zc (wr.heap.size) wr (hzr.ws0 _ hzr.lt) (Nat.le_refl _) (by omega)
      rw [hlen] at htr
      refine htr.mono ?_
      rintro e w' ⟨⟨k, rfl, ht, hk2⟩, rfl⟩
      go_wp2_with fail
      go_ret
      have hk3 : k = (zc.take k).length := by simp; omega
      refine ⟨some ⟨w.heap.size, 0, none⟩, xl.length, zc.take k, ret_slice hk3, ?_, hg⟩
      have := NatV.of_trim (cap := xl.length) hzr (unhide HLT) ht (by omega) (by omega) (by omega)
      rwa [HV.out] at this
end Go.Proofs.YtfbcdfoohpkfeaaDoor
/- A multiple taken away, word by word. -/
namespace Go.Proofs.YtfbcdfoohpkfeaaDoor
open Go.RowKit

theorem sub64_0 (x y : Nat) (w : World) : (callFunc 117 #[.int .u64 (x : Int), .int .u64 (y : Int), .int .u64 0]).run Tryd.prog w =
    .ok (.value (.tuple #[.int .u64 (((x + B64 - y - 0) % B64 : Nat) : Int), .int .u64 ((if x < y + 0 then 1 else 0 : Nat) : Int)])) w := sub64 x y 0 (by omega) w

theorem submul_eq {p c z hi lo s1 q1 h1 d b r : Nat} (hp : p + c < B64 * B64) (hz : z < B64) (hhi : hi = p / B64) (hlo : lo = p % B64) (hs1 : s1 = (lo + c) % B64) (hq1 : q1 = (lo + c) / B64) (hh1 : h1 = hi + q1)
    (hd : d = (z + B64 - s1 - 0) % B64) (hb : b = if z < s1 + 0 then 1 else 0) (hr : r = h1 + b) (hpb : p ≤ (B64 - 1) * (B64 - 1)) (hc : c < B64) :
    d < B64 ∧ hi + q1 < B64 ∧ h1 + b < B64 ∧ p + c = h1 * B64 + s1 ∧ d + s1 = z + B64 * b := by
  rw [B64_eq] at *
  split at hb <;> subst hb <;> omega

theorem prod_le {a b B : Nat} (ha : a < B) (hb : b < B) : a * b ≤ (B - 1) * (B - 1) := Nat.mul_le_mul (by omega) (by omega)

set_option maxRecDepth 100000 in
set_option maxHeartbeats 2000000 in
theorem subProduct_any (b off cap T : Nat) (us ul vl : List Nat) (Av : Option Addr) (cv : Nat) (B : Nat) (k : Nat) (w : World)
    (hz : ZB .u64 w b T us) (hoff : off + ul.length ≤ us.length) (hul : ul = (us.drop off).take ul.length) (hcz : ul.length ≤ cap) (hcz' : cap ≤ 9223372036854775807)
    (hv : Ws .u64 w B Av vl) (hB : B ≤ b) (hcv : vl.length ≤ cv) (hcv' : cv ≤ 9223372036854775807) (huv : ul.length = vl.length + 1)
    (hlu : ∀ x ∈ ul, x < B64) (hlv : ∀ x ∈ vl, x < B64) (hkB : k < B64) :
    Calls Tryd.prog 121 #[.slice (some ⟨b, off, none⟩) ul.length cap, .slice Av vl.length cv, .int .u64 ((k : Nat) : Int)] w fun e w' =>
      ∃ zr c, e = .returned (.bool (decide (c = 1))) ∧ zr.length = ul.length ∧ (∀ x ∈ zr, x < B64) ∧ Wd.val B64 zr + k * Wd.val B64 vl = Wd.val B64 ul + B64 ^ ul.length * c ∧ c ≤ 1 ∧ ZB .u64 w' b T (win us off zr) ∧ w.grownBy w' (some b) := by
  have HUL := Lib.hid hul
  have HUV := Lib.hid huv
  have huv2 : vl.length < ul.length := by omega
  clear hul huv
  go_enter Tryd.func121, Tryd.ntmps121
  go_wp2
  go_loopw [7, 16] (fun cv iv wr => ∃ (i c : Nat) (zc : List Nat), i ≤ vl.length ∧ cv = .int .u64 ((c : Nat) : Int) ∧ iv = .int .i64 ((i : Nat) : Int) ∧ Hid (Wd.SubMulInv B64 ul vl zc k i c) ∧ ZB .u64 wr b T (win us off zc) ∧ w.grownBy wr (some b)) (fun _ iv _ => vl.length - (intOf iv).toNat)
  case atStart => exact ⟨0, 0, ul, Nat.zero_le _, rfl, rfl, Wd.SubMulInv.start _ _ _ (by rw [B64_eq]; omega) hlu, by rw [HUL.out, win_self _ _ _ hoff]; exact hz, grown_refl _ _⟩
  case round =>
    obtain ⟨i, c, zc, hi, rfl, rfl, HI, hzr, hg⟩ := hrel
    have hlen := HI.out.len
    have hwl := win_length us off zc (by omega)
    have hBw := hz.lt
    by_cases hlt : i < vl.length
    · obtain ⟨bv, ov, hA, hbv, hcv2⟩ := (hv.grown hg (Nat.le_trans hB (Nat.le_of_lt hBw)) (fun g e => by injection e with e; omega)) (by omega)
      subst hA
      have hvc := hcv2 i hlt
      clear hcv2
      have hzc := hzr.cell (off + i) (by omega)
      rw [win_g us off zc (by omega) i (by omega)] at hzc
      have hzf := hzr.frozen (off + i)
      obtain ⟨vi, hvi⟩ : ∃ t, t = Wd.g vl i := ⟨_, rfl⟩
      obtain ⟨z, hz2⟩ : ∃ t, t = Wd.g zc i := ⟨_, rfl⟩
      rw [← hvi] at hvc
      rw [← hz2] at hzc
      have hvB : vi < B64 := by rw [hvi]; exact Wd.getD_lt (by rw [B64_eq]; omega) _ hlv i
      have hzB : z < B64 := by rw [hz2]; exact Wd.getD_lt (by rw [B64_eq]; omega) _ HI.out.lt _
      obtain ⟨hi', hhi⟩ : ∃ t, t = k * vi / B64 := ⟨_, rfl⟩
      obtain ⟨lo, hlo⟩ : ∃ t, t = k * vi % B64 := ⟨_, rfl⟩
      obtain ⟨s1, hs1⟩ : ∃ t, t = (lo + c) % B64 := ⟨_, rfl⟩
      obtain ⟨q1, hq1⟩ : ∃ t, t = (lo + c) / B64 := ⟨_, rfl⟩
      obtain ⟨h1, hh1⟩ : ∃ t, t = hi' + q1 := ⟨_, rfl⟩
      obtain ⟨d, hd⟩ : ∃ t, t = (z + B64 - s1 - 0) % B64 := ⟨_, rfl⟩
      obtain ⟨b2, hb2⟩ : ∃ t, t = if z < s1 + 0 then 1 else 0 := ⟨_, rfl⟩
      obtain ⟨r, hr⟩ : ∃ t, t = h1 + b2 := ⟨_, rfl⟩
      have hpl := prod_le hkB hvB
      obtain ⟨e0, e1, e2, e3, e4⟩ := submul_eq (by have := Wd.mul_bound hkB hvB HI.out.c1 hzB; omega) hzB hhi hlo hs1 hq1 hh1 hd hb2 hr hpl HI.out.c1
      have ha1 := add64_0 lo c
      rw [← hs1, ← hq1] at ha1
      have ha2 := sub64_0 z s1
      rw [← hd, ← hb2] at ha2
      have hw1 := wrap_sum hh1 (by rw [hh1]; exact e1)
      have hw2 := wrap_sum hr (by rw [hr]; exact e2)
      have hmul := mul64_any k vi hkB hvB
      rw [← hhi, ← hlo] at hmul
      have HMUL := hide hmul
      have hfin : ∀ W, W = wr.setCell ⟨b, off + i, none⟩ (.int .u64 (d : Int)) → Hid (Wd.SubMulInv B64 ul vl (zc.set i d) k (i + 1) r) ∧ ZB .u64 W b T (win us off (zc.set i d)) ∧ w.grownBy W (some b) := by
        rintro W rfl
        refine ⟨?_, ?_, grown_setCell hg _ _⟩
        · rw [hr]
          refine HI.out.step (lo := s1) (by omega) e0 e2 ?_ ?_
          · rw [← Wd.g_def, ← hvi]; exact e3
          · rw [← Wd.g_def, ← hz2]; exact e4
        · rw [← win_set us off zc (by omega) i d (by omega)]
          exact hzr.set_ _ _
      have HF := hide hfin
      clear hfin hmul hhi hlo hs1 hq1 hh1 hd hb2 hr e0 e1 e2 e3 e4 hvi hz2 hvB hzB hzr hg hz hpl
      go_wp2_with fail
      refine ((unhide HMUL) _).mono ?_
      rintro e w' ⟨rfl, rfl⟩
      go_wp2_with fail
      go_roundw
      case rel =>
        obtain ⟨r1, r2, r3⟩ := (unhide HF) _ rfl
        exact ⟨i + 1, r, zc.set i d, by omega, rfl, by go_num, r1, r2, r3⟩
      case measure => simp [intOf] <;> omega
    · have e : i = vl.length := by omega
      subst e
      have hzc := hzr.cell (off + vl.length) (by omega)
      rw [win_g us off zc (by omega) vl.length (by omega)] at hzc
      have hzf := hzr.frozen (off + vl.length)
      obtain ⟨z, hz2⟩ : ∃ t, t = Wd.g zc vl.length := ⟨_, rfl⟩
      rw [← hz2] at hzc
      have hzB : z < B64 := by rw [hz2]; exact Wd.getD_lt (by rw [B64_eq]; omega) _ HI.out.lt _
      obtain ⟨d, hd⟩ : ∃ t, t = (z + B64 - c - 0) % B64 := ⟨_, rfl⟩
      obtain ⟨b2, hb2⟩ : ∃ t, t = if z < c + 0 then 1 else 0 := ⟨_, rfl⟩
      have ha2 := sub64_0 z c
      rw [← hd, ← hb2] at ha2
      obtain ⟨e0, e1, e2⟩ := sub64_eq hzB HI.out.c1 (Nat.zero_le 1) hd hb2
      have hfin : ∀ W, W = wr.setCell ⟨b, off + vl.length, none⟩ (.int .u64 (d : Int)) → (zc.set vl.length d).length = ul.length ∧ (∀ x ∈ zc.set vl.length d, x < B64) ∧ Wd.val B64 (zc.set vl.length d) + k * Wd.val B64 vl = Wd.val B64 ul + B64 ^ ul.length * b2 ∧ b2 ≤ 1 ∧ ZB .u64 W b T (win us off (zc.set vl.length d)) ∧ w.grownBy W (some b) := by
        rintro W rfl
        refine ⟨by simp [hlen], Wd.mem_set_lt _ _ _ HI.out.lt e0, HI.out.done HUV.out (by rw [← Wd.g_def, ← hz2]; omega), e1, ?_, grown_setCell hg _ _⟩
        rw [← win_set us off zc (by omega) _ d (by omega)]
        exact hzr.set_ _ _
      have HF := hide hfin
      have hne : ((b2 : Int) != 0) = decide (b2 = 1) := by
        have : b2 = 0 ∨ b2 = 1 := by omega
        rcases this with h | h <;> rw [h] <;> rfl
      clear hfin hd hb2 e0 e1 e2 hz2 hzB hzr hg hz
      have hlu2 : (ul.length : Int) - 1 = (vl.length : Int) := by have := HUV.out; omega
      go_wp2_with fail
      go_ret
      exact ⟨_, b2, rfl, (unhide HF) _ rfl⟩
end Go.Proofs.YtfbcdfoohpkfeaaDoor
/-
  DERIVED: THE SHELF's CONTRACTS AT THIS DUMP, IN PLAIN WORDS (tools/lay-plain.mjs out of 'TrydShelf.lean', which tools/lay-shelf.mjs wrote): THE SAME DECLARATIONS UNDER THE SAME NAMES: 'import', 'namespace', 'open', 'def', 'theorem' AND NOTHING ELSE: no command of the shelf's: FOR A HAND-IN. Each laying: the table of numbers ('.._ren') and one theorem, a field a fact of the dump's own or the kernel's comparison; each contract: ONE APPLICATION.
-/
namespace Go.Proofs
open Go.Shelf
def Tryd.lays134_ren : Go.Shelf.Ren := ⟨fun | 134 => 106 | 129 => 120 | n => n, fun | 53 => 64 | 3 => 3 | 4 => 4 | 46 => 101 | 5 => 5 | 9 => 9 | n => n, fun | n => n⟩
theorem Tryd.lays134 : Go.Proofs.Lays.n134 Tryd.prog Tryd.lays134_ren := {
  mixed := by kernel_rfl
  f129 := Tryd.func120.trans (congrArg some (by kernel_rfl))
  f134 := Tryd.func106.trans (congrArg some (by kernel_rfl))
  t3 := Tryd.underlying3
  a3 := Tryd.isAgg3
  z3 := Tryd.sizeOf3
  v3 := Tryd.zeroValue3
  t4 := Tryd.underlying4
  a4 := Tryd.isAgg4
  z4 := Tryd.sizeOf4
  v4 := Tryd.zeroValue4
  t5 := Tryd.underlying5
  a5 := Tryd.isAgg5
  z5 := Tryd.sizeOf5
  v5 := Tryd.zeroValue5
  t9 := Tryd.underlying9
  a9 := Tryd.isAgg9
  z9 := Tryd.sizeOf9
  v9 := Tryd.zeroValue9
  t46 := Tryd.underlying101
  a46 := Tryd.isAgg101
  z46 := Tryd.sizeOf101
  v46 := Tryd.zeroValue101
  t53 := Tryd.underlying64
  a53 := Tryd.isAgg64
  z53 := Tryd.sizeOf64
  v53 := Tryd.zeroValue64 }
theorem Tryd.bits_LeadingZeros64 (x : Int) (w : World) (h0 : 0 ≤ x) (h1 : x ≤ 18446744073709551615) :
    Calls Tryd.prog 106 #[.int .u64 x] w fun e w' => e = .returned (.int .i64 (64 - (Lib.bitLen x.toNat : Int))) ∧ w' = w := Any.bits_LeadingZeros64 Tryd.lays134 x w h0 h1
end Go.Proofs
/- math/bits.Div64: a number of two words by one. -/
namespace Go.Proofs.YtfbcdfoohpkfeaaDoor
open Go.RowKit

theorem ret_pair {k : IntKind} {a b c d : Nat} (h : a = c) (h' : b = d) : Ending.returned (.tuple #[.int k (a : Int), .int k (b : Int)]) = .returned (.tuple #[.int k (c : Int), .int k (d : Int)]) := by rw [h, h']

theorem pow_split' (s : Nat) (hs : s ≤ 64) : 2 ^ s * 2 ^ (64 - s) = B64 := by
  rw [← Nat.pow_add, show s + (64 - s) = 64 by omega]; rfl
theorem or_high {z a s : Nat} (hz : z < 2 ^ s) : (a * 2 ^ s) ||| z = a * 2 ^ s + z := by
  rw [Nat.mul_comm a, ← Nat.two_pow_add_eq_or_of_lt hz]

/-- The number, shifted, in three digits. -/
theorem shifted_eq {hi lo s : Nat} (hs : s < 64) (hlo : lo < B64) : (hi * 2 ^ s + lo / 2 ^ (64 - s)) * B64 + lo * 2 ^ s % B64 = (hi * B64 + lo) * 2 ^ s ∧ lo / 2 ^ (64 - s) < 2 ^ s := by
  have hST := pow_split' s (by omega)
  have hS : 0 < 2 ^ s := Nat.pow_pos (by omega)
  have hT : 0 < 2 ^ (64 - s) := Nat.pow_pos (by omega)
  generalize 2 ^ s = S at *
  generalize 2 ^ (64 - s) = T at *
  constructor
  · have h1 : lo * S % B64 = lo % T * S := by rw [← hST, Nat.mul_comm S, Nat.mul_mod_mul_right]
    have h2 := Nat.div_add_mod lo T
    rw [h1]
    generalize lo / T = a at *
    generalize lo % T = b at *
    rw [← h2, ← hST]
    simp only [Nat.add_mul, Nat.mul_add, Nat.mul_comm, Nat.mul_left_comm, Nat.mul_assoc]
    omega
  · rw [Nat.div_lt_iff_lt_mul hT, hST]; exact hlo

theorem rem_wrap {n p d v : Nat} (h : n + d = p + v) (hv : v < B64) : (((n % B64 + d) % B64 : Nat) : Int) - ((p % B64 : Nat) : Int) = (v : Int) ∨ (((n % B64 + d) % B64 : Nat) : Int) - ((p % B64 : Nat) : Int) = (v : Int) - 18446744073709551616 := by
  rw [B64_eq] at *; omega
theorem wrap_mod {a : Nat} {x : Int} (h : x = (a : Int)) : IntKind.u64.wrap x = ((a % B64 : Nat) : Int) := by
  rw [IntKind.wrap_u64, h, B64_eq]; omega
theorem wrap_of {v : Nat} {x : Int} (hv : v < B64) (h : x = (v : Int) ∨ x = (v : Int) - 18446744073709551616) : IntKind.u64.wrap x = (v : Int) := by
  rw [IntKind.wrap_u64]; rw [B64_eq] at hv; omega

theorem prod_le' {a b B : Nat} (ha : a < B) (hb : b < B) : a * b ≤ (B - 1) * (B - 1) := Nat.mul_le_mul (by omega) (by omega)
theorem wrap_prod {a b c : Nat} (h : c = a * b) (hc : c < B64) : IntKind.u64.wrap ((a : Int) * (b : Int)) = ((c : Nat) : Int) := by
  rw [IntKind.wrap_u64, h, ← Int.natCast_mul]; rw [B64_eq, h] at hc; omega
theorem wrap_sumd {a b c : Nat} (h : c = a + b) (hc : c < B64) : IntKind.u64.wrap ((a : Int) + (b : Int)) = ((c : Nat) : Int) := by
  rw [IntKind.wrap_u64, h]; rw [B64_eq] at hc; omega
theorem wrap_diff' {a b : Nat} (h : b ≤ a) (ha : a < B64) : IntKind.u64.wrap ((a : Int) - (b : Int)) = ((a - b : Nat) : Int) := by
  rw [IntKind.wrap_u64]; rw [B64_eq] at ha; omega

theorem bitLenAux_spec : ∀ (f x : Nat), x < 2 ^ f → x < 2 ^ Lib.bitLenAux f x ∧ (x ≠ 0 → 2 ^ (Lib.bitLenAux f x - 1) ≤ x ∧ 0 < Lib.bitLenAux f x) := by
  intro f
  induction f with
  | zero => intro x h; simp at h; subst h; exact ⟨by simp [Lib.bitLenAux], fun h => absurd rfl h⟩
  | succ f ih =>
    intro x h
    unfold Lib.bitLenAux
    by_cases h0 : x = 0
    · rw [if_pos h0]; subst h0; exact ⟨by simp, fun h => absurd rfl h⟩
    · rw [if_neg h0]
      have hx2 : x / 2 < 2 ^ f := by rw [Nat.pow_succ] at h; omega
      obtain ⟨h1, h2⟩ := ih (x / 2) hx2
      refine ⟨?_, fun _ => ⟨?_, by omega⟩⟩
      · rw [Nat.pow_add, Nat.pow_one]; omega
      · rw [Nat.add_sub_cancel_left]
        by_cases h3 : x / 2 = 0
        · have : Lib.bitLenAux f (x / 2) = 0 := by
            rw [h3]; cases f <;> simp [Lib.bitLenAux]
          rw [this]; simp; omega
        · obtain ⟨h4, h5⟩ := h2 h3
          have : Lib.bitLenAux f (x / 2) = (Lib.bitLenAux f (x / 2) - 1) + 1 := by omega
          rw [this, Nat.pow_succ]; omega

theorem lz_spec (y : Nat) (hy : y < B64) (h0 : 0 < y) (w : World) : ∃ s : Nat, s < 64 ∧ 9223372036854775808 ≤ y * 2 ^ s ∧ y * 2 ^ s < B64 ∧
    ∀ w : World, Calls Tryd.prog 106 #[.int .u64 ((y : Nat) : Int)] w fun e w' => e = .returned (.int .i64 ((s : Nat) : Int)) ∧ w' = w := by
  obtain ⟨h1, h2⟩ := bitLenAux_spec 64 y hy
  have h3 := (h2 (by omega)).1
  change y < 2 ^ Lib.bitLen y at h1
  change 2 ^ (Lib.bitLen y - 1) ≤ y at h3
  have hle := Lib.bitLen_le y 64 (by omega) (by rw [B64_eq] at hy; omega)
  have hpos : 0 < Lib.bitLen y := by
    apply Classical.byContradiction
    intro h
    rw [show Lib.bitLen y = 0 by omega] at h1
    simp at h1; omega
  have e1 : 2 ^ (Lib.bitLen y - 1) * 2 ^ (64 - Lib.bitLen y) = 9223372036854775808 := by
    rw [← Nat.pow_add, show Lib.bitLen y - 1 + (64 - Lib.bitLen y) = 63 by omega]
  have e2 : 2 ^ Lib.bitLen y * 2 ^ (64 - Lib.bitLen y) = B64 := by
    rw [← Nat.pow_add, show Lib.bitLen y + (64 - Lib.bitLen y) = 64 by omega]; rfl
  refine ⟨64 - Lib.bitLen y, by omega, ?_, ?_, fun w => ?_⟩
  · rw [← e1]; exact Nat.mul_le_mul_right _ h3
  · rw [← e2]; exact Nat.mul_lt_mul_of_pos_right h1 (Nat.pow_pos (by omega))
  · refine (Tryd.bits_LeadingZeros64 (y : Int) w (by omega) (by rw [B64_eq] at hy; omega)).mono ?_
    rintro e w' ⟨rfl, rfl⟩
    refine ⟨ret_int ?_, rfl⟩
    rw [Int.toNat_natCast]; omega

theorem and_mask (Y : Nat) (hY : Y < B64) : Go.bits .and .u64 (Y : Int) 4294967295 = ((Y % 4294967296 : Nat) : Int) := by
  have h := bits_and_u64_nat Y 4294967295 hY (by omega)
  rw [Nat.and_two_pow_sub_one_eq_mod Y 32] at h
  exact h

set_option maxRecDepth 100000 in
set_option maxHeartbeats 2000000 in
theorem div64_any (hi lo y : Nat) (hy : y < B64) (hlo : lo < B64) (hh : hi < y) (w : World) :
    Calls Tryd.prog 119 #[.int .u64 ((hi : Nat) : Int), .int .u64 ((lo : Nat) : Int), .int .u64 ((y : Nat) : Int)] w fun e w' => e = .returned (.tuple #[.int .u64 (((hi * B64 + lo) / y : Nat) : Int), .int .u64 (((hi * B64 + lo) % y : Nat) : Int)]) ∧ ∃ k, w' = w.drewN k := by
  by_cases h0 : hi = 0
  · subst h0
    have b1 : ((y : Int) == 0) = false := by simp; omega
    have b2 : ¬ ((y : Int) ≤ 0) := by omega
    go_enter Tryd.func119, Tryd.ntmps119
    go_wp2_with fail
    go_region
    go_wp2_with fail
    go_ret2
    refine ⟨?_, 1, rfl⟩
    have e1 : IntKind.u64.wrap ((lo : Int) / (y : Int)) = ((lo / y : Nat) : Int) := by
      have : lo / y ≤ lo := Nat.div_le_self _ _
      rw [B64_eq] at hlo
      rw [IntKind.wrap_u64, ← Int.natCast_ediv]; generalize lo / y = z at *; omega
    simp [e1]
  · have b1 : ((y : Int) == 0) = false := by simp; omega
    have b3 : ((hi : Int) == 0) = false := by simp; omega
    have b2 : ¬ ((y : Int) ≤ (hi : Int)) := by omega
    obtain ⟨s, hs, hY1, hY2, hlz⟩ := lz_spec y hy (by omega) w
    obtain ⟨Y, hYY⟩ : ∃ Y, Y = y * 2 ^ s := ⟨_, rfl⟩
    rw [← hYY] at hY1 hY2
    obtain ⟨y1, hy1⟩ : ∃ t, t = Y / 4294967296 := ⟨_, rfl⟩
    obtain ⟨y0, hy0⟩ : ∃ t, t = Y % 4294967296 := ⟨_, rfl⟩
    obtain ⟨p1, hp1⟩ : ∃ t, t = hi * 2 ^ s := ⟨_, rfl⟩
    obtain ⟨p2, hp2⟩ : ∃ t, t = lo / 2 ^ (64 - s) := ⟨_, rfl⟩
    obtain ⟨u, hu⟩ : ∃ t, t = p1 + p2 := ⟨_, rfl⟩
    obtain ⟨un, hun⟩ : ∃ t, t = lo * 2 ^ s % B64 := ⟨_, rfl⟩
    obtain ⟨d1, hd1⟩ : ∃ t, t = un / 4294967296 := ⟨_, rfl⟩
    obtain ⟨d0, hd0⟩ : ∃ t, t = un % 4294967296 := ⟨_, rfl⟩
    have e1 : IntKind.u64.wrap ((y : Int) * 2 ^ s) = (Y : Int) := wrap_of hY2 (.inl (by rw [hYY]; simp))
    have hsh := shifted_eq (hi := hi) hs hlo
    have hp1Y : p1 + 2 ^ s ≤ Y := by
      rw [hp1, hYY, ← Nat.succ_mul]; exact Nat.mul_le_mul_right _ hh
    have hp2s : p2 < 2 ^ s := by rw [hp2]; exact hsh.2
    have huY : u < Y := by omega
    have hunB : un < B64 := by rw [hun]; exact Nat.mod_lt _ (by rw [B64_eq]; omega)
    have hY3 : Y = y1 * B32 + y0 := by rw [hy1, hy0, B32_eq]; omega
    have e2 : (Y : Int) / 4294967296 = (y1 : Int) := by rw [hy1]; simp
    have e3 : Go.bits .and .u64 (Y : Int) 4294967295 = (y0 : Int) := by rw [and_mask Y hY2, hy0]
    have e4 : IntKind.u64.wrap ((hi : Int) * 2 ^ s) = (p1 : Int) := wrap_of (by omega) (.inl (by rw [hp1]; simp))
    have e5 : (lo : Int) / 2 ^ (64 - s) = (p2 : Int) := by rw [hp2]; simp
    have e6 : Go.bits .or .u64 (p1 : Int) (p2 : Int) = (u : Int) := by rw [bits_or_u64_nat p1 p2 (show p1 < B64 by omega) (show p2 < B64 by omega), hu]; rw [hp1, or_high hp2s]
    have e7 : IntKind.u64.wrap ((lo : Int) * 2 ^ s) = (un : Int) := by rw [hun]; exact wrap_mod (by simp)
    have e8 : (un : Int) / 4294967296 = (d1 : Int) := by rw [hd1]; simp
    have e9 : Go.bits .and .u64 (un : Int) 4294967295 = (d0 : Int) := by rw [and_mask un hunB, hd0]
    obtain ⟨q, hq⟩ : ∃ t, t = u / y1 := ⟨_, rfl⟩
    obtain ⟨t1, ht1⟩ : ∃ t, t = q * y1 := ⟨_, rfl⟩
    obtain ⟨r, hr⟩ : ∃ t, t = u - t1 := ⟨_, rfl⟩
    have hq1u : q ≤ u := by rw [hq]; exact Nat.div_le_self _ _
    have ht1u : t1 ≤ u := by rw [ht1, hq]; exact Nat.div_mul_le_self _ _
    have hy1p' : 0 < y1 := by rw [hy1]; omega
    have hr1 : r < y1 := by rw [hr, ht1, hq, Nat.mul_comm, ← Nat.mod_eq_sub_mul_div]; exact Nat.mod_lt _ hy1p'
    have e10 : IntKind.u64.wrap ((u : Int) / (y1 : Int)) = (q : Int) := wrap_of (by omega) (.inl (by rw [hq]; simp))
    have e11 : IntKind.u64.wrap ((q : Int) * (y1 : Int)) = (t1 : Int) := wrap_prod ht1 (by omega)
    have e12 : IntKind.u64.wrap ((u : Int) - (t1 : Int)) = (r : Int) := by rw [hr]; exact wrap_diff' ht1u (by omega)
    have GY1 : Hid (y1 < B32) := by show y1 < B32; rw [B64_eq] at hY2; rw [B32_eq]; omega
    have GYpos : Hid (0 < y1 * B32 + y0) := by show 0 < y1 * B32 + y0; omega
    have Gy0 : Hid (y0 < B32) := by show y0 < B32; rw [B32_eq]; omega
    have GuY : Hid (u < y1 * B32 + y0) := by show u < y1 * B32 + y0; omega
    have Gd1 : Hid (d1 < B32) := by show d1 < B32; rw [B64_eq] at hunB; rw [B32_eq]; omega
    have Gd0 : Hid (d0 < B32) := by show d0 < B32; rw [B32_eq]; omega
    have GST : Hid (Wd.DigInv B32 y1 y0 u d1 q r) := by rw [hr, ht1, hq]; exact Wd.DigInv.start hy1p' (unhide Gd1)
    have GqB : Hid (q < B64) := show q < B64 by omega
    have GrB : Hid (r < B32) := show r < B32 by have := unhide GY1; omega
    have GY3 := Lib.hid hY3
    have GSH := hide hsh
    have GuB : Hid (u < Y) := huY
    have hy1p : 1 ≤ (y1 : Int) := by rw [hy1]; omega
    have HLZ := hide hlz
    have H1 := Lib.hid hYY; have H2 := Lib.hid hy1; have H3 := Lib.hid hy0; have H4 := Lib.hid hp1; have H5 := Lib.hid hp2; have H6 := Lib.hid hu; have H7 := Lib.hid hun; have H8 := Lib.hid hd1; have H9 := Lib.hid hd0
    have H10 := Lib.hid hq; have H11 := Lib.hid ht1; have H12 := Lib.hid hr
    have G1 := hide hY1; have G2 := hide hY2
    clear hlz hYY hy1 hy0 hp1 hp2 hu hun hd1 hd0 hY1 hY2 hq ht1 hr hsh hp1Y hp2s huY hunB hY3 hq1u ht1u hr1 hy1p'
    go_enter Tryd.func119, Tryd.ntmps119
    go_wp2_with fail
    refine ((unhide HLZ) _).mono ?_
    rintro e w' ⟨rfl, rfl⟩
    go_upto_block 0 with (fail)
    go_cut [15] (fun qv wx => w' = wx ∧ qv = .int .u64 (((u * B32 + d1) / (y1 * B32 + y0) : Nat) : Int))
    case first =>
      go_wp2_with fail
      go_loop [15, 16] (fun qv rv => ∃ q r : Nat, qv = .int .u64 ((q : Nat) : Int) ∧ rv = .int .u64 ((r : Nat) : Int) ∧ Hid (q < B64) ∧ Hid (r < B32) ∧ Hid (Wd.DigInv B32 y1 y0 u d1 q r)) (fun qv _ => (intOf qv).toNat)
      case atStart => exact ⟨q, r, rfl, rfl, GqB, GrB, GST⟩
      case round =>
        obtain ⟨q2, r2, rfl, rfl, hq2, hr2, HI⟩ := hrel
        obtain ⟨q3, hq3⟩ : ∃ t, t = q2 - 1 := ⟨_, rfl⟩
        obtain ⟨r3, hr3⟩ : ∃ t, t = r2 + y1 := ⟨_, rfl⟩
        have f1 : 1 ≤ q2 → IntKind.u64.wrap ((q2 : Int) - 1) = (q3 : Int) := fun h => by
          have := hq2.out; rw [B64_eq] at this; rw [IntKind.wrap_u64]; omega
        have f2 : IntKind.u64.wrap ((r2 : Int) + (y1 : Int)) = (r3 : Int) := wrap_sumd hr3 (by have h1 := hr2.out; have h2 := unhide GY1; rw [B32_eq] at h1 h2; rw [B64_eq]; omega)
        have hstep : (B32 ≤ q2 ∨ B32 * r2 + d1 < q2 * y0) → 1 ≤ q2 ∧ Wd.DigInv B32 y1 y0 u d1 q3 r3 := fun h => by
          rw [hq3, hr3]; exact HI.out.step (unhide GYpos) (unhide GuY) (unhide Gd1) h
        have HSTEP := hide hstep
        by_cases hb : B32 ≤ q2
        · obtain ⟨hq1, hinv3⟩ := hstep (.inl hb)
          have hbd : decide ((4294967296 : Int) ≤ (q2 : Int)) = true := by rw [B32_eq] at hb; simp; omega
          have f1' := f1 hq1
          have HQ1 := hide hq1; have HINV := hide hinv3; have HQ3 := hide hq3
          by_cases hr : B32 ≤ r3
          · have hrd : decide ((4294967296 : Int) ≤ (r3 : Int)) = true := by rw [B32_eq] at hr; simp; omega
            have hfin := hinv3.stop (unhide GYpos) (unhide Gy0) (unhide GuY) hr
            have HFIN := Lib.hid hfin
            clear hb hr hq3 hr3 f1 hstep hq1 hinv3 hfin HI
            go_wp2_with fail
            go_meet
            exact ⟨rfl, HFIN.out ▸ rfl⟩
          · have hrd : decide ((4294967296 : Int) ≤ (r3 : Int)) = false := by rw [B32_eq] at hr; simp; omega
            have HR := hide (show r3 < B32 by omega)
            clear hb hr hq3 hr3 f1 hstep hq1 hinv3 HI
            go_wp2_with fail
            go_round
            case rel => exact ⟨q3, r3, rfl, rfl, by rw [HQ3.out]; exact Nat.lt_of_le_of_lt (Nat.sub_le _ _) hq2.out, HR, HINV⟩
            case measure => have h1 := HQ1.out; have h2 := HQ3.out; simp [intOf]; omega
        · have hbd : decide ((4294967296 : Int) ≤ (q2 : Int)) = false := by rw [B32_eq] at hb; simp; omega
          obtain ⟨pp, hpp⟩ : ∃ t, t = q2 * y0 := ⟨_, rfl⟩
          obtain ⟨m2, hm2⟩ : ∃ t, t = B32 * r2 := ⟨_, rfl⟩
          obtain ⟨m3, hm3⟩ : ∃ t, t = m2 + d1 := ⟨_, rfl⟩
          have g0 : pp < B64 := by
            have h1 : q2 * y0 ≤ (B32 - 1) * (B32 - 1) := prod_le' (by omega) (unhide Gy0)
            rw [hpp]; rw [B32_eq] at h1; rw [B64_eq]; omega
          have g1 : IntKind.u64.wrap ((q2 : Int) * (y0 : Int)) = (pp : Int) := wrap_prod hpp g0
          have g2 : IntKind.u64.wrap (4294967296 * (r2 : Int)) = (m2 : Int) := by
            have h1 := hr2.out
            rw [B32_eq] at h1 hm2
            rw [IntKind.wrap_u64, hm2]; omega
          have g3 : IntKind.u64.wrap ((m2 : Int) + (d1 : Int)) = (m3 : Int) := wrap_sumd hm3 (by have h1 := hr2.out; have h2 := unhide Gd1; rw [B32_eq] at h1 h2 hm2; rw [B64_eq]; omega)
          by_cases ht : m3 < pp
          · have htd : decide ((m3 : Int) < (pp : Int)) = true := by simp; omega
            have htd' : decide (m3 < pp) = true := by simp; omega
            obtain ⟨hq1, hinv3⟩ := hstep (.inr (by omega))
            have f1' := f1 hq1
            have HQ1 := hide hq1; have HINV := hide hinv3; have HQ3 := hide hq3
            by_cases hr : B32 ≤ r3
            · have hrd : decide ((4294967296 : Int) ≤ (r3 : Int)) = true := by rw [B32_eq] at hr; simp; omega
              have hfin := hinv3.stop (unhide GYpos) (unhide Gy0) (unhide GuY) hr
              have HFIN := Lib.hid hfin
              clear hb hr hq3 hr3 f1 hstep hq1 hinv3 hfin HI hpp hm2 hm3 g0 ht
              go_wp2_with fail
              go_meet
              exact ⟨rfl, HFIN.out ▸ rfl⟩
            · have hrd : decide ((4294967296 : Int) ≤ (r3 : Int)) = false := by rw [B32_eq] at hr; simp; omega
              have HR := hide (show r3 < B32 by omega)
              clear hb hr hq3 hr3 f1 hstep hq1 hinv3 HI hpp hm2 hm3 g0 ht
              go_wp2_with fail
              go_round
              case rel => exact ⟨q3, r3, rfl, rfl, by rw [HQ3.out]; exact Nat.lt_of_le_of_lt (Nat.sub_le _ _) hq2.out, HR, HINV⟩
              case measure => have h1 := HQ1.out; have h2 := HQ3.out; simp [intOf]; omega
          · have htd : decide ((m3 : Int) < (pp : Int)) = false := by simp; omega
            have htd' : decide (m3 < pp) = false := by simp; omega
            have hfin := HI.out.done (unhide GYpos) (by omega)
            have HFIN := Lib.hid hfin
            clear hb hq3 hr3 f1 hstep hfin HI hpp hm2 hm3 g0 ht
            go_wp2_with fail
            go_meet
            exact ⟨rfl, HFIN.out ▸ rfl⟩
    case rest =>
      obtain ⟨rfl, rfl⟩ := hcut
      obtain ⟨q1, hq1⟩ : ∃ t, t = (u * B32 + d1) / (y1 * B32 + y0) := ⟨_, rfl⟩
      obtain ⟨v, hv⟩ : ∃ t, t = (u * B32 + d1) % (y1 * B32 + y0) := ⟨_, rfl⟩
      rw [← hq1]
      have hdm : u * B32 + d1 = q1 * Y + v := by
        rw [hq1, hv, GY3.out, Nat.mul_comm _ (y1 * B32 + y0)]; exact (Nat.div_add_mod _ _).symm
      have hvY : v < Y := by rw [hv, GY3.out]; exact Nat.mod_lt _ (unhide GYpos)
      have hvB : v < B64 := Nat.lt_trans hvY (unhide G2)
      have hq1B : q1 < B32 := by rw [hq1]; exact Wd.dig_lt (unhide GYpos) (unhide GuY) (unhide Gd1)
      have k1 : IntKind.u64.wrap ((u : Int) * 4294967296) = ((u * B32 % B64 : Nat) : Int) := wrap_mod (by rw [B32_eq]; simp)
      have k2 : IntKind.u64.wrap (((u * B32 % B64 : Nat) : Int) + (d1 : Int)) = (((u * B32 % B64 + d1) % B64 : Nat) : Int) := wrap_mod (by simp)
      have k3 : IntKind.u64.wrap ((q1 : Int) * (Y : Int)) = ((q1 * Y % B64 : Nat) : Int) := wrap_mod (by simp)
      have k4 := wrap_of hvB (rem_wrap hdm hvB)
      obtain ⟨a1, ha1⟩ : ∃ t, t = u * B32 % B64 := ⟨_, rfl⟩
      rw [← ha1] at k1 k2 k4
      obtain ⟨a2, ha2⟩ : ∃ t, t = (a1 + d1) % B64 := ⟨_, rfl⟩
      rw [← ha2] at k2 k4
      obtain ⟨a3, ha3⟩ : ∃ t, t = q1 * Y % B64 := ⟨_, rfl⟩
      rw [← ha3] at k3 k4
      obtain ⟨q', hq'⟩ : ∃ t, t = v / y1 := ⟨_, rfl⟩
      obtain ⟨t', ht'⟩ : ∃ t, t = q' * y1 := ⟨_, rfl⟩
      obtain ⟨r', hr'⟩ : ∃ t, t = v - t' := ⟨_, rfl⟩
      have hqv : q' ≤ v := by rw [hq']; exact Nat.div_le_self _ _
      have htv : t' ≤ v := by rw [ht', hq']; exact Nat.div_mul_le_self _ _
      have hy1p' : 0 < y1 := by omega
      have hrv : r' < y1 := by rw [hr', ht', hq', Nat.mul_comm, ← Nat.mod_eq_sub_mul_div]; exact Nat.mod_lt _ hy1p'
      have k5 : IntKind.u64.wrap ((v : Int) / (y1 : Int)) = (q' : Int) := wrap_of (by omega) (.inl (by rw [hq']; simp))
      have k6 : IntKind.u64.wrap ((q' : Int) * (y1 : Int)) = (t' : Int) := wrap_prod ht' (by omega)
      have k7 : IntKind.u64.wrap ((v : Int) - (t' : Int)) = (r' : Int) := by rw [hr']; exact wrap_diff' htv hvB
      have GvY : Hid (v < y1 * B32 + y0) := by show v < y1 * B32 + y0; rw [← GY3.out]; exact hvY
      have GST' : Hid (Wd.DigInv B32 y1 y0 v d0 q' r') := by rw [hr', ht', hq']; exact Wd.DigInv.start hy1p' (unhide Gd0)
      have GqB' : Hid (q' < B64) := show q' < B64 by omega
      have GrB' : Hid (r' < B32) := show r' < B32 by have := unhide GY1; omega
      have K1 := Lib.hid hq1; have K2 := Lib.hid hv; have K3 := hide hvB; have K4 := hide hq1B
      clear hq1 hv hdm hvY hvB hq1B ha1 ha2 ha3 hq' ht' hr' hqv htv hy1p' hrv
      go_upto_block 2 with (fail)
      go_cut [18] (fun qv wx => w' = wx ∧ qv = .int .u64 (((v * B32 + d0) / (y1 * B32 + y0) : Nat) : Int))
      case first =>
        go_wp2_with fail
        go_loop [18, 16] (fun qv rv => ∃ q r : Nat, qv = .int .u64 ((q : Nat) : Int) ∧ rv = .int .u64 ((r : Nat) : Int) ∧ Hid (q < B64) ∧ Hid (r < B32) ∧ Hid (Wd.DigInv B32 y1 y0 v d0 q r)) (fun qv _ => (intOf qv).toNat)
        case atStart => exact ⟨q', r', rfl, rfl, GqB', GrB', GST'⟩
        case round =>
          obtain ⟨q2, r2, rfl, rfl, hq2, hr2, HI⟩ := hrel
          obtain ⟨q3, hq3⟩ : ∃ t, t = q2 - 1 := ⟨_, rfl⟩
          obtain ⟨r3, hr3⟩ : ∃ t, t = r2 + y1 := ⟨_, rfl⟩
          have f1 : 1 ≤ q2 → IntKind.u64.wrap ((q2 : Int) - 1) = (q3 : Int) := fun h => by
            have := hq2.out; rw [B64_eq] at this; rw [IntKind.wrap_u64]; omega
          have f2 : IntKind.u64.wrap ((r2 : Int) + (y1 : Int)) = (r3 : Int) := wrap_sumd hr3 (by have h1 := hr2.out; have h2 := unhide GY1; rw [B32_eq] at h1 h2; rw [B64_eq]; omega)
          have hstep : (B32 ≤ q2 ∨ B32 * r2 + d0 < q2 * y0) → 1 ≤ q2 ∧ Wd.DigInv B32 y1 y0 v d0 q3 r3 := fun h => by
            rw [hq3, hr3]; exact HI.out.step (unhide GYpos) (unhide GvY) (unhide Gd0) h
          have HSTEP := hide hstep
          by_cases hb : B32 ≤ q2
          · obtain ⟨hq1, hinv3⟩ := hstep (.inl hb)
            have hbd : decide ((4294967296 : Int) ≤ (q2 : Int)) = true := by rw [B32_eq] at hb; simp; omega
            have f1' := f1 hq1
            have HQ1 := hide hq1; have HINV := hide hinv3; have HQ3 := hide hq3
            by_cases hr : B32 ≤ r3
            · have hrd : decide ((4294967296 : Int) ≤ (r3 : Int)) = true := by rw [B32_eq] at hr; simp; omega
              have hfin := hinv3.stop (unhide GYpos) (unhide Gy0) (unhide GvY) hr
              have HFIN := Lib.hid hfin
              clear hb hr hq3 hr3 f1 hstep hq1 hinv3 hfin HI
              go_wp2_with fail
              go_meet
              exact ⟨rfl, HFIN.out ▸ rfl⟩
            · have hrd : decide ((4294967296 : Int) ≤ (r3 : Int)) = false := by rw [B32_eq] at hr; simp; omega
              have HR := hide (show r3 < B32 by omega)
              clear hb hr hq3 hr3 f1 hstep hq1 hinv3 HI
              go_wp2_with fail
              go_round
              case rel => exact ⟨q3, r3, rfl, rfl, by rw [HQ3.out]; exact Nat.lt_of_le_of_lt (Nat.sub_le _ _) hq2.out, HR, HINV⟩
              case measure => have h1 := HQ1.out; have h2 := HQ3.out; simp [intOf]; omega
          · have hbd : decide ((4294967296 : Int) ≤ (q2 : Int)) = false := by rw [B32_eq] at hb; simp; omega
            obtain ⟨pp, hpp⟩ : ∃ t, t = q2 * y0 := ⟨_, rfl⟩
            obtain ⟨m2, hm2⟩ : ∃ t, t = B32 * r2 := ⟨_, rfl⟩
            obtain ⟨m3, hm3⟩ : ∃ t, t = m2 + d0 := ⟨_, rfl⟩
            have g0 : pp < B64 := by
              have h1 : q2 * y0 ≤ (B32 - 1) * (B32 - 1) := prod_le' (by omega) (unhide Gy0)
              rw [hpp]; rw [B32_eq] at h1; rw [B64_eq]; omega
            have g1 : IntKind.u64.wrap ((q2 : Int) * (y0 : Int)) = (pp : Int) := wrap_prod hpp g0
            have g2 : IntKind.u64.wrap (4294967296 * (r2 : Int)) = (m2 : Int) := by
              have h1 := hr2.out
              rw [B32_eq] at h1 hm2
              rw [IntKind.wrap_u64, hm2]; omega
            have g3 : IntKind.u64.wrap ((m2 : Int) + (d0 : Int)) = (m3 : Int) := wrap_sumd hm3 (by have h1 := hr2.out; have h2 := unhide Gd0; rw [B32_eq] at h1 h2 hm2; rw [B64_eq]; omega)
            by_cases ht : m3 < pp
            · have htd : decide ((m3 : Int) < (pp : Int)) = true := by simp; omega
              have htd' : decide (m3 < pp) = true := by simp; omega
              obtain ⟨hq1, hinv3⟩ := hstep (.inr (by omega))
              have f1' := f1 hq1
              have HQ1 := hide hq1; have HINV := hide hinv3; have HQ3 := hide hq3
              by_cases hr : B32 ≤ r3
              · have hrd : decide ((4294967296 : Int) ≤ (r3 : Int)) = true := by rw [B32_eq] at hr; simp; omega
                have hfin := hinv3.stop (unhide GYpos) (unhide Gy0) (unhide GvY) hr
                have HFIN := Lib.hid hfin
                clear hb hr hq3 hr3 f1 hstep hq1 hinv3 hfin HI hpp hm2 hm3 g0 ht
                go_wp2_with fail
                go_meet
                exact ⟨rfl, HFIN.out ▸ rfl⟩
              · have hrd : decide ((4294967296 : Int) ≤ (r3 : Int)) = false := by rw [B32_eq] at hr; simp; omega
                have HR := hide (show r3 < B32 by omega)
                clear hb hr hq3 hr3 f1 hstep hq1 hinv3 HI hpp hm2 hm3 g0 ht
                go_wp2_with fail
                go_round
                case rel => exact ⟨q3, r3, rfl, rfl, by rw [HQ3.out]; exact Nat.lt_of_le_of_lt (Nat.sub_le _ _) hq2.out, HR, HINV⟩
                case measure => have h1 := HQ1.out; have h2 := HQ3.out; simp [intOf]; omega
            · have htd : decide ((m3 : Int) < (pp : Int)) = false := by simp; omega
              have htd' : decide (m3 < pp) = false := by simp; omega
              have hfin := HI.out.done (unhide GYpos) (by omega)
              have HFIN := Lib.hid hfin
              clear hb hq3 hr3 f1 hstep hfin HI hpp hm2 hm3 g0 ht
              go_wp2_with fail
              go_meet
              exact ⟨rfl, HFIN.out ▸ rfl⟩
      case rest =>
        obtain ⟨rfl, rfl⟩ := hcut
        obtain ⟨q0, hq0⟩ : ∃ t, t = (v * B32 + d0) / (y1 * B32 + y0) := ⟨_, rfl⟩
        obtain ⟨R, hR⟩ : ∃ t, t = (v * B32 + d0) % (y1 * B32 + y0) := ⟨_, rfl⟩
        rw [← hq0]
        have hdm : v * B32 + d0 = q0 * Y + R := by
          rw [hq0, hR, GY3.out, Nat.mul_comm _ (y1 * B32 + y0)]; exact (Nat.div_add_mod _ _).symm
        have hRY : R < Y := by rw [hR, GY3.out]; exact Nat.mod_lt _ (unhide GYpos)
        have hRB : R < B64 := Nat.lt_trans hRY (unhide G2)
        have hq0B : q0 < B32 := by rw [hq0]; exact Wd.dig_lt (unhide GYpos) (unhide GvY) (unhide Gd0)
        have hq1B := unhide K4
        have n1 : IntKind.u64.wrap ((q1 : Int) * 4294967296) = ((q1 * B32 : Nat) : Int) := wrap_of (by rw [B32_eq] at *; rw [B64_eq]; omega) (.inl (by rw [B32_eq]; simp))
        have n2 : IntKind.u64.wrap (((q1 * B32 : Nat) : Int) + (q0 : Int)) = ((q1 * B32 + q0 : Nat) : Int) := wrap_of (by rw [B32_eq] at *; rw [B64_eq]; omega) (.inl (by simp))
        have n3 : IntKind.u64.wrap ((v : Int) * 4294967296) = ((v * B32 % B64 : Nat) : Int) := wrap_mod (by rw [B32_eq]; simp)
        have n4 : IntKind.u64.wrap (((v * B32 % B64 : Nat) : Int) + (d0 : Int)) = (((v * B32 % B64 + d0) % B64 : Nat) : Int) := wrap_mod (by simp)
        have n5 : IntKind.u64.wrap ((q0 : Int) * (Y : Int)) = ((q0 * Y % B64 : Nat) : Int) := wrap_mod (by simp)
        have n6 := wrap_of hRB (rem_wrap hdm hRB)
        obtain ⟨b1, hb1⟩ : ∃ t, t = q1 * B32 := ⟨_, rfl⟩
        rw [← hb1] at n1 n2
        obtain ⟨Q, hQ⟩ : ∃ t, t = b1 + q0 := ⟨_, rfl⟩
        rw [← hQ] at n2
        obtain ⟨c1, hc1⟩ : ∃ t, t = v * B32 % B64 := ⟨_, rfl⟩
        rw [← hc1] at n3 n4 n6
        obtain ⟨c2, hc2⟩ : ∃ t, t = (c1 + d0) % B64 := ⟨_, rfl⟩
        rw [← hc2] at n4 n6
        obtain ⟨c3, hc3⟩ : ∃ t, t = q0 * Y % B64 := ⟨_, rfl⟩
        rw [← hc3] at n5 n6
        obtain ⟨z, hz⟩ : ∃ t, t = R / 2 ^ s := ⟨_, rfl⟩
        have n7 : (R : Int) / 2 ^ s = (z : Int) := by rw [hz]; simp
        have hfin : Q = (hi * B64 + lo) / y ∧ z = (hi * B64 + lo) % y := by
          have hY0 : 0 < Y := Nat.lt_of_lt_of_le (by omega) (unhide G1)
          have hS : 0 < 2 ^ s := Nat.pow_pos (by omega)
          have hN : u * (B32 * B32) + d1 * B32 + d0 = (hi * B64 + lo) * 2 ^ s := by
            have h1 := (unhide GSH).1
            rw [← H4.out, ← H5.out, ← H6.out, ← H7.out] at h1
            have h2 : un = d1 * B32 + d0 := by rw [H8.out, H9.out, B32_eq]; omega
            rw [← h1, h2, show B32 * B32 = B64 from rfl, Nat.add_assoc]
          have h3 := Wd.two_digits (b := B32) (Y := Y) (u := u) (d1 := d1) (d0 := d0) hY0
          have h4 := Wd.scaled_div (N := hi * B64 + lo) (Y := y) (S := 2 ^ s) hS
          rw [hN] at h3
          rw [← H1.out] at h4
          rw [GY3.out] at h3 h4
          rw [← K1.out, ← K2.out, ← hq0, ← hR] at h3
          rw [h3.1, h3.2] at h4
          exact ⟨by rw [hQ, hb1]; exact h4.1, by rw [hz]; exact h4.2⟩
        have HF := hide hfin
        clear hq0 hR hdm hRY hRB hq0B hq1B hb1 hQ hc1 hc2 hc3 hz hfin
        go_wp2_with fail
        go_ret2
        exact ⟨ret_pair (unhide HF).1 (unhide HF).2, 0, rfl⟩
end Go.Proofs.YtfbcdfoohpkfeaaDoor
/- Shifts of words of 64 bits. -/
namespace Go.Proofs.YtfbcdfoohpkfeaaDoor
open Go.RowKit

theorem pow_split (s : Nat) (hs : s ≤ 64) : 2 ^ s * 2 ^ (64 - s) = B64 := by
  rw [← Nat.pow_add, show s + (64 - s) = 64 by omega]; rfl

theorem shl_word {m s : Nat} (hs : s ≤ 64) : m * 2 ^ s % B64 = m % 2 ^ (64 - s) * 2 ^ s := by
  rw [← pow_split s hs, Nat.mul_comm (2 ^ s), Nat.mul_mod_mul_right]

theorem or_word {z a s : Nat} (hz : z < 2 ^ s) : z ||| (a * 2 ^ s) = z + a * 2 ^ s := by
  rw [Nat.or_comm, Nat.mul_comm a, ← Nat.two_pow_add_eq_or_of_lt hz, Nat.add_comm]

/-- What a shift to the left hands back: a block of its own, with noughts at its top. -/
def ShlR (w : World) (xl : List Nat) (v : Nat) (e : Ending) (w' : World) : Prop :=
  ∃ zr, e = .returned (.slice (some ⟨w.heap.size, 0, none⟩) (xl.length + 1) (xl.length + 1)) ∧ zr.length = xl.length + 1 ∧ (∀ x ∈ zr, x < B64) ∧ Wd.val B64 zr = v ∧ ZB .u64 w' w.heap.size 64 zr ∧ Below w.heap.size w w'

set_option maxRecDepth 100000 in
set_option maxHeartbeats 1000000 in
theorem left_any (Ax : Option Addr) (cx : Nat) (xl : List Nat) (n s : Nat) (w : World) (hx : NatV w Ax cx xl n) (hs : s < 64) (hk : xl.length + 1 ≤ 35184372088832) :
    Calls Tryd.prog 108 #[.slice Ax xl.length cx, .int .u64 ((s : Nat) : Int)] w fun e w' => ShlR w xl (n * 2 ^ s) e w' := by
  have hmk := make64 (xl.length + 1) hk
  simp only [Int.natCast_add, Int.cast_ofNat_Int] at hmk
  have hx1 := hx.cap1; have hx2 := hx.cap2
  go_enter Tryd.func108, Tryd.ntmps108
  go_wp2
  go_loopw [14] (fun iv wr => ∃ (i : Nat) (zr : List Nat), i ≤ xl.length ∧ iv = .int .i64 ((i : Nat) : Int) ∧ Hid (Wd.ShlInv B64 (2 ^ s) xl zr i) ∧ ZB .u64 wr w.heap.size 64 zr ∧ Below w.heap.size w wr) (fun iv _ => xl.length - (intOf iv).toNat)
  case atStart => exact ⟨0, List.replicate (xl.length + 1) 0, Nat.zero_le _, rfl, Wd.ShlInv.start _ _ (Nat.pow_pos (by omega)) (by rw [B64_eq]; omega) (by simp) (zeros_getD _), heap_alloc_new w _, (Below.refl _ _).alloc (Nat.le_refl _) _⟩
  case round =>
    obtain ⟨i, zr, hi, rfl, HI, hzr, hg⟩ := hrel
    have hlen := HI.out.len
    by_cases hlt : i < xl.length
    · obtain ⟨bx, ox, rfl, hbx, hcx⟩ := hx.ws (by omega)
      have hxc := (hg.cell (p := ⟨bx, ox + i, none⟩) hbx).trans (hcx i hlt)
      clear hcx
      have hzc := hzr.cell i (by omega)
      have hzf := hzr.frozen i
      have hzc1 := hzr.cell (i + 1) (by omega)
      have hzf1 := hzr.frozen (i + 1)
      obtain ⟨m, hm⟩ : ∃ m, m = Wd.g xl i := ⟨_, rfl⟩
      obtain ⟨z, hz⟩ : ∃ z, z = Wd.g zr i := ⟨_, rfl⟩
      rw [← hm] at hxc
      rw [← hz] at hzc
      have hmB : m < B64 := by rw [hm]; exact Wd.getD_lt (by rw [B64_eq]; omega) _ hx.lt i
      have hzB : z < B64 := by rw [hz]; exact Wd.getD_lt (by rw [B64_eq]; omega) _ HI.out.lt i
      have hzS : z < 2 ^ s := by rw [hz]; exact HI.out.low
      obtain ⟨p, hp⟩ : ∃ p, p = m % 2 ^ (64 - s) * 2 ^ s := ⟨_, rfl⟩
      obtain ⟨r, hr⟩ : ∃ r, r = z + p := ⟨_, rfl⟩
      obtain ⟨q, hq⟩ : ∃ q, q = m / 2 ^ (64 - s) := ⟨_, rfl⟩
      have hpB : p < B64 := by rw [hp, ← shl_word (by omega)]; exact Nat.mod_lt _ (by rw [B64_eq]; omega)
      have e1 : IntKind.u64.wrap ((m : Int) * 2 ^ s) = (p : Int) := by
        rw [hp, ← shl_word (by omega), IntKind.wrap_u64, B64_eq]; simp
      have e2 : Go.bits .or .u64 (z : Int) (p : Int) = (r : Int) := by
        rw [bits_or_u64_nat z p hzB hpB, hr, hp, or_word hzS]
      have e3 : (m : Int) / 2 ^ (64 - s) = (q : Int) := by rw [hq]; simp
      have hfin : ∀ W, W = (wr.setCell ⟨w.heap.size, i, none⟩ (.int .u64 (r : Int))).setCell ⟨w.heap.size, i + 1, none⟩ (.int .u64 (q : Int)) → Hid (Wd.ShlInv B64 (2 ^ s) xl ((zr.set i r).set (i + 1) q) (i + 1)) ∧ ZB .u64 W w.heap.size 64 ((zr.set i r).set (i + 1) q) ∧ Below w.heap.size w W := by
        rintro W rfl
        refine ⟨?_, (hzr.set_ _ _).set_ _ _, (hg.setCell (by simp) _).setCell (by simp) _⟩
        rw [hr, hp, hq, hm, hz]
        exact HI.out.step (pow_split s (by omega)) (Nat.pow_pos (by omega)) hlt (by rw [← Wd.g_def, ← hm]; exact hmB)
      have HF := hide hfin
      clear hfin hp hr hq hm hz hzS hzr hg
      go_wp2_with fail
      go_roundw
      case rel =>
        obtain ⟨r1, r2, r3⟩ := (unhide HF) _ rfl
        exact ⟨i + 1, _, by omega, by go_num, r1, r2, r3⟩
      case measure => simp [intOf] <;> omega
    · have e : i = xl.length := by omega
      subst e
      have hv := HI.out.done
      rw [hx.val] at hv
      have HV := Lib.hid hv
      clear hv
      go_wp2_with fail
      go_ret
      exact ⟨zr, rfl, hlen, HI.out.lt, HV.out, hzr, hg⟩

set_option maxRecDepth 100000 in
set_option maxHeartbeats 2000000 in
theorem right_any (Ax : Option Addr) (cx : Nat) (xl : List Nat) (s : Nat) (w : World) (hx : Ws .u64 w w.heap.size Ax xl) (hx1 : xl.length ≤ cx) (hx2 : cx ≤ 9223372036854775807) (hxl : ∀ x ∈ xl, x < B64) (hs : s < 64) (hk : xl.length ≤ 35184372088832) :
    Calls Tryd.prog 110 #[.slice Ax xl.length cx, .int .u64 ((s : Nat) : Int)] w fun e w' => NatR w (Wd.val B64 xl / 2 ^ s) e w' := by
  have hmk := make64 xl.length hk
  go_enter Tryd.func110, Tryd.ntmps110
  go_wp2
  go_loopw [12] (fun iv wr => ∃ (i : Nat) (zr : List Nat), i ≤ xl.length ∧ iv = .int .i64 ((i : Nat) : Int) ∧ Hid (Wd.ShrInv B64 (2 ^ s) xl zr i) ∧ ZB .u64 wr w.heap.size 64 zr ∧ Below w.heap.size w wr) (fun iv _ => xl.length - (intOf iv).toNat)
  case atStart => exact ⟨0, List.replicate xl.length 0, Nat.zero_le _, rfl, Wd.ShrInv.start _ _ (by simp) (zeros_lt (by rw [B64_eq]; omega) _), heap_alloc_new w _, (Below.refl _ _).alloc (Nat.le_refl _) _⟩
  case round =>
    obtain ⟨i, zr, hi, rfl, HI, hzr, hg⟩ := hrel
    have hlen := HI.out.len
    by_cases hlt : i < xl.length
    · obtain ⟨bx, ox, hA, hbx, hcx⟩ := hx (by omega)
      have hxr : Ws .u64 wr w.heap.size Ax xl := hx.below hg
      subst hA
      have hxc := (hg.cell (p := ⟨bx, ox + i, none⟩) hbx).trans (hcx i hlt)
      clear hcx
      have hzc := hzr.cell i (by omega)
      have hzf := hzr.frozen i
      obtain ⟨m, hm⟩ : ∃ m, m = Wd.g xl i := ⟨_, rfl⟩
      obtain ⟨m1, hm1⟩ : ∃ m1, m1 = Wd.g xl (i + 1) := ⟨_, rfl⟩
      rw [← hm] at hxc
      have hmB : m < B64 := by rw [hm]; exact Wd.getD_lt (by rw [B64_eq]; omega) _ hxl i
      obtain ⟨q, hq⟩ : ∃ q, q = m / 2 ^ s := ⟨_, rfl⟩
      obtain ⟨p, hp⟩ : ∃ p, p = m1 % 2 ^ s * 2 ^ (64 - s) := ⟨_, rfl⟩
      obtain ⟨r, hr⟩ : ∃ r, r = q + p := ⟨_, rfl⟩
      have hsh : m1 * 2 ^ (64 - s) % B64 = p := by
        rw [shl_word (by omega), hp, show 64 - (64 - s) = s by omega]
      have hpB : p < B64 := by rw [← hsh]; exact Nat.mod_lt _ (by rw [B64_eq]; omega)
      have hqB : q < B64 := by rw [hq]; exact Nat.lt_of_le_of_lt (Nat.div_le_self _ _) hmB
      have hqT : q < 2 ^ (64 - s) := by
        rw [hq, Nat.div_lt_iff_lt_mul (Nat.pow_pos (by omega)), Nat.mul_comm, pow_split s (by omega)]; exact hmB
      have e0 : (m : Int) / 2 ^ s = (q : Int) := by rw [hq]; simp
      have e1 : IntKind.u64.wrap ((m1 : Int) * 2 ^ (64 - s)) = (p : Int) := by
        rw [← hsh, IntKind.wrap_u64, B64_eq]; simp
      have e1' : IntKind.u64.wrap ((m1 : Int) * 2 ^ min (64 - s) 64) = (p : Int) := by rw [Nat.min_eq_left (by omega)]; exact e1
      have e2 : Go.bits .or .u64 (q : Int) (p : Int) = (r : Int) := by
        rw [bits_or_u64_nat q p hqB hpB, hr, hp, or_word hqT]
      have hfin : ∀ W, W = wr.drew.setCell ⟨w.heap.size, i, none⟩ (.int .u64 (r : Int)) → Hid (Wd.ShrInv B64 (2 ^ s) xl (zr.set i r) (i + 1)) ∧ ZB .u64 W w.heap.size 64 (zr.set i r) ∧ Below w.heap.size w W := by
        rintro W rfl
        refine ⟨?_, (hzr.drew).set_ _ _, hg.drew.setCell (by simp) _⟩
        rw [hr, hp, hq, hm, hm1]
        exact HI.out.step (pow_split s (by omega)) (Nat.pow_pos (by omega)) hlt (by rw [← Wd.g_def, ← hm]; exact hmB)
      have HF := hide hfin
      have hlim : ∀ W, Ws .u64 W w.heap.size (some ⟨bx, ox, none⟩) xl → Calls Tryd.prog 102 #[.slice (some ⟨bx, ox, none⟩) xl.length cx, .int .i64 ((i : Int) + 1)] W fun e w' => e = .returned (.int .u64 ((m1 : Nat) : Int)) ∧ w' = W := fun W h => by
        rw [hm1]; exact limb_any _ cx xl w.heap.size (i + 1) W h hx1 hx2 (by omega)
      have HLIM := hide hlim
      have hwi : IntKind.i64.wrap ((i : Int) + 1) = (i : Int) + 1 := IntWalk.i64_in _ (by omega)
      clear hfin hp hr hq hm hm1 hqT hsh hzr hg hlim
      go_wp2_with fail
      go_region_with (go_at_call 102; refine ((unhide HLIM) _ (by exact hxr)).mono ?_; rintro e w' ⟨rfl, rfl⟩)
      all_goals
        go_wp2
        go_roundw
        case rel =>
          simp only [e1', e2]
          obtain ⟨r1, r2, r3⟩ := (unhide HF) _ rfl
          exact ⟨i + 1, _, by omega, by go_num, r1, r2, r3⟩
        case measure => simp [intOf] <;> omega
    · have e : i = xl.length := by omega
      subst e
      have hv := HI.out.done (pow_split s (by omega)) (Nat.pow_pos (by omega))
      have HV := Lib.hid hv
      clear hv
      go_wp2_with fail
      have htr := trim_any (some ⟨w.heap.size, 0, none⟩) zr.length zr (wr.heap.size) wr (hzr.ws0 _ hzr.lt) (Nat.le_refl _) (by omega)
      rw [hlen] at htr
      refine htr.mono ?_
      rintro e w' ⟨⟨k, rfl, ht, hk2⟩, rfl⟩
      go_wp2_with fail
      go_ret
      have hk3 : k = (zr.take k).length := by simp; omega
      refine ⟨some ⟨w.heap.size, 0, none⟩, xl.length, zr.take k, ret_slice hk3, ?_, hg⟩
      have := NatV.of_trim (cap := xl.length) hzr HI.out.lt ht (by omega) (by omega) (by omega)
      rwa [HV.out] at this
end Go.Proofs.YtfbcdfoohpkfeaaDoor
/- One word of a long quotient. -/
namespace Go.Proofs.YtfbcdfoohpkfeaaDoor
open Go.RowKit

theorem top2 {B : Nat} (hB : 0 < B) (l : List Nat) (n : Nat) (hn : 1 ≤ n) (hl : l.length = n + 1) (hlt : ∀ x ∈ l, x < B) : Wd.val B l < (l.getD n 0 * B + l.getD (n - 1) 0 + 1) * B ^ (n - 1) := by
  have h1 := Wd.val_take_succ B l n (by omega)
  rw [Wd.val_take_all _ _ _ (by omega)] at h1
  have h2 := Wd.val_take_succ B l (n - 1) (by omega)
  rw [show n - 1 + 1 = n by omega] at h2
  have h3 := Wd.val_lt (B := B) (l.take (n - 1)) (fun x hx => hlt x (List.mem_of_mem_take hx))
  rw [List.length_take, Nat.min_eq_left (by omega)] at h3
  have e : B ^ n = B ^ (n - 1) * B := by rw [← Nat.pow_succ, show (n - 1).succ = n by omega]
  rw [h1, h2, e]
  generalize B ^ (n - 1) = P at *
  rw [Nat.add_mul, Nat.add_mul, Nat.one_mul, Nat.mul_comm (l.getD (n - 1) 0) P, show l.getD n 0 * B * P = P * B * l.getD n 0 by simp only [Nat.mul_comm, Nat.mul_left_comm, Nat.mul_assoc]]
  omega

theorem top1 {B : Nat} (l : List Nat) (n : Nat) (hn : 1 ≤ n) (hl : l.length = n) : l.getD (n - 1) 0 * B ^ (n - 1) ≤ Wd.val B l := by
  have h2 := Wd.val_take_succ B l (n - 1) (by omega)
  rw [show n - 1 + 1 = n by omega, Wd.val_take_all _ _ _ (by omega)] at h2
  rw [h2, Nat.mul_comm]; omega

theorem drop_take_win (us : List Nat) (off : Nat) (zc : List Nat) (h : off + zc.length ≤ us.length) : zc = ((win us off zc).drop off).take zc.length := by
  have h1 : (us.take off).length = off := by simp; omega
  simp only [win, List.append_assoc]
  rw [List.drop_append_of_le_length (by omega), List.drop_of_length_le (by omega), List.nil_append, List.take_append_of_le_length (Nat.le_refl _), List.take_of_length_le (Nat.le_refl _)]

/-- What a step of a long quotient leaves. -/
structure StepOk (ul vl zr : List Nat) (q : Nat) : Prop where
  len : zr.length = ul.length
  lt : ∀ x ∈ zr, x < B64
  quo : q = Wd.val B64 ul / Wd.val B64 vl
  rem : Wd.val B64 zr = Wd.val B64 ul % Wd.val B64 vl

set_option maxRecDepth 100000 in
set_option maxHeartbeats 600000 in
theorem divStep_any (b off cap T n : Nat) (us ul vl : List Nat) (Av : Option Addr) (cv : Nat) (B : Nat) (w : World)
    (hz : ZB .u64 w b T us) (hoff : off + ul.length ≤ us.length) (hul : ul = (us.drop off).take ul.length) (hcz : ul.length ≤ cap) (hcz' : cap ≤ 9223372036854775807)
    (hv : Ws .u64 w B Av vl) (hB : B ≤ b) (hcv : vl.length ≤ cv) (hcv' : cv ≤ 9223372036854775807) (hn : 1 ≤ n) (hvn : vl.length = n) (huv : ul.length = n + 1)
    (hlu : ∀ x ∈ ul, x < B64) (hlv : ∀ x ∈ vl, x < B64) (hpre : Wd.val B64 ul < B64 * Wd.val B64 vl) :
    Calls Tryd.prog 109 #[.slice (some ⟨b, off, none⟩) (n + 1) cap, .slice Av n cv] w fun e w' =>
      ∃ zr q, e = .returned (.int .u64 ((q : Nat) : Int)) ∧ StepOk ul vl zr q ∧ q < B64 ∧ ZB .u64 w' b T (win us off zr) ∧ w.grownBy w' (some b) := by
  have hB0 : 0 < B64 := by rw [B64_eq]; omega
  have hV0 : 0 < Wd.val B64 vl := by
    rcases Nat.eq_zero_or_pos (Wd.val B64 vl) with h | h
    · rw [h] at hpre; omega
    · exact h
  obtain ⟨bv, ov, hA, hbv, hcvv⟩ := hv (by omega)
  subst hA
  have hv0 := hv
  have hvt := hcvv (n - 1) (by omega)
  clear hcvv
  have hu0 := hz.cell (off + n) (by omega)
  have hu1 := hz.cell (off + (n - 1)) (by omega)
  have hgw : ∀ i, i < ul.length → Wd.g us (off + i) = Wd.g ul i := fun i hi => by
    have h := win_g us off ul hoff i hi
    rwa [show win us off ul = us by rw [hul]; exact win_self us off _ hoff] at h
  rw [hgw n (by omega)] at hu0
  rw [hgw (n - 1) (by omega)] at hu1
  obtain ⟨un, hun⟩ : ∃ t, t = Wd.g ul n := ⟨_, rfl⟩
  obtain ⟨um, hum⟩ : ∃ t, t = Wd.g ul (n - 1) := ⟨_, rfl⟩
  obtain ⟨vt, hvtt⟩ : ∃ t, t = Wd.g vl (n - 1) := ⟨_, rfl⟩
  rw [← hun] at hu0
  rw [← hum] at hu1
  rw [← hvtt] at hvt
  have hunB : un < B64 := by rw [hun]; exact Wd.getD_lt hB0 _ hlu _
  have humB : um < B64 := by rw [hum]; exact Wd.getD_lt hB0 _ hlu _
  have hvtB : vt < B64 := by rw [hvtt]; exact Wd.getD_lt hB0 _ hlv _
  obtain ⟨Q, hQ⟩ : ∃ t, t = Wd.val B64 ul / Wd.val B64 vl := ⟨_, rfl⟩
  have hQB : Q < B64 := by rw [hQ, Nat.div_lt_iff_lt_mul hV0]; exact hpre
  have hQt : Q * vt ≤ un * B64 + um := by
    refine Wd.guess_ge (V := Wd.val B64 vl) (U := Wd.val B64 ul) (B := B64) (k := n - 1) ?_ ?_ ?_
    · rw [hvtt]; exact top1 vl n hn hvn
    · rw [hun, hum]; exact top2 hB0 ul n hn huv hlu
    · rw [hQ]; exact Nat.div_mul_le_self _ _
  have e1 : IntKind.i64.wrap ((n : Int) - 1) = (n : Int) - 1 := IntWalk.i64_in _ (by omega)
  have e2 : (0 : Int) ≤ (n : Int) - 1 := by omega
  have e3 : ((n : Int) - 1).toNat = n - 1 := by omega
  have hvW : Ws .u64 w B (some ⟨bv, ov, none⟩) vl := hv0
  obtain ⟨g, hg⟩ : ∃ t, t = if un < vt then (un * B64 + um) / vt else 18446744073709551615 := ⟨_, rfl⟩
  have hvt0 : un < vt → 0 < vt := fun h => by omega
  have hgB : g < B64 := by
    rw [hg]; split
    · rename_i h; exact Wd.dig_lt (hvt0 h) h humB
    · rw [B64_eq]; omega
  have hgQ : Q ≤ g := by
    rw [hg]; split
    · rename_i h; rw [Nat.le_div_iff_mul_le (hvt0 h)]; exact hQt
    · rw [B64_eq] at hQB; omega
  have hsub : ∀ W, ZB .u64 W b T us → Ws .u64 W B (some ⟨bv, ov, none⟩) vl → Calls Tryd.prog 121 #[.slice (some ⟨b, off, none⟩) (n + 1) cap, .slice (some ⟨bv, ov, none⟩) n cv, .int .u64 ((g : Nat) : Int)] W fun e w' =>
      ∃ zr c, e = .returned (.bool (decide (c = 1))) ∧ zr.length = ul.length ∧ (∀ x ∈ zr, x < B64) ∧ Wd.val B64 zr + g * Wd.val B64 vl = Wd.val B64 ul + B64 ^ ul.length * c ∧ c ≤ 1 ∧ ZB .u64 w' b T (win us off zr) ∧ W.grownBy w' (some b) := fun W h1 h2 => by
    have := subProduct_any b off cap T us ul vl (some ⟨bv, ov, none⟩) cv B g W h1 hoff hul hcz hcz' h2 hB hcv hcv' (by omega) hlu hlv hgB
    rw [huv, hvn] at this
    rw [huv]
    exact this
  have hadd : ∀ W zc, zc.length = n + 1 → (∀ x ∈ zc, x < B64) → ZB .u64 W b T (win us off zc) → Ws .u64 W B (some ⟨bv, ov, none⟩) vl → Calls Tryd.prog 116 #[.slice (some ⟨b, off, none⟩) (n + 1) cap, .slice (some ⟨bv, ov, none⟩) n cv] W fun e w' =>
      ∃ zr c, e = .returned (.int .u64 ((c : Nat) : Int)) ∧ Added B64 zc vl zr c ∧ ZB .u64 w' b T (win us off zr) ∧ W.grownBy w' (some b) := fun W zc hl h0 h1 h2 => by
    have := addInto_any b off cap T (win us off zc) zc vl (some ⟨bv, ov, none⟩) cv B W h1 (by rw [win_length _ _ _ (by omega)]; omega) (drop_take_win _ _ _ (by omega)) (by omega) hcz' h2 hB hcv hcv' (by omega) h0 hlv
    rw [hl, hvn] at this
    refine this.mono ?_
    rintro e w' ⟨zr, c, h3, h4, h5, h6⟩
    refine ⟨zr, c, h3, h4, ?_, h6⟩
    rwa [win_win _ _ _ _ (by omega) h4.len] at h5
  have hdone : ∀ g' zr, zr.length = ul.length → (∀ x ∈ zr, x < B64) → Q ≤ g' → Wd.val B64 zr + g' * Wd.val B64 vl = Wd.val B64 ul → StepOk ul vl zr g' := fun g' zr h1 h2 h3 h4 => by
    have hle : g' ≤ Q := by rw [hQ, Nat.le_div_iff_mul_le hV0]; omega
    have : g' = Q := by omega
    subst this
    refine ⟨h1, h2, hQ, ?_⟩
    have hdm := Nat.div_add_mod (Wd.val B64 ul) (Wd.val B64 vl)
    rw [← hQ, Nat.mul_comm] at hdm
    omega
  have hpos : ∀ g' zr, zr.length = ul.length → (∀ x ∈ zr, x < B64) → Wd.val B64 zr + g' * Wd.val B64 vl = Wd.val B64 ul + B64 ^ ul.length * 1 → 1 ≤ g' := fun g' zr h1 h2 h4 => by
    have hlt := Wd.val_lt zr h2
    rw [h1] at hlt
    rcases Nat.eq_zero_or_pos g' with h | h
    · subst h; simp at h4; omega
    · exact h
  have HPOS := hide hpos
  have hstep : ∀ g' zr zr' c', zr.length = ul.length → (∀ x ∈ zr, x < B64) → Q ≤ g' → Wd.val B64 zr + g' * Wd.val B64 vl = Wd.val B64 ul + B64 ^ ul.length * 1 → Added B64 zr vl zr' c' →
      1 ≤ g' ∧ Q ≤ g' - 1 ∧ zr'.length = ul.length ∧ Wd.val B64 zr' + (g' - 1) * Wd.val B64 vl = Wd.val B64 ul + B64 ^ ul.length * (1 - c') := fun g' zr zr' c' h1 h2 h3 h4 h5 => by
    have hlt := Wd.val_lt zr h2
    rw [h1] at hlt
    have hgV : Wd.val B64 ul < g' * Wd.val B64 vl := by omega
    have hQg : Q < g' := by rw [hQ, Nat.div_lt_iff_lt_mul hV0]; exact hgV
    have he := h5.eq
    rw [h1] at he
    have hc := h5.c1
    obtain ⟨p, rfl⟩ : ∃ p, g' = p + 1 := ⟨g' - 1, by omega⟩
    rw [Nat.add_mul, Nat.one_mul] at h4
    refine ⟨by omega, by omega, h5.len.trans h1, ?_⟩
    rw [Nat.add_sub_cancel]
    rcases (show c' = 0 ∨ c' = 1 by omega) with rfl | rfl
    · simp only [Nat.mul_zero, Nat.mul_one, Nat.sub_zero, Nat.add_zero] at *; omega
    · simp only [Nat.mul_zero, Nat.mul_one, Nat.sub_self, Nat.add_zero] at *; omega
  have HSUB := hide hsub; have HADD := hide hadd; have HDONE := hide hdone; have HSTEP := hide hstep
  have HUV := Lib.hid huv; have HGB := hide hgB; have HGQ := hide hgQ
  obtain ⟨rr, hrr⟩ : ∃ t, t = (un * B64 + um) % vt := ⟨_, rfl⟩
  have hdiv : un < vt → ∀ W, Calls Tryd.prog 119 #[.int .u64 ((un : Nat) : Int), .int .u64 ((um : Nat) : Int), .int .u64 ((vt : Nat) : Int)] W fun e w' => e = .returned (.tuple #[.int .u64 ((g : Nat) : Int), .int .u64 ((rr : Nat) : Int)]) ∧ ∃ k, w' = W.drewN k := fun h W => by
    rw [hg, if_pos h, hrr]
    exact div64_any un um vt hvtB humB h W
  have HDIV := hide hdiv
  have hlen1 : n + 1 ≤ cap := by omega
  have hlen2 : n ≤ cv := by omega
  have hbw := hz.lt
  by_cases hlt : un < vt
  · have b1 : decide ((un : Int) < (vt : Int)) = true := by simp; omega
    have b2 : decide (un < vt) = true := by simp; omega
    have HLT := hide hlt
    clear hul hvn huv hun hum hvtt hQ hQB hQt hunB humB hvtB hpre hgw hV0 hB0 hlu hlv hg hvt0 hgB hgQ hsub hadd hdone hstep hdiv hrr hpos hlt hoff hcz hcv
    go_enter Tryd.func109, Tryd.ntmps109
    go_wp2_with fail
    go_quiet (fail)
    go_wp2_with fail
    go_quiet ((go_at_call 119; exact quiet_add ((unhide HDIV) (unhide HLT) _)))
    go_wp2_with fail
    refine ((unhide HSUB) _ (by exact hz) (by exact hvW)).mono ?_
    rintro e w1 ⟨zr, c, rfl, h1, h2, h3, h4, h5, h6⟩
    have h6' : w.grownBy w1 (some b) := ⟨h6.os, h6.tape, h6.output, h6.size, h6.block⟩
    have HZL := Lib.hid (h1.trans HUV.out)
    have H2 := hide h2
    have H3 := Lib.hid h3
    clear h1 h2 h3 h6
    go_wp2_with fail
    go_loopw [6, 7] (fun gv bv wr => ∃ (g' c' : Nat) (zc : List Nat), gv = .int .u64 ((g' : Nat) : Int) ∧ bv = .bool (decide (c' = 1)) ∧ c' ≤ 1 ∧ Hid (zc.length = n + 1) ∧ Hid (∀ x ∈ zc, x < B64) ∧ Hid (Q ≤ g') ∧ Hid (g' < B64) ∧ Hid (Wd.val B64 zc + g' * Wd.val B64 vl = Wd.val B64 ul + B64 ^ ul.length * c') ∧ ZB .u64 wr b T (win us off zc) ∧ w.grownBy wr (some b)) (fun gv _ _ => (intOf gv).toNat)
    case atStart => exact ⟨g, c, zr, rfl, rfl, h4, HZL, H2, HGQ, HGB, H3, h5, h6'⟩
    case round =>
      obtain ⟨g', c', zc, rfl, rfl, hc, hl, hlt', hq', hb', heq, hzr, hgr⟩ := hrel
      have hvr : Ws .u64 wr B (some ⟨bv, ov, none⟩) vl := hvW.grown hgr (by omega) (fun g e => by injection e with e; omega)
      rcases (show c' = 0 ∨ c' = 1 by omega) with rfl | rfl
      · have hok := (unhide HDONE) g' zc (hl.out.trans HUV.out.symm) hlt'.out hq'.out (by have := heq.out; omega)
        have HOK := hide hok
        clear hok
        go_wp2_with fail
        go_ret
        exact ⟨zc, g', rfl, unhide HOK, hb'.out, hzr, hgr⟩
      · have hpos := (unhide HPOS) g' zc (hl.out.trans HUV.out.symm) hlt'.out heq.out
        have f1 : IntKind.u64.wrap ((g' : Int) - 1) = ((g' - 1 : Nat) : Int) := by
          have := hb'.out; rw [B64_eq] at this; rw [IntKind.wrap_u64]; omega
        obtain ⟨g2, hg2⟩ : ∃ t, t = g' - 1 := ⟨_, rfl⟩
        rw [← hg2] at f1
        have HG2 := Lib.hid hg2
        have HP := hide hpos
        clear hg2 hpos
        go_wp2_with fail
        refine ((unhide HADD) _ zc hl.out hlt'.out hzr hvr).mono ?_
        rintro e w2 ⟨zr', c2, rfl, hadd', hz', hg'⟩
        obtain ⟨k1, k2, k3, k4⟩ := (unhide HSTEP) g' zc zr' c2 (hl.out.trans HUV.out.symm) hlt'.out hq'.out heq.out hadd'
        have hc2 := hadd'.c1
        have K0 := hide hadd'.lt
        have K2 := hide k2; have K3 := Lib.hid (k3.trans HUV.out); have K4 := Lib.hid k4
        have hgr2 := grown_trans' hgr hg'
        clear k1 k2 k3 k4 hadd' hg'
        rcases (show c2 = 0 ∨ c2 = 1 by omega) with rfl | rfl
        · go_wp2_with fail
          go_roundw
          case rel => exact ⟨g2, 1, zr', rfl, rfl, by omega, K3, K0, by rw [HG2.out]; exact K2, by rw [HG2.out]; exact Nat.lt_of_le_of_lt (Nat.sub_le _ _) hb'.out, by rw [HG2.out]; exact K4, hz', hgr2⟩
          case measure => have h1 := HG2.out; have h2 := HP.out; simp [intOf]; omega
        · go_wp2_with fail
          go_roundw
          case rel => exact ⟨g2, 0, zr', rfl, rfl, by omega, K3, K0, by rw [HG2.out]; exact K2, by rw [HG2.out]; exact Nat.lt_of_le_of_lt (Nat.sub_le _ _) hb'.out, by rw [HG2.out]; exact K4, hz', hgr2⟩
          case measure => have h1 := HG2.out; have h2 := HP.out; simp [intOf]; omega
  · have b1 : decide ((un : Int) < (vt : Int)) = false := by simp; omega
    have b2 : decide (un < vt) = false := by simp; omega
    have HLT := hide hlt
    have hg18 : (18446744073709551615 : Int) = ((g : Nat) : Int) := by rw [hg, if_neg hlt]; rfl
    have HG18 := Lib.hid hg18
    clear hul hvn huv hun hum hvtt hQ hQB hQt hunB humB hvtB hpre hgw hV0 hB0 hlu hlv hg hvt0 hgB hgQ hsub hadd hdone hstep hdiv hrr hpos hlt hoff hcz hcv hg18
    go_enter Tryd.func109, Tryd.ntmps109
    go_wp2_with fail
    go_quiet (fail)
    go_wp2_with fail
    rw [HG18.out]
    refine ((unhide HSUB) _ (by exact hz) (by exact hvW)).mono ?_
    rintro e w1 ⟨zr, c, rfl, h1, h2, h3, h4, h5, h6⟩
    have h6' : w.grownBy w1 (some b) := ⟨h6.os, h6.tape, h6.output, h6.size, h6.block⟩
    have HZL := Lib.hid (h1.trans HUV.out)
    have H2 := hide h2
    have H3 := Lib.hid h3
    clear h1 h2 h3 h6
    go_wp2_with fail
    go_loopw [6, 7] (fun gv bv wr => ∃ (g' c' : Nat) (zc : List Nat), gv = .int .u64 ((g' : Nat) : Int) ∧ bv = .bool (decide (c' = 1)) ∧ c' ≤ 1 ∧ Hid (zc.length = n + 1) ∧ Hid (∀ x ∈ zc, x < B64) ∧ Hid (Q ≤ g') ∧ Hid (g' < B64) ∧ Hid (Wd.val B64 zc + g' * Wd.val B64 vl = Wd.val B64 ul + B64 ^ ul.length * c') ∧ ZB .u64 wr b T (win us off zc) ∧ w.grownBy wr (some b)) (fun gv _ _ => (intOf gv).toNat)
    case atStart => exact ⟨g, c, zr, rfl, rfl, h4, HZL, H2, HGQ, HGB, H3, h5, h6'⟩
    case round =>
      obtain ⟨g', c', zc, rfl, rfl, hc, hl, hlt', hq', hb', heq, hzr, hgr⟩ := hrel
      have hvr : Ws .u64 wr B (some ⟨bv, ov, none⟩) vl := hvW.grown hgr (by omega) (fun g e => by injection e with e; omega)
      rcases (show c' = 0 ∨ c' = 1 by omega) with rfl | rfl
      · have hok := (unhide HDONE) g' zc (hl.out.trans HUV.out.symm) hlt'.out hq'.out (by have := heq.out; omega)
        have HOK := hide hok
        clear hok
        go_wp2_with fail
        go_ret
        exact ⟨zc, g', rfl, unhide HOK, hb'.out, hzr, hgr⟩
      · have hpos := (unhide HPOS) g' zc (hl.out.trans HUV.out.symm) hlt'.out heq.out
        have f1 : IntKind.u64.wrap ((g' : Int) - 1) = ((g' - 1 : Nat) : Int) := by
          have := hb'.out; rw [B64_eq] at this; rw [IntKind.wrap_u64]; omega
        obtain ⟨g2, hg2⟩ : ∃ t, t = g' - 1 := ⟨_, rfl⟩
        rw [← hg2] at f1
        have HG2 := Lib.hid hg2
        have HP := hide hpos
        clear hg2 hpos
        go_wp2_with fail
        refine ((unhide HADD) _ zc hl.out hlt'.out hzr hvr).mono ?_
        rintro e w2 ⟨zr', c2, rfl, hadd', hz', hg'⟩
        obtain ⟨k1, k2, k3, k4⟩ := (unhide HSTEP) g' zc zr' c2 (hl.out.trans HUV.out.symm) hlt'.out hq'.out heq.out hadd'
        have hc2 := hadd'.c1
        have K0 := hide hadd'.lt
        have K2 := hide k2; have K3 := Lib.hid (k3.trans HUV.out); have K4 := Lib.hid k4
        have hgr2 := grown_trans' hgr hg'
        clear k1 k2 k3 k4 hadd' hg'
        rcases (show c2 = 0 ∨ c2 = 1 by omega) with rfl | rfl
        · go_wp2_with fail
          go_roundw
          case rel => exact ⟨g2, 1, zr', rfl, rfl, by omega, K3, K0, by rw [HG2.out]; exact K2, by rw [HG2.out]; exact Nat.lt_of_le_of_lt (Nat.sub_le _ _) hb'.out, by rw [HG2.out]; exact K4, hz', hgr2⟩
          case measure => have h1 := HG2.out; have h2 := HP.out; simp [intOf]; omega
        · go_wp2_with fail
          go_roundw
          case rel => exact ⟨g2, 0, zr', rfl, rfl, by omega, K3, K0, by rw [HG2.out]; exact K2, by rw [HG2.out]; exact Nat.lt_of_le_of_lt (Nat.sub_le _ _) hb'.out, by rw [HG2.out]; exact K4, hz', hgr2⟩
          case measure => have h1 := HG2.out; have h2 := HP.out; simp [intOf]; omega
end Go.Proofs.YtfbcdfoohpkfeaaDoor
/- Comparison of words of 64 bits; a word as a number. -/
namespace Go.Proofs.YtfbcdfoohpkfeaaDoor
open Go.RowKit

set_option maxHeartbeats 400000 in
theorem natOf_any (x : Nat) (hx : x < B64) (w : World) : Calls Tryd.prog 103 #[.int .u64 ((x : Nat) : Int)] w fun e w' => NatR w x e w' := by
  by_cases h : x = 0
  · subst h
    go_enter Tryd.func103, Tryd.ntmps103
    go_wp2
    go_ret
    exact ⟨none, 0, [], rfl, NatV.nil_ _ _ (by omega), Below.refl _ _⟩
  · have hb : ((x : Int) == 0) = false := by simp; omega
    go_enter Tryd.func103, Tryd.ntmps103
    go_wp2
    go_ret
    refine ⟨some ⟨w.heap.size, 0, none⟩, 1, [x], rfl, ?_, (Below.refl _ _).alloc (Nat.le_refl _) _⟩
    have hz : ZB .u64 (w.alloc (.cells #[.int .u64 (x : Int)] 64)) w.heap.size 64 [x] := heap_alloc_new w _
    exact ⟨hz.ws0 _ hz.lt, by simp, by omega, by simpa using hx, .inr (by simpa using h), by simp [Wd.val]⟩

/-- How two numbers stand to each other. -/
def ord3 (n m : Nat) : Int := if n < m then -1 else if m < n then 1 else 0

set_option maxHeartbeats 1000000 in
theorem cmp_any (Ax Ay : Option Addr) (cx cy : Nat) (xl yl : List Nat) (n m : Nat) (w : World) (hx : NatV w Ax cx xl n) (hy : NatV w Ay cy yl m) :
    Calls Tryd.prog 93 #[.slice Ax xl.length cx, .slice Ay yl.length cy] w fun e w' => e = .returned (.int .i64 (ord3 n m)) ∧ ∃ k, w' = w.drewN k := by
  have hx1 := hx.cap1; have hx2 := hx.cap2; have hy1 := hy.cap1; have hy2 := hy.cap2
  by_cases hl : xl.length = yl.length
  · have hb : (((xl.length : Nat) : Int) != ((yl.length : Nat) : Int)) = false := by simp; omega
    go_enter Tryd.func93, Tryd.ntmps93
    go_wp2
    go_loopw [5] (fun iv wr => ∃ i : Int, -1 ≤ i ∧ i < xl.length ∧ iv = .int .i64 i ∧ Hid (∀ j : Nat, i < j → j < xl.length → xl.getD j 0 = yl.getD j 0) ∧ Hid (∃ t, wr = w.drewN t)) (fun iv _ => (intOf iv + 1).toNat)
    case atStart => exact ⟨(yl.length : Int) - 1, by omega, by omega, rfl, fun j h1 h2 => by omega, ⟨0, rfl⟩⟩
    case round =>
      obtain ⟨i, hi1, hi2, rfl, hall, ht⟩ := hrel
      by_cases h0 : i < 0
      · have hv : ord3 n m = 0 := by
          have : xl = yl := Wd.list_ext_getD xl yl hl (fun j hj => hall.out j (by omega) hj)
          rw [← hx.val, ← hy.val, this]
          unfold ord3
          rw [if_neg (by omega), if_neg (by omega)]
        have HV := Lib.hid hv
        clear hv hl
        go_wp2
        go_ret
        exact ⟨ret_int HV.out.symm, ht.out⟩
      · obtain ⟨j, rfl⟩ := Int.eq_ofNat_of_zero_le (show 0 ≤ i by omega)
        have hjx : j < xl.length := by omega
        have hjy : j < yl.length := by omega
        obtain ⟨bx, ox, rfl, hbx, hcx⟩ := hx.ws (by omega)
        obtain ⟨by', oy, rfl, hby, hcy⟩ := hy.ws (by omega)
        have hsame : ∀ p, wr.cell? p = w.cell? p := fun p => by obtain ⟨t, rfl⟩ := ht.out; rfl
        have hxc := (hsame _).trans (hcx j hjx)
        have hyc := (hsame _).trans (hcy j hjy)
        clear hcx hcy hsame
        obtain ⟨xj, hxj⟩ : ∃ xj, xj = Wd.g xl j := ⟨_, rfl⟩
        obtain ⟨yj, hyj⟩ : ∃ yj, yj = Wd.g yl j := ⟨_, rfl⟩
        rw [← hxj] at hxc
        rw [← hyj] at hyc
        by_cases he : xj = yj
        · have hb : ((xj : Int) != (yj : Int)) = false := by simp; omega
          have hnext : ∀ t : Nat, ((j : Int) - 1 < t) → t < xl.length → xl.getD t 0 = yl.getD t 0 := fun t h1 h2 => by
            by_cases ht : t = j
            · subst ht; exact hxj.symm.trans (he.trans hyj)
            · exact hall.out t (by omega) h2
          have HN := hide hnext
          clear hnext hxj hyj he hl
          go_wp2_with fail
          go_region
          go_wp2_with fail
          go_roundw
          case rel => exact ⟨(j : Int) - 1, by omega, by omega, rfl, HN, by obtain ⟨t, rfl⟩ := ht.out; exact ⟨t + 1, rfl⟩⟩
          case measure => simp [intOf] <;> omega
        · have hb : ((xj : Int) != (yj : Int)) = true := by simp; omega
          have hv : ord3 n m = if xj < yj then -1 else 1 := by
            rw [← hx.val, ← hy.val]
            unfold ord3
            by_cases h : xj < yj
            · rw [if_pos h, if_pos (Wd.val_lt_of_word xl yl hx.lt hl j hjx (fun t h1 h2 => hall.out t (by omega) h2) (by show Wd.g xl j < Wd.g yl j; omega))]
            · have := Wd.val_lt_of_word yl xl hy.lt hl.symm j hjy (fun t h1 h2 => (hall.out t (by omega) (by omega)).symm) (by show Wd.g yl j < Wd.g xl j; omega)
              rw [if_neg h, if_neg (by omega), if_pos this]
          have HV := Lib.hid hv
          clear hv hxj hyj hl
          by_cases hlt : xj < yj
          · have hv2 := HV.out
            rw [if_pos hlt] at hv2
            have HV2 := Lib.hid hv2
            clear hv2
            go_wp2_with fail
            go_region
            go_wp2_with fail
            go_region_with (go_at_call 80; refine (order_any _ _).mono ?_; rintro e w' ⟨rfl, rfl⟩)
            all_goals
              go_wp2_with fail
              go_ret
              exact ⟨ret_int HV2.out.symm, by obtain ⟨t, rfl⟩ := ht.out; exact ⟨t + 2, rfl⟩⟩
          · have hv2 := HV.out
            rw [if_neg hlt] at hv2
            have HV2 := Lib.hid hv2
            clear hv2
            go_wp2_with fail
            go_region
            go_wp2_with fail
            go_region_with (go_at_call 80; refine (order_any _ _).mono ?_; rintro e w' ⟨rfl, rfl⟩)
            all_goals
              go_wp2_with fail
              go_ret
              exact ⟨ret_int HV2.out.symm, by obtain ⟨t, rfl⟩ := ht.out; exact ⟨t + 2, rfl⟩⟩
  · have hb : (((xl.length : Nat) : Int) != ((yl.length : Nat) : Int)) = true := by simp; omega
    have ho : ord3 n m = if xl.length < yl.length then -1 else 1 := by
      unfold ord3
      rw [← hx.val, ← hy.val]
      by_cases h : xl.length < yl.length
      · rw [if_pos h, if_pos (Wd.val_lt_of_length B64_pos xl yl hx.lt hy.norm h)]
      · have := Wd.val_lt_of_length B64_pos yl xl hy.lt hx.norm (by omega)
        rw [if_neg h, if_neg (by omega), if_pos this]
    have HO := Lib.hid ho
    clear ho
    go_enter Tryd.func93, Tryd.ntmps93
    go_wp2_with (go_at_call 80; refine (order_any _ _).mono ?_; rintro e w' ⟨rfl, rfl⟩)
    all_goals
      go_ret
      refine ⟨ret_int ?_, ⟨0, rfl⟩⟩
      rw [HO.out]
    · rw [if_pos (by omega)]
    · rw [if_neg (by omega)]
end Go.Proofs.YtfbcdfoohpkfeaaDoor
/- Plain mathematics of a long quotient. No program stands here. -/
namespace Go.Proofs.YtfbcdfoohpkfeaaDoor

namespace Wd
/-- A long quotient, word by word from above: behind the places from k on. -/
structure LongInv (B V : Nat) (U us q : List Nat) (k : Nat) : Prop where
  lenu : us.length = U.length
  lt : ∀ x ∈ us, x < B
  ltq : ∀ x ∈ q, x < B
  low : ∀ j, j < k → us.getD j 0 = U.getD j 0
  eq : val B (U.drop k) = val B (q.drop k) * V + val B (us.drop k)
  rest : val B (us.drop k) < V

theorem zeros_of_val_lt {B : Nat} (hB : 0 < B) (l : List Nat) (n : Nat) (h : val B l < B ^ n) (i : Nat) (hi : n ≤ i) : l.getD i 0 = 0 := by
  apply Classical.byContradiction
  intro hne
  have hlt : i < l.length := by
    apply Classical.byContradiction
    intro h2
    exact hne (by simp [List.getD, List.getElem?_eq_none (by omega : l.length ≤ i)])
  have h1 := val_split B l (i + 1)
  rw [val_take_succ' B l i] at h1
  have h2 : B ^ i * 1 ≤ B ^ i * l.getD i 0 := Nat.mul_le_mul_left _ (by omega)
  have h3 : B ^ n ≤ B ^ i := Nat.pow_le_pow_right hB hi
  omega

theorem val_take_of_high_zeros (B : Nat) (l : List Nat) (n : Nat) (h : ∀ i, n ≤ i → l.getD i 0 = 0) : val B (l.take n) = val B l := by
  by_cases hn : n ≤ l.length
  · exact val_take_of_zeros B l n hn (fun i h1 _ => h i h1)
  · rw [List.take_of_length_le (by omega)]

theorem getD_drop (l : List Nat) (k i : Nat) : (l.drop k).getD i 0 = l.getD (k + i) 0 := by
  simp [List.getD, List.getElem?_drop]

/-- The window at the place k: what stands there, and that its quotient is one word. -/
theorem LongInv.window {B V : Nat} {U us q : List Nat} {k n : Nat} (hB : 1 < B) (h : LongInv B V U us q (k + 1)) (hV : V < B ^ n) :
    val B ((us.drop k).take (n + 1)) = U.getD k 0 + B * val B (us.drop (k + 1)) ∧ val B ((us.drop k).take (n + 1)) < B * V ∧ val B ((us.drop k).take (n + 1)) = val B (us.drop k) := by
  have hz : ∀ i, n + 1 ≤ i → (us.drop k).getD i 0 = 0 := fun i hi => by
    have := zeros_of_val_lt (by omega) (us.drop (k + 1)) n (Nat.lt_trans h.rest hV) (i - 1) (by omega)
    rw [getD_drop] at this ⊢
    rwa [show k + 1 + (i - 1) = k + i by omega] at this
  have e := val_take_of_high_zeros B (us.drop k) (n + 1) hz
  have e2 := val_drop B us k
  rw [h.low k (by omega)] at e2
  refine ⟨e.trans e2, ?_, e⟩
  rw [e, e2]
  have hx : U.getD k 0 < B := by
    rw [← h.low k (by omega)]; exact getD_lt (by omega) us h.lt k
  have := h.rest
  have h2 : B * (val B (us.drop (k + 1)) + 1) ≤ B * V := Nat.mul_le_mul_left _ this
  rw [Nat.mul_add, Nat.mul_one] at h2
  omega

theorem LongInv.step {B V : Nat} {U us q us' : List Nat} {k n qk : Nat} (hB : 1 < B) (h : LongInv B V U us q (k + 1)) (hV : V < B ^ n) (hV0 : 0 < V) (hq : k < q.length)
    (hqk : qk = val B ((us.drop k).take (n + 1)) / V) (hr : val B (us'.drop k) = val B ((us.drop k).take (n + 1)) % V) (hlen : us'.length = us.length) (hlt : ∀ x ∈ us', x < B)
    (hlow : ∀ j, j < k → us'.getD j 0 = us.getD j 0) : LongInv B V U us' (q.set k qk) k := by
  obtain ⟨w1, w2, w3⟩ := h.window hB hV
  refine ⟨hlen.trans h.lenu, hlt, mem_set_lt _ _ _ h.ltq ?_, fun j hj => (hlow j hj).trans (h.low j (by omega)), ?_, ?_⟩
  · rw [hqk, Nat.div_lt_iff_lt_mul hV0]; exact w2
  · rw [val_drop, val_drop B (q.set _ _), set_drop_gt, set_getD_self _ _ _ hq, h.eq, hr]
    have hdm := Nat.div_add_mod (val B ((us.drop k).take (n + 1))) V
    rw [← hqk] at hdm
    rw [w1] at hdm ⊢
    generalize (U.getD k 0 + B * val B (us.drop (k + 1))) % V = r at *
    have e1 : B * (val B (q.drop (k + 1)) * V) = B * val B (q.drop (k + 1)) * V := by rw [Nat.mul_assoc]
    have e2 : qk * V = V * qk := Nat.mul_comm _ _
    rw [Nat.mul_add, Nat.add_mul, e1, e2]
    omega
  · rw [hr]; exact Nat.mod_lt _ hV0

theorem LongInv.done {B V : Nat} {U us q : List Nat} (h : LongInv B V U us q 0) : val B q = val B U / V ∧ val B us = val B U % V := by
  have e := h.eq
  have hr := h.rest
  simp only [List.drop_zero] at e hr
  rw [e]
  constructor
  · rw [Nat.mul_comm, Nat.mul_add_div (by omega), Nat.div_eq_of_lt hr]; omega
  · rw [Nat.mul_comm, Nat.mul_add_mod, Nat.mod_eq_of_lt hr]

theorem LongInv.start {B V : Nat} (U q : List Nat) (k : Nat) (hU : ∀ x ∈ U, x < B) (hq : ∀ x ∈ q, x < B) (hql : q.length = k) (htop : val B U < V * B ^ k) : LongInv B V U U q k := by
  refine ⟨rfl, hU, hq, fun _ _ => rfl, ?_, ?_⟩
  · rw [List.drop_of_length_le (by omega : q.length ≤ k)]; simp [val]
  · have h1 := val_split B U k
    by_cases hk : k ≤ U.length
    · rw [Nat.min_eq_left hk] at h1
      have h2 : B ^ k * val B (U.drop k) < B ^ k * V := by rw [Nat.mul_comm _ V]; omega
      exact Nat.lt_of_mul_lt_mul_left h2
    · rw [List.drop_of_length_le (by omega)]
      rcases Nat.eq_zero_or_pos V with h0 | h0
      · subst h0; simp at htop
      · exact h0
end Wd
end Go.Proofs.YtfbcdfoohpkfeaaDoor
