/- Texts beneath a law of layer 1. -/
import Derived.Test.YtfgeaakhlcaibaaGreatDoorCy1
import Derived.Shelf.Small.Bits
import Derived.Shelf.Small.Wraps
import Derived.Shelf.Strconv.Itoa0
import Derived.Shelf.Strconv.Itoa1
import Derived.Shelf.LaysM
import Derived.Shelf.Strconv.Itoa2
import Derived.Shelf.Strconv.Itoa3
import Derived.Shelf.Strings.Search1
import Derived.Shelf.Strings.Search2
import Derived.Shelf.Strings.Search3
import Derived.Shelf.Strings.Cut
import Derived.Shelf.Strings.Count
import Derived.Shelf.Strings.Shaped
import Derived.Shelf.Strings.Prefix
import Derived.Shelf.Strings.Split
import Derived.Shelf.Bits.Mul64
import Derived.Shelf.Unicode.DecodeSlow
import Derived.Ground.Names2Prog
import Derived.Shelf.Slices.SearchI
import Derived.Test.YtfgeaakhlcaibaaGreatDoorProg
set_option maxRecDepth 100000
set_option maxHeartbeats 16000000
namespace Go.Proofs.YtfgeaakhlcaibaaGreatDoor
open Go.RowKit

theorem adw {x y b d c : Nat} (hx : x < dm) (hy : y < dm) (hb : b ≤ 1) (hd : d = (x + dm - y - b) % dm) (hc : c = if x < y + b then 1 else 0) :
  d < dm ∧ c ≤ 1 ∧ d + y + b = x + dm * c := by
 rw [gp] at *
 split at hc <;> subst hc <;> omega

theorem Uy (Ax Ay : Option Addr) (cx cy : Nat) (xl yl : List Nat) (n m : Nat) (w : World) (hx : ku w Ax cx xl n) (hy : ku w Ay cy yl m) (hle : m ≤ n) (hk : xl.length ≤ 35184372088832) :
  Calls Tryz.prog 203 #[.slice Ax xl.length cx, .slice Ay yl.length cy] w fun e w' => Eb w (n - m) e w' := by
 have hmk := Kg xl.length hk
 have hyx : yl.length ≤ xl.length := by
  apply Classical.byContradiction
  intro h
  have := Wd.uw pz xl yl hx.lt hy.norm om
  rw [hx.val, hy.val] at this
  omega
 go_enter Tryz.func203, Tryz.ntmps203
 go_wp2
 go_loopw [6, 13] (fun bv iv wr => ∃ (i c : Nat) (zc : List Nat), i ≤ xl.length ∧ bv = .int .u64 ((c : Nat) : Int) ∧ iv = .int .i64 ((i : Nat) : Int) ∧ Wd.Ej dm xl yl zc i c ∧ ZB .u64 wr w.heap.size 157 zc ∧ Below w.heap.size w wr) (fun _ iv _ => xl.length - (intOf iv).toNat)
 case atStart => exact ⟨0, 0, List.replicate xl.length 0, Nat.zero_le _, rfl, rfl, Wd.Ej.start _ _ _ (by simp) (Ja (by rw [gp]; omega) _), heap_alloc_new w _, (Below.refl _ _).alloc (Nat.le_refl _) _⟩
 case round =>
  obtain ⟨i, c, zc, hi, rfl, rfl, hinv, lg, hg⟩ := hrel
  have hlen := hinv.len
  have hc1 := hinv.b1
  have HI := Lib.hid hinv
  clear hinv
  by_cases hlt : i < xl.length
  ·
   obtain ⟨bx, ox, rfl, hbx, hcx⟩ := hx.ws om
   have Eh := (hg.cell (p := ⟨bx, ox + i, none⟩) hbx).trans (hcx i hlt)
   clear hcx
   have hzc := lg.cell i om
   have Ml := lg.frozen i
   have hyr : ku wr Ay cy yl m := hy.below hg
   have bmx := hx.cap2
   have bmy := hx.ru
   obtain ⟨xi, hxi⟩ : ∃ xi, xi = Wd.g xl i := ⟨_, rfl⟩
   obtain ⟨yi, hyi⟩ : ∃ yi, yi = Wd.g yl i := ⟨_, rfl⟩
   obtain ⟨d, hd⟩ : ∃ d, d = (xi + dm - yi - c) % dm := ⟨_, rfl⟩
   obtain ⟨q, hq⟩ : ∃ q, q = if xi < yi + c then 1 else 0 := ⟨_, rfl⟩
   have hsub := awo xi yi c hc1
   rw [← hxi] at Eh
   rw [← hd, ← hq] at hsub
   have hfin : ∀ W, W = wr.drew.setCell ⟨w.heap.size, i, none⟩ (.int .u64 (d : Int)) → Wd.Ej dm xl yl (zc.set i d) (i + 1) q ∧ ZB .u64 W w.heap.size 157 (zc.set i d) ∧ Below w.heap.size w W := by
    rintro W rfl
    obtain ⟨e1, e2, e3⟩ := adw (by rw [hxi]; exact Wd.getD_lt (by rw [gp]; omega) _ hx.lt i) (by rw [hyi]; exact Wd.getD_lt (by rw [gp]; omega) _ hy.lt i) hc1 hd hq
    rw [hxi, hyi] at e3
    exact ⟨HI.out.step hlt e1 e2 e3, (lg.drew).Bp _ _, hg.drew.setCell (by simp) _⟩
   have HF := hide hfin
   have HYI := Lib.hid hyi
   clear hfin lg hg hd hq hxi hyi
   go_wp2_with fail
   go_region_with (go_at_call 214; refine (Jg Ay cy yl wr.heap.size i _ (by exact hyr.ws) hyr.ru hyr.cap2 om).mono ?_; rintro e w' ⟨rfl, rfl⟩; rw [← HYI.out])
   all_goals
    go_wp2
    go_roundw
    case rel =>
     obtain ⟨r1, r2, r3⟩ := (aa HF) _ rfl
     exact ⟨i + 1, q, zc.set i d, by omega, rfl, by go_num, r1, r2, r3⟩
    case measure => simp [intOf]; omega
  ·
   have e : i = xl.length := by omega
   subst e
   have hlt2 := HI.out.lt
   have hv := HI.out.bay hyx (by rw [hx.val, hy.val]; exact hle)
   rw [hx.val, hy.val] at hv
   have HV := Lib.hid hv
   have qb := hide hlt2
   clear hv hlt2
   have bmx := hx.cap2
   have bmy := hx.ru
   go_wp2_with fail
   have htr := Dv (some ⟨w.heap.size, 0, none⟩) zc.length zc (wr.heap.size) wr (lg.Dp _ lg.lt) (Nat.le_refl _) om
   rw [hlen] at htr
   refine htr.mono ?_
   rintro e w' ⟨⟨k, rfl, ht, hk2⟩, rfl⟩
   go_wp2_with fail
   go_ret
   have hk3 : k = (zc.take k).length := by simp; omega
   refine ⟨some ⟨w.heap.size, 0, none⟩, xl.length, zc.take k, Hw hk3, ?_, hg⟩
   have := ku.Ao (cap := xl.length) lg (aa qb) ht om om om
   rwa [HV.out] at this

theorem aja (x y : Nat) (w : World) : (callFunc 231 #[.int .u64 (x : Int), .int .u64 (y : Int), .int .u64 0]).run Tryz.prog w =
  .ok (.value (.tuple #[.int .u64 (((x + dm - y - 0) % dm : Nat) : Int), .int .u64 ((if x < y + 0 then 1 else 0 : Nat) : Int)])) w := awo x y 0 om w

theorem aof {p c z hi lo s1 q1 h1 d b r : Nat} (hp : p + c < dm * dm) (hz : z < dm) (hhi : hi = p / dm) (hlo : lo = p % dm) (hs1 : s1 = (lo + c) % dm) (hq1 : q1 = (lo + c) / dm) (Tw : h1 = hi + q1)
  (hd : d = (z + dm - s1 - 0) % dm) (hb : b = if z < s1 + 0 then 1 else 0) (hr : r = h1 + b) (hpb : p ≤ (dm - 1) * (dm - 1)) (hc : c < dm) :
  d < dm ∧ hi + q1 < dm ∧ h1 + b < dm ∧ p + c = h1 * dm + s1 ∧ d + s1 = z + dm * b := by
 rw [gp] at *
 split at hb <;> subst hb <;> omega

theorem bag {a b B : Nat} (ha : a < B) (hb : b < B) : a * b ≤ (B - 1) * (B - 1) := Nat.mul_le_mul om om

theorem aad (b off cap T : Nat) (us ul vl : List Nat) (Av : Option Addr) (cv : Nat) (B : Nat) (k : Nat) (w : World)
  (hz : ZB .u64 w b T us) (hoff : off + ul.length ≤ us.length) (Kk : ul = (us.drop off).take ul.length) (hcz : ul.length ≤ cap) (agc : cap ≤ 9223372036854775807)
  (hv : Ws .u64 w B Av vl) (hB : B ≤ b) (hcv : vl.length ≤ cv) (amo : cv ≤ 9223372036854775807) (huv : ul.length = vl.length + 1)
  (hlu : ∀ x ∈ ul, x < dm) (hlv : ∀ x ∈ vl, x < dm) (hkB : k < dm) :
  Calls Tryz.prog 247 #[.slice (some ⟨b, off, none⟩) ul.length cap, .slice Av vl.length cv, .int .u64 ((k : Nat) : Int)] w fun e w' =>
   ∃ zr c, e = .returned (.bool (decide (c = 1))) ∧ zr.length = ul.length ∧ (∀ x ∈ zr, x < dm) ∧ Wd.val dm zr + k * Wd.val dm vl = Wd.val dm ul + dm ^ ul.length * c ∧ c ≤ 1 ∧ ZB .u64 w' b T (win us off zr) ∧ w.grownBy w' (some b) := by
 have HUL := Lib.hid Kk
 have Ir := Lib.hid huv
 have btj : vl.length < ul.length := by omega
 clear Kk huv
 go_enter Tryz.func247, Tryz.ntmps247
 go_wp2
 go_loopw [7, 16] (fun cv iv wr => ∃ (i c : Nat) (zc : List Nat), i ≤ vl.length ∧ cv = .int .u64 ((c : Nat) : Int) ∧ iv = .int .i64 ((i : Nat) : Int) ∧ Hid (Wd.Bj dm ul vl zc k i c) ∧ ZB .u64 wr b T (win us off zc) ∧ w.grownBy wr (some b)) (fun _ iv _ => vl.length - (intOf iv).toNat)
 case atStart => exact ⟨0, 0, ul, Nat.zero_le _, rfl, rfl, Wd.Bj.start _ _ _ (by rw [gp]; omega) hlu, by rw [HUL.out, Jb _ _ _ hoff]; exact hz, qo _ _⟩
 case round =>
  obtain ⟨i, c, zc, hi, rfl, rfl, HI, lg, hg⟩ := hrel
  have hlen := HI.out.len
  have hwl := win_length us off zc om
  have hBw := hz.lt
  by_cases hlt : i < vl.length
  ·
   obtain ⟨bv, ov, hA, hbv, bey⟩ := (hv.grown hg (Nat.le_trans hB (Nat.le_of_lt hBw)) (fun g e => by injection e with e; omega)) om
   subst hA
   have hvc := bey i hlt
   clear bey
   have hzc := lg.cell (off + i) om
   rw [Jq us off zc om i om] at hzc
   have Ml := lg.frozen (off + i)
   obtain ⟨vi, hvi⟩ : ∃ t, t = Wd.g vl i := ⟨_, rfl⟩
   obtain ⟨z, hz2⟩ : ∃ t, t = Wd.g zc i := ⟨_, rfl⟩
   rw [← hvi] at hvc
   rw [← hz2] at hzc
   have hvB : vi < dm := by rw [hvi]; exact Wd.getD_lt (by rw [gp]; omega) _ hlv i
   have Gi : z < dm := by rw [hz2]; exact Wd.getD_lt (by rw [gp]; omega) _ HI.out.lt _
   obtain ⟨hi', hhi⟩ : ∃ t, t = k * vi / dm := ⟨_, rfl⟩
   obtain ⟨lo, hlo⟩ : ∃ t, t = k * vi % dm := ⟨_, rfl⟩
   obtain ⟨s1, hs1⟩ : ∃ t, t = (lo + c) % dm := ⟨_, rfl⟩
   obtain ⟨q1, hq1⟩ : ∃ t, t = (lo + c) / dm := ⟨_, rfl⟩
   obtain ⟨h1, Tw⟩ : ∃ t, t = hi' + q1 := ⟨_, rfl⟩
   obtain ⟨d, hd⟩ : ∃ t, t = (z + dm - s1 - 0) % dm := ⟨_, rfl⟩
   obtain ⟨b2, hb2⟩ : ∃ t, t = if z < s1 + 0 then 1 else 0 := ⟨_, rfl⟩
   obtain ⟨r, hr⟩ : ∃ t, t = h1 + b2 := ⟨_, rfl⟩
   have hpl := bag hkB hvB
   obtain ⟨e0, e1, e2, e3, e4⟩ := aof (by have := Wd.Ke hkB hvB HI.out.c1 Gi; omega) Gi hhi hlo hs1 hq1 Tw hd hb2 hr hpl HI.out.c1
   have ha1 := aat lo c
   rw [← hs1, ← hq1] at ha1
   have ha2 := aja z s1
   rw [← hd, ← hb2] at ha2
   have hw1 := Qa Tw (by rw [Tw]; exact e1)
   have hw2 := Qa hr (by rw [hr]; exact e2)
   have hmul := Tk k vi hkB hvB
   rw [← hhi, ← hlo] at hmul
   have awf := hide hmul
   have hfin : ∀ W, W = wr.setCell ⟨b, off + i, none⟩ (.int .u64 (d : Int)) → Hid (Wd.Bj dm ul vl (zc.set i d) k (i + 1) r) ∧ ZB .u64 W b T (win us off (zc.set i d)) ∧ w.grownBy W (some b) := by
    rintro W rfl
    refine ⟨?_, ?_, ll hg _ _⟩
    ·
     rw [hr]
     refine HI.out.step (lo := s1) om e0 e2 ?_ ?_
     ·
      rw [← Wd.qf, ← hvi]; exact e3
     ·
      rw [← Wd.qf, ← hz2]; exact e4
    ·
     rw [← Fz us off zc om i d om]
     exact lg.Bp _ _
   have HF := hide hfin
   clear hfin hmul hhi hlo hs1 hq1 Tw hd hb2 hr e0 e1 e2 e3 e4 hvi hz2 hvB Gi lg hg hz hpl
   go_wp2_with fail
   refine ((aa awf) _).mono ?_
   rintro e w' ⟨rfl, rfl⟩
   go_wp2_with fail
   go_roundw
   case rel =>
    obtain ⟨r1, r2, r3⟩ := (aa HF) _ rfl
    exact ⟨i + 1, r, zc.set i d, by omega, rfl, by go_num, r1, r2, r3⟩
   case measure => simp [intOf] <;> omega
  ·
   have e : i = vl.length := by omega
   subst e
   have hzc := lg.cell (off + vl.length) om
   rw [Jq us off zc om vl.length om] at hzc
   have Ml := lg.frozen (off + vl.length)
   obtain ⟨z, hz2⟩ : ∃ t, t = Wd.g zc vl.length := ⟨_, rfl⟩
   rw [← hz2] at hzc
   have Gi : z < dm := by rw [hz2]; exact Wd.getD_lt (by rw [gp]; omega) _ HI.out.lt _
   obtain ⟨d, hd⟩ : ∃ t, t = (z + dm - c - 0) % dm := ⟨_, rfl⟩
   obtain ⟨b2, hb2⟩ : ∃ t, t = if z < c + 0 then 1 else 0 := ⟨_, rfl⟩
   have ha2 := aja z c
   rw [← hd, ← hb2] at ha2
   obtain ⟨e0, e1, e2⟩ := adw Gi HI.out.c1 (Nat.zero_le 1) hd hb2
   have hfin : ∀ W, W = wr.setCell ⟨b, off + vl.length, none⟩ (.int .u64 (d : Int)) → (zc.set vl.length d).length = ul.length ∧ (∀ x ∈ zc.set vl.length d, x < dm) ∧ Wd.val dm (zc.set vl.length d) + k * Wd.val dm vl = Wd.val dm ul + dm ^ ul.length * b2 ∧ b2 ≤ 1 ∧ ZB .u64 W b T (win us off (zc.set vl.length d)) ∧ w.grownBy W (some b) := by
    rintro W rfl
    refine ⟨by simp [hlen], Wd.ym _ _ _ HI.out.lt e0, HI.out.done Ir.out (by rw [← Wd.qf, ← hz2]; omega), e1, ?_, ll hg _ _⟩
    rw [← Fz us off zc om _ d om]
    exact lg.Bp _ _
   have HF := hide hfin
   have hne : ((b2 : Int) != 0) = decide (b2 = 1) := by
    have : b2 = 0 ∨ b2 = 1 := by omega
    rcases this with h | h <;> rw [h] <;> rfl
   clear hfin hd hb2 e0 e1 e2 hz2 Gi lg hg hz
   have btk : (ul.length : Int) - 1 = (vl.length : Int) := by have := Ir.out; omega
   go_wp2_with fail
   go_ret
   exact ⟨_, b2, rfl, (aa HF) _ rfl⟩
end Go.Proofs.YtfgeaakhlcaibaaGreatDoor
namespace Go.Proofs
open Go.Shelf
def Tryz.lays133_ren : Go.Shelf.Ren := ⟨fun | 133 => 211 | 128 => 236 | n => n, fun | 51 => 187 | 3 => 3 | 4 => 4 | 46 => 192 | 5 => 5 | 9 => 9 | n => n, fun | n => n⟩
theorem Tryz.lays133 : Go.Proofs.Lays.n133 Tryz.prog Tryz.lays133_ren := {
 mixed := by kernel_rfl
 f128 := Tryz.func236.trans (congrArg some (by kernel_rfl))
 f133 := Tryz.func211.trans (congrArg some (by kernel_rfl))
 t3 := Tryz.underlying3
 a3 := Tryz.isAgg3
 z3 := Tryz.sizeOf3
 v3 := Tryz.zeroValue3
 t4 := Tryz.underlying4
 a4 := Tryz.isAgg4
 z4 := Tryz.sizeOf4
 v4 := Tryz.zeroValue4
 t5 := Tryz.underlying5
 a5 := Tryz.isAgg5
 z5 := Tryz.sizeOf5
 v5 := Tryz.zeroValue5
 t9 := Tryz.underlying9
 a9 := Tryz.isAgg9
 z9 := Tryz.sizeOf9
 v9 := Tryz.zeroValue9
 t46 := Tryz.underlying192
 a46 := Tryz.isAgg192
 z46 := Tryz.sizeOf192
 v46 := Tryz.zeroValue192
 t51 := Tryz.underlying187
 a51 := Tryz.isAgg187
 z51 := Tryz.sizeOf187
 v51 := Tryz.zeroValue187 }
theorem Tryz.bits_LeadingZeros32 (x : Int) (w : World) (h0 : 0 ≤ x) (h1 : x ≤ 4294967295) :
  Calls Tryz.prog 211 #[.int .u32 x] w fun e w' => e = .returned (.int .i64 (32 - (Lib.bitLen x.toNat : Int))) ∧ w' = w := Any.bits_LeadingZeros32 Tryz.lays133 x w h0 h1
def Tryz.lays134_ren : Go.Shelf.Ren := ⟨fun | 134 => 226 | 129 => 238 | n => n, fun | 53 => 157 | 3 => 3 | 4 => 4 | 46 => 192 | 5 => 5 | 9 => 9 | n => n, fun | n => n⟩
theorem Tryz.lays134 : Go.Proofs.Lays.n134 Tryz.prog Tryz.lays134_ren := {
 mixed := by kernel_rfl
 f129 := Tryz.func238.trans (congrArg some (by kernel_rfl))
 f134 := Tryz.func226.trans (congrArg some (by kernel_rfl))
 t3 := Tryz.underlying3
 a3 := Tryz.isAgg3
 z3 := Tryz.sizeOf3
 v3 := Tryz.zeroValue3
 t4 := Tryz.underlying4
 a4 := Tryz.isAgg4
 z4 := Tryz.sizeOf4
 v4 := Tryz.zeroValue4
 t5 := Tryz.underlying5
 a5 := Tryz.isAgg5
 z5 := Tryz.sizeOf5
 v5 := Tryz.zeroValue5
 t9 := Tryz.underlying9
 a9 := Tryz.isAgg9
 z9 := Tryz.sizeOf9
 v9 := Tryz.zeroValue9
 t46 := Tryz.underlying192
 a46 := Tryz.isAgg192
 z46 := Tryz.sizeOf192
 v46 := Tryz.zeroValue192
 t53 := Tryz.underlying157
 a53 := Tryz.isAgg157
 z53 := Tryz.sizeOf157
 v53 := Tryz.zeroValue157 }
theorem Tryz.bits_LeadingZeros64 (x : Int) (w : World) (h0 : 0 ≤ x) (h1 : x ≤ 18446744073709551615) :
  Calls Tryz.prog 226 #[.int .u64 x] w fun e w' => e = .returned (.int .i64 (64 - (Lib.bitLen x.toNat : Int))) ∧ w' = w := Any.bits_LeadingZeros64 Tryz.lays134 x w h0 h1
def Tryz.lays103_ren : Go.Shelf.Ren := ⟨fun | 103 => 85 | 210 => 154 | 206 => 197 | n => n, fun | 9 => 9 | 4 => 4 | 24 => 100 | 3 => 3 | n => n, fun | n => n⟩
theorem Tryz.lays103 : Go.Proofs.Lays.n103 Tryz.prog Tryz.lays103_ren := {
 mixed := by kernel_rfl
 f103 := Tryz.func85.trans (congrArg some (by kernel_rfl))
 f206 := Tryz.func197.trans (congrArg some (by kernel_rfl))
 f210 := Tryz.func154.trans (congrArg some (by kernel_rfl))
 t3 := Tryz.underlying3
 a3 := Tryz.isAgg3
 z3 := Tryz.sizeOf3
 v3 := Tryz.zeroValue3
 t4 := Tryz.underlying4
 a4 := Tryz.isAgg4
 z4 := Tryz.sizeOf4
 v4 := Tryz.zeroValue4
 t9 := Tryz.underlying9
 a9 := Tryz.isAgg9
 z9 := Tryz.sizeOf9
 v9 := Tryz.zeroValue9
 t24 := Tryz.underlying100
 a24 := Tryz.isAgg100
 z24 := Tryz.sizeOf100
 v24 := Tryz.zeroValue100 }
open Go.RowKit in
theorem Tryz.strings_CutPrefix (s p : ByteArray) (w : World) :
  Calls Tryz.prog 85 #[.string s, .string p] w fun e w' => e = .returned (.tuple #[.string ⟨(Lib.trimPrefix s.data.toList p.data.toList).toArray⟩, .bool (Lib.hasPrefix s.data.toList p.data.toList)]) ∧ w' = w := Any.strings_CutPrefix Tryz.lays103 s p w
def Tryz.lays217_ren : Go.Shelf.Ren := ⟨fun | 217 => 242 | 266 => 254 | n => n, fun | 9 => 9 | 5 => 5 | 3 => 3 | n => n, fun | n => n⟩
theorem Tryz.lays217 : Go.Proofs.Lays.n217 Tryz.prog Tryz.lays217_ren := {
 mixed := by kernel_rfl
 f217 := Tryz.func242.trans (congrArg some (by kernel_rfl))
 f266 := Tryz.func254.trans (congrArg some (by kernel_rfl))
 t3 := Tryz.underlying3
 a3 := Tryz.isAgg3
 z3 := Tryz.sizeOf3
 v3 := Tryz.zeroValue3
 t5 := Tryz.underlying5
 a5 := Tryz.isAgg5
 z5 := Tryz.sizeOf5
 v5 := Tryz.zeroValue5
 t9 := Tryz.underlying9
 a9 := Tryz.isAgg9
 z9 := Tryz.sizeOf9
 v9 := Tryz.zeroValue9 }
open Go.RowKit Go.Lib in
theorem Tryz.stringslite_IndexByte (s : ByteArray) (c : Int) (w : World) :
  Calls Tryz.prog 242 #[.string s, .int .u8 c] w fun e w' => e = .returned (.int .i64 (Lib.indexByte s.data.toList c.toNat.toUInt8)) ∧ w' = w := Any.stringslite_IndexByte Tryz.lays217 s c w
def Tryz.lays143_ren : Go.Shelf.Ren := ⟨fun | 143 => 252 | 219 => 224 | 217 => 242 | 225 => 243 | 224 => 244 | 267 => 245 | 266 => 254 | 314 => 255 | n => n, fun | 9 => 9 | 3 => 3 | 4 => 4 | 5 => 5 | 46 => 192 | 146 => 255 | 51 => 187 | n => n, fun | 1 => 3 | n => n⟩
theorem Tryz.lays143 : Go.Proofs.Lays.n143 Tryz.prog Tryz.lays143_ren := {
 mixed := by kernel_rfl
 f143 := Tryz.func252.trans (congrArg some (by kernel_rfl))
 f217 := Tryz.func242.trans (congrArg some (by kernel_rfl))
 f219 := Tryz.func224.trans (congrArg some (by kernel_rfl))
 f224 := Tryz.func244.trans (congrArg some (by kernel_rfl))
 f225 := Tryz.func243.trans (congrArg some (by kernel_rfl))
 f266 := Tryz.func254.trans (congrArg some (by kernel_rfl))
 f267 := Tryz.func245.trans (congrArg some (by kernel_rfl))
 f314 := Tryz.func255.trans (congrArg some (by kernel_rfl))
 t3 := Tryz.underlying3
 a3 := Tryz.isAgg3
 z3 := Tryz.sizeOf3
 v3 := Tryz.zeroValue3
 t4 := Tryz.underlying4
 a4 := Tryz.isAgg4
 z4 := Tryz.sizeOf4
 v4 := Tryz.zeroValue4
 t5 := Tryz.underlying5
 a5 := Tryz.isAgg5
 z5 := Tryz.sizeOf5
 v5 := Tryz.zeroValue5
 t9 := Tryz.underlying9
 a9 := Tryz.isAgg9
 z9 := Tryz.sizeOf9
 v9 := Tryz.zeroValue9
 t46 := Tryz.underlying192
 a46 := Tryz.isAgg192
 z46 := Tryz.sizeOf192
 v46 := Tryz.zeroValue192
 t51 := Tryz.underlying187
 a51 := Tryz.isAgg187
 z51 := Tryz.sizeOf187
 v51 := Tryz.zeroValue187
 t146 := Tryz.underlying255
 a146 := Tryz.isAgg255
 z146 := Tryz.sizeOf255
 v146 := Tryz.zeroValue255
 g1 := by kernel_rfl }
open Go.RowKit Go.Lib in
theorem Tryz.strings_Index_one (s : ByteArray) (c : UInt8) (w : World) :
  Calls Tryz.prog 252 #[.string s, .string ⟨#[c]⟩] w fun e w' => e = .returned (.int .i64 (Lib.indexByte s.data.toList c)) ∧ w' = w := Any.strings_Index_one Tryz.lays143 s c w
open Go.RowKit Go.Lib in
theorem Tryz.strings_Index (s sub : ByteArray) (m : Int) (w : World) (hs : s.size < 4294967281) (hm : w.cell? ⟨3, 0, none⟩ = some (.int .i64 m)) :
  Calls Tryz.prog 252 #[.string s, .string sub] w fun e w' => e = .returned (.int .i64 (Lib.index s.data.toList sub.data.toList)) ∧ w' = w := Any.strings_Index Tryz.lays143 s sub m w hs hm
def Tryz.lays138_ren : Go.Shelf.Ren := ⟨fun | 138 => 251 | 195 => 256 | 218 => 258 | 143 => 252 | 219 => 224 | 217 => 242 | 225 => 243 | 224 => 244 | 267 => 245 | 266 => 254 | 314 => 255 | n => n, fun | 9 => 9 | 3 => 3 | 4 => 4 | 5 => 5 | 0 => 0 | 46 => 192 | 146 => 255 | 51 => 187 | n => n, fun | 1 => 3 | n => n⟩
theorem Tryz.lays138 : Go.Proofs.Lays.n138 Tryz.prog Tryz.lays138_ren := {
 mixed := by kernel_rfl
 f138 := Tryz.func251.trans (congrArg some (by kernel_rfl))
 f143 := Tryz.func252.trans (congrArg some (by kernel_rfl))
 f195 := Tryz.func256.trans (congrArg some (by kernel_rfl))
 f217 := Tryz.func242.trans (congrArg some (by kernel_rfl))
 f218 := Tryz.func258.trans (congrArg some (by kernel_rfl))
 f219 := Tryz.func224.trans (congrArg some (by kernel_rfl))
 f224 := Tryz.func244.trans (congrArg some (by kernel_rfl))
 f225 := Tryz.func243.trans (congrArg some (by kernel_rfl))
 f266 := Tryz.func254.trans (congrArg some (by kernel_rfl))
 f267 := Tryz.func245.trans (congrArg some (by kernel_rfl))
 f314 := Tryz.func255.trans (congrArg some (by kernel_rfl))
 t0 := Tryz.underlying0
 a0 := Tryz.isAgg0
 z0 := Tryz.sizeOf0
 v0 := Tryz.zeroValue0
 t3 := Tryz.underlying3
 a3 := Tryz.isAgg3
 z3 := Tryz.sizeOf3
 v3 := Tryz.zeroValue3
 t4 := Tryz.underlying4
 a4 := Tryz.isAgg4
 z4 := Tryz.sizeOf4
 v4 := Tryz.zeroValue4
 t5 := Tryz.underlying5
 a5 := Tryz.isAgg5
 z5 := Tryz.sizeOf5
 v5 := Tryz.zeroValue5
 t9 := Tryz.underlying9
 a9 := Tryz.isAgg9
 z9 := Tryz.sizeOf9
 v9 := Tryz.zeroValue9
 t46 := Tryz.underlying192
 a46 := Tryz.isAgg192
 z46 := Tryz.sizeOf192
 v46 := Tryz.zeroValue192
 t51 := Tryz.underlying187
 a51 := Tryz.isAgg187
 z51 := Tryz.sizeOf187
 v51 := Tryz.zeroValue187
 t146 := Tryz.underlying255
 a146 := Tryz.isAgg255
 z146 := Tryz.sizeOf255
 v146 := Tryz.zeroValue255
 g1 := by kernel_rfl }
open Go.RowKit Go.Lib in
theorem Tryz.strings_Count_one (s : ByteArray) (c : UInt8) (w : World) :
  Calls Tryz.prog 251 #[.string s, .string ⟨#[c]⟩] w fun e w' => e = .returned (.int .i64 (Lib.countByte s.data.toList c)) ∧ w' = w := Any.strings_Count_one Tryz.lays138 s c w
open Go.RowKit Go.Lib in
theorem Tryz.strings_Count (s sub : ByteArray) (m : Int) (w : World) (hs : s.size < 4294967281) (hm : w.cell? ⟨3, 0, none⟩ = some (.int .i64 m)) (h2 : 2 ≤ sub.size) :
  Calls Tryz.prog 251 #[.string s, .string sub] w fun e w' => e = .returned (.int .i64 (Lib.countB s sub)) ∧ w' = w := Any.strings_Count Tryz.lays138 s sub m w hs hm h2
def Tryz.lays221_ren : Go.Shelf.Ren := ⟨fun | 221 => 234 | 268 => 250 | 138 => 251 | 143 => 252 | 195 => 256 | 197 => 257 | 218 => 258 | 219 => 224 | 260 => 259 | 217 => 242 | 225 => 243 | 224 => 244 | 267 => 245 | 266 => 254 | 314 => 255 | n => n, fun | 9 => 9 | 3 => 3 | 31 => 175 | 4 => 4 | 0 => 0 | 105 => 258 | 21 => 21 | 5 => 5 | 46 => 192 | 119 => 261 | 139 => 264 | 138 => 263 | 146 => 255 | 51 => 187 | n => n, fun | 1 => 3 | 3 => 7 | 4 => 8 | n => n⟩
theorem Tryz.lays221 : Go.Proofs.Lays.n221 Tryz.prog Tryz.lays221_ren := {
 mixed := by kernel_rfl
 f138 := Tryz.func251.trans (congrArg some (by kernel_rfl))
 f143 := Tryz.func252.trans (congrArg some (by kernel_rfl))
 f195 := Tryz.func256.trans (congrArg some (by kernel_rfl))
 f197 := Tryz.func257.trans (congrArg some (by kernel_rfl))
 f217 := Tryz.func242.trans (congrArg some (by kernel_rfl))
 f218 := Tryz.func258.trans (congrArg some (by kernel_rfl))
 f219 := Tryz.func224.trans (congrArg some (by kernel_rfl))
 f221 := Tryz.func234.trans (congrArg some (by kernel_rfl))
 f224 := Tryz.func244.trans (congrArg some (by kernel_rfl))
 f225 := Tryz.func243.trans (congrArg some (by kernel_rfl))
 f260 := Tryz.func259.trans (congrArg some (by kernel_rfl))
 f266 := Tryz.func254.trans (congrArg some (by kernel_rfl))
 f267 := Tryz.func245.trans (congrArg some (by kernel_rfl))
 f268 := Tryz.func250.trans (congrArg some (by kernel_rfl))
 f314 := Tryz.func255.trans (congrArg some (by kernel_rfl))
 t0 := Tryz.underlying0
 a0 := Tryz.isAgg0
 z0 := Tryz.sizeOf0
 v0 := Tryz.zeroValue0
 t3 := Tryz.underlying3
 a3 := Tryz.isAgg3
 z3 := Tryz.sizeOf3
 v3 := Tryz.zeroValue3
 t4 := Tryz.underlying4
 a4 := Tryz.isAgg4
 z4 := Tryz.sizeOf4
 v4 := Tryz.zeroValue4
 t5 := Tryz.underlying5
 a5 := Tryz.isAgg5
 z5 := Tryz.sizeOf5
 v5 := Tryz.zeroValue5
 t9 := Tryz.underlying9
 a9 := Tryz.isAgg9
 z9 := Tryz.sizeOf9
 v9 := Tryz.zeroValue9
 t21 := Tryz.underlying21
 a21 := Tryz.isAgg21
 z21 := Tryz.sizeOf21
 v21 := Tryz.zeroValue21
 t31 := Tryz.underlying175
 a31 := Tryz.isAgg175
 z31 := Tryz.sizeOf175
 v31 := Tryz.zeroValue175
 t46 := Tryz.underlying192
 a46 := Tryz.isAgg192
 z46 := Tryz.sizeOf192
 v46 := Tryz.zeroValue192
 t51 := Tryz.underlying187
 a51 := Tryz.isAgg187
 z51 := Tryz.sizeOf187
 v51 := Tryz.zeroValue187
 t105 := Tryz.underlying258
 a105 := Tryz.isAgg258
 z105 := Tryz.sizeOf258
 v105 := Tryz.zeroValue258
 t119 := Tryz.underlying261
 a119 := Tryz.isAgg261
 z119 := Tryz.sizeOf261
 t138 := Tryz.underlying263
 a138 := Tryz.isAgg263
 z138 := Tryz.sizeOf263
 v138 := Tryz.zeroValue263
 t139 := Tryz.underlying264
 a139 := Tryz.isAgg264
 z139 := Tryz.sizeOf264
 v139 := Tryz.zeroValue264
 t146 := Tryz.underlying255
 a146 := Tryz.isAgg255
 z146 := Tryz.sizeOf255
 v146 := Tryz.zeroValue255
 g1 := by kernel_rfl
 g3 := by kernel_rfl
 g4 := by kernel_rfl }
open Go.RowKit Go.Lib in
theorem Tryz.strings_genSplit (s sep : ByteArray) (sv : Nat) (n : Int) (N : Nat) (m : Int) (w : World) (hs : s.size < 4294967281) (hm : w.cell? ⟨3, 0, none⟩ = some (.int .i64 m)) (h1 : 1 ≤ sep.size) (hsv : sv ≤ sep.size) (hn0 : n ≠ 0) (hn63 : n ≤ 9223372036854775807) (hN : (N : Int) = min (if n < 0 then (Lib.countB s sep : Int) + 1 else n) ((s.size : Int) + 1)) :
  Calls Tryz.prog 234 #[.string s, .string sep, .int .i64 sv, .int .i64 n] w fun e w' =>
   e = .returned (.slice (some ⟨w.heap.size, 0, none⟩) (Lib.splitB sep sv (N - 1) s).length N) ∧ w' = w.alloc (.cells (Lib.cellsOf (Lib.splitB sep sv (N - 1) s) N) 9) := Any.strings_genSplit Tryz.lays221 (by kernel_rfl) s sep sv n N m w hs hm h1 hsv hn0 hn63 hN
end Go.Proofs
