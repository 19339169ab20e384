/- Texts beneath a law of layer 1. -/
import Derived.Test.YtjdnmdlnaoedoaaGreatDoorCu1
import Derived.Shelf.Small.Bits
import Derived.Shelf.Small.Wraps
import Derived.Shelf.Strconv.Itoa0
import Derived.Shelf.Strconv.Itoa1
import Derived.Shelf.LaysM
import Derived.Shelf.Strconv.Itoa2
import Derived.Shelf.Strconv.Itoa3
import Derived.Shelf.Bits.Mul64
import Derived.Ground.Names2Prog
import Derived.Shelf.Slices.SearchI
import Derived.Test.YtjdnmdlnaoedoaaGreatDoorProg
import Derived.Laws.Bits64b
import Derived.Deep.DeepCutAuto
import Derived.Deep.CutBlock
set_option maxRecDepth 100000
set_option maxHeartbeats 16000000
namespace Go.Proofs.YtjdnmdlnaoedoaaGreatDoor
open Go.RowKit

theorem aez {x y b d c : Nat} (hx : x < fo) (hy : y < fo) (hb : b ≤ 1) (hd : d = (x + fo - y - b) % fo) (hc : c = if x < y + b then 1 else 0) :
  d < fo ∧ c ≤ 1 ∧ d + y + b = x + fo * c := by
 rw [ic] at *
 split at hc <;> subst hc <;> omega

theorem Xa (Ax Ay : Option Addr) (cx cy : Nat) (xl yl : List Nat) (n m : Nat) (w : World) (hx : lv w Ax cx xl n) (hy : lv w Ay cy yl m) (hle : m ≤ n) (hk : xl.length ≤ 35184372088832) :
  Calls Tryz.prog 180 #[.slice Ax xl.length cx, .slice Ay yl.length cy] w fun e w' => Fw w (n - m) e w' := by
 have hmk := Ma xl.length hk
 have hyx : yl.length ≤ xl.length := by
  apply Classical.byContradiction
  intro h
  have := Wd.zu qj xl yl hx.lt hy.norm om
  rw [hx.val, hy.val] at this
  omega
 go_enter Tryz.func180, Tryz.ntmps180
 go_wp2
 go_loopw [6, 13] (fun bv iv wr => ∃ (i c : Nat) (zc : List Nat), i ≤ xl.length ∧ bv = .int .u64 ((c : Nat) : Int) ∧ iv = .int .i64 ((i : Nat) : Int) ∧ Wd.Fy fo xl yl zc i c ∧ ZB .u64 wr w.heap.size 135 zc ∧ Below w.heap.size w wr) (fun _ iv _ => xl.length - (intOf iv).toNat)
 case atStart => exact ⟨0, 0, List.replicate xl.length 0, Nat.zero_le _, rfl, rfl, Wd.Fy.start _ _ _ (by simp) (Kk (by rw [ic]; omega) _), heap_alloc_new w _, (Below.refl _ _).alloc (Nat.le_refl _) _⟩
 case round =>
  obtain ⟨i, c, zc, hi, rfl, rfl, hinv, mh, hg⟩ := hrel
  have hlen := hinv.len
  have hc1 := hinv.b1
  have HI := Lib.hid hinv
  clear hinv
  by_cases hlt : i < xl.length
  ·
   obtain ⟨bx, ox, rfl, hbx, hcx⟩ := hx.ws om
   have Eo := (hg.cell (p := ⟨bx, ox + i, none⟩) hbx).trans (hcx i hlt)
   clear hcx
   have hzc := mh.cell i om
   have Pj := mh.frozen i
   have hyr : lv wr Ay cy yl m := hy.below hg
   have bkm := hx.cap2
   have bkn := hx.tu
   obtain ⟨xi, hxi⟩ : ∃ xi, xi = Wd.g xl i := ⟨_, rfl⟩
   obtain ⟨yi, hyi⟩ : ∃ yi, yi = Wd.g yl i := ⟨_, rfl⟩
   obtain ⟨d, hd⟩ : ∃ d, d = (xi + fo - yi - c) % fo := ⟨_, rfl⟩
   obtain ⟨q, hq⟩ : ∃ q, q = if xi < yi + c then 1 else 0 := ⟨_, rfl⟩
   have hsub := awm xi yi c hc1
   rw [← hxi] at Eo
   rw [← hd, ← hq] at hsub
   have hfin : ∀ W, W = wr.drew.setCell ⟨w.heap.size, i, none⟩ (.int .u64 (d : Int)) → Wd.Fy fo xl yl (zc.set i d) (i + 1) q ∧ ZB .u64 W w.heap.size 135 (zc.set i d) ∧ Below w.heap.size w W := by
    rintro W rfl
    obtain ⟨e1, e2, e3⟩ := aez (by rw [hxi]; exact Wd.getD_lt (by rw [ic]; omega) _ hx.lt i) (by rw [hyi]; exact Wd.getD_lt (by rw [ic]; omega) _ hy.lt i) hc1 hd hq
    rw [hxi, hyi] at e3
    exact ⟨HI.out.step hlt e1 e2 e3, (mh.drew).Dl _ _, hg.drew.setCell (by simp) _⟩
   have HF := hide hfin
   have HYI := Lib.hid hyi
   clear hfin mh hg hd hq hxi hyi
   go_wp2_with fail
   go_region_with (go_at_call 186; refine (Ky Ay cy yl wr.heap.size i _ (by exact hyr.ws) hyr.tu hyr.cap2 om).mono ?_; rintro e w' ⟨rfl, rfl⟩; rw [← HYI.out])
   all_goals
    go_wp2
    go_roundw
    case rel =>
     obtain ⟨r1, r2, r3⟩ := (aa HF) _ rfl
     exact ⟨i + 1, q, zc.set i d, by omega, rfl, by go_num, r1, r2, r3⟩
    case measure => simp [intOf]; omega
  ·
   have e : i = xl.length := by omega
   subst e
   have hlt2 := HI.out.lt
   have hv := HI.out.azr hyx (by rw [hx.val, hy.val]; exact hle)
   rw [hx.val, hy.val] at hv
   have HV := Lib.hid hv
   have vo := hide hlt2
   clear hv hlt2
   have bkm := hx.cap2
   have bkn := hx.tu
   go_wp2_with fail
   have htr := Fp (some ⟨w.heap.size, 0, none⟩) zc.length zc (wr.heap.size) wr (mh.Et _ mh.lt) (Nat.le_refl _) om
   rw [hlen] at htr
   refine htr.mono ?_
   rintro e w' ⟨⟨k, rfl, ht, hk2⟩, rfl⟩
   go_wp2_with fail
   go_ret
   have hk3 : k = (zc.take k).length := by simp; omega
   refine ⟨some ⟨w.heap.size, 0, none⟩, xl.length, zc.take k, Fa hk3, ?_, hg⟩
   have := lv.Ct (cap := xl.length) mh (aa vo) ht om om om
   rwa [HV.out] at this
end Go.Proofs.YtjdnmdlnaoedoaaGreatDoor
namespace Go.Proofs.YtjdnmdlnaoedoaaGreatDoor
open Go.RowKit

theorem ajk (x y : Nat) (w : World) : (callFunc 202 #[.int .u64 (x : Int), .int .u64 (y : Int), .int .u64 0]).run Tryz.prog w =
  .ok (.value (.tuple #[.int .u64 (((x + fo - y - 0) % fo : Nat) : Int), .int .u64 ((if x < y + 0 then 1 else 0 : Nat) : Int)])) w := awm x y 0 om w

theorem aog {p c z hi lo s1 q1 h1 d b r : Nat} (hp : p + c < fo * fo) (hz : z < fo) (hhi : hi = p / fo) (hlo : lo = p % fo) (hs1 : s1 = (lo + c) % fo) (hq1 : q1 = (lo + c) / fo) (Qp : h1 = hi + q1)
  (hd : d = (z + fo - s1 - 0) % fo) (hb : b = if z < s1 + 0 then 1 else 0) (hr : r = h1 + b) (hpb : p ≤ (fo - 1) * (fo - 1)) (hc : c < fo) :
  d < fo ∧ hi + q1 < fo ∧ h1 + b < fo ∧ p + c = h1 * fo + s1 ∧ d + s1 = z + fo * b := by
 rw [ic] at *
 split at hb <;> subst hb <;> omega

theorem azc {a b B : Nat} (ha : a < B) (hb : b < B) : a * b ≤ (B - 1) * (B - 1) := Nat.mul_le_mul om om

theorem abq (b off cap T : Nat) (us ul vl : List Nat) (Av : Option Addr) (cv : Nat) (B : Nat) (k : Nat) (w : World)
  (hz : ZB .u64 w b T us) (hoff : off + ul.length ≤ us.length) (Mi : ul = (us.drop off).take ul.length) (hcz : ul.length ≤ cap) (agv : cap ≤ 9223372036854775807)
  (hv : Ws .u64 w B Av vl) (hB : B ≤ b) (hcv : vl.length ≤ cv) (amm : cv ≤ 9223372036854775807) (huv : ul.length = vl.length + 1)
  (hlu : ∀ x ∈ ul, x < fo) (hlv : ∀ x ∈ vl, x < fo) (hkB : k < fo) :
  Calls Tryz.prog 211 #[.slice (some ⟨b, off, none⟩) ul.length cap, .slice Av vl.length cv, .int .u64 ((k : Nat) : Int)] w fun e w' =>
   ∃ zr c, e = .returned (.bool (decide (c = 1))) ∧ zr.length = ul.length ∧ (∀ x ∈ zr, x < fo) ∧ Wd.val fo zr + k * Wd.val fo vl = Wd.val fo ul + fo ^ ul.length * c ∧ c ≤ 1 ∧ ZB .u64 w' b T (win us off zr) ∧ w.grownBy w' (some b) := by
 have HUL := Lib.hid Mi
 have Ki := Lib.hid huv
 have bpx : vl.length < ul.length := by omega
 clear Mi huv
 go_enter Tryz.func211, Tryz.ntmps211
 go_wp2
 go_loopw [7, 16] (fun cv iv wr => ∃ (i c : Nat) (zc : List Nat), i ≤ vl.length ∧ cv = .int .u64 ((c : Nat) : Int) ∧ iv = .int .i64 ((i : Nat) : Int) ∧ Hid (Wd.Dg fo ul vl zc k i c) ∧ ZB .u64 wr b T (win us off zc) ∧ w.grownBy wr (some b)) (fun _ iv _ => vl.length - (intOf iv).toNat)
 case atStart => exact ⟨0, 0, ul, Nat.zero_le _, rfl, rfl, Wd.Dg.start _ _ _ (by rw [ic]; omega) hlu, by rw [HUL.out, Kl _ _ _ hoff]; exact hz, ug _ _⟩
 case round =>
  obtain ⟨i, c, zc, hi, rfl, rfl, HI, mh, hg⟩ := hrel
  have hlen := HI.out.len
  have hwl := win_length us off zc om
  have hBw := hz.lt
  by_cases hlt : i < vl.length
  ·
   obtain ⟨bv, ov, hA, hbv, bdb⟩ := (hv.grown hg (Nat.le_trans hB (Nat.le_of_lt hBw)) (fun g e => by injection e with e; omega)) om
   subst hA
   have hvc := bdb i hlt
   clear bdb
   have hzc := mh.cell (off + i) om
   rw [Lh us off zc om i om] at hzc
   have Pj := mh.frozen (off + i)
   obtain ⟨vi, hvi⟩ : ∃ t, t = Wd.g vl i := ⟨_, rfl⟩
   obtain ⟨z, hz2⟩ : ∃ t, t = Wd.g zc i := ⟨_, rfl⟩
   rw [← hvi] at hvc
   rw [← hz2] at hzc
   have hvB : vi < fo := by rw [hvi]; exact Wd.getD_lt (by rw [ic]; omega) _ hlv i
   have Ib : z < fo := by rw [hz2]; exact Wd.getD_lt (by rw [ic]; omega) _ HI.out.lt _
   obtain ⟨hi', hhi⟩ : ∃ t, t = k * vi / fo := ⟨_, rfl⟩
   obtain ⟨lo, hlo⟩ : ∃ t, t = k * vi % fo := ⟨_, rfl⟩
   obtain ⟨s1, hs1⟩ : ∃ t, t = (lo + c) % fo := ⟨_, rfl⟩
   obtain ⟨q1, hq1⟩ : ∃ t, t = (lo + c) / fo := ⟨_, rfl⟩
   obtain ⟨h1, Qp⟩ : ∃ t, t = hi' + q1 := ⟨_, rfl⟩
   obtain ⟨d, hd⟩ : ∃ t, t = (z + fo - s1 - 0) % fo := ⟨_, rfl⟩
   obtain ⟨b2, hb2⟩ : ∃ t, t = if z < s1 + 0 then 1 else 0 := ⟨_, rfl⟩
   obtain ⟨r, hr⟩ : ∃ t, t = h1 + b2 := ⟨_, rfl⟩
   have hpl := azc hkB hvB
   obtain ⟨e0, e1, e2, e3, e4⟩ := aog (by have := Wd.Lx hkB hvB HI.out.c1 Ib; omega) Ib hhi hlo hs1 hq1 Qp hd hb2 hr hpl HI.out.c1
   have ha1 := ack lo c
   rw [← hs1, ← hq1] at ha1
   have ha2 := ajk z s1
   rw [← hd, ← hb2] at ha2
   have hw1 := Sj Qp (by rw [Qp]; exact e1)
   have hw2 := Sj hr (by rw [hr]; exact e2)
   have hmul := Vg k vi hkB hvB
   rw [← hhi, ← hlo] at hmul
   have awg := hide hmul
   have hfin : ∀ W, W = wr.setCell ⟨b, off + i, none⟩ (.int .u64 (d : Int)) → Hid (Wd.Dg fo ul vl (zc.set i d) k (i + 1) r) ∧ ZB .u64 W b T (win us off (zc.set i d)) ∧ w.grownBy W (some b) := by
    rintro W rfl
    refine ⟨?_, ?_, ni hg _ _⟩
    ·
     rw [hr]
     refine HI.out.step (lo := s1) om e0 e2 ?_ ?_
     ·
      rw [← Wd.qz, ← hvi]; exact e3
     ·
      rw [← Wd.qz, ← hz2]; exact e4
    ·
     rw [← Hd us off zc om i d om]
     exact mh.Dl _ _
   have HF := hide hfin
   clear hfin hmul hhi hlo hs1 hq1 Qp hd hb2 hr e0 e1 e2 e3 e4 hvi hz2 hvB Ib mh hg hz hpl
   go_wp2_with fail
   refine ((aa awg) _).mono ?_
   rintro e w' ⟨rfl, rfl⟩
   go_wp2_with fail
   go_roundw
   case rel =>
    obtain ⟨r1, r2, r3⟩ := (aa HF) _ rfl
    exact ⟨i + 1, r, zc.set i d, by omega, rfl, by go_num, r1, r2, r3⟩
   case measure => simp [intOf] <;> omega
  ·
   have e : i = vl.length := by omega
   subst e
   have hzc := mh.cell (off + vl.length) om
   rw [Lh us off zc om vl.length om] at hzc
   have Pj := mh.frozen (off + vl.length)
   obtain ⟨z, hz2⟩ : ∃ t, t = Wd.g zc vl.length := ⟨_, rfl⟩
   rw [← hz2] at hzc
   have Ib : z < fo := by rw [hz2]; exact Wd.getD_lt (by rw [ic]; omega) _ HI.out.lt _
   obtain ⟨d, hd⟩ : ∃ t, t = (z + fo - c - 0) % fo := ⟨_, rfl⟩
   obtain ⟨b2, hb2⟩ : ∃ t, t = if z < c + 0 then 1 else 0 := ⟨_, rfl⟩
   have ha2 := ajk z c
   rw [← hd, ← hb2] at ha2
   obtain ⟨e0, e1, e2⟩ := aez Ib HI.out.c1 (Nat.zero_le 1) hd hb2
   have hfin : ∀ W, W = wr.setCell ⟨b, off + vl.length, none⟩ (.int .u64 (d : Int)) → (zc.set vl.length d).length = ul.length ∧ (∀ x ∈ zc.set vl.length d, x < fo) ∧ Wd.val fo (zc.set vl.length d) + k * Wd.val fo vl = Wd.val fo ul + fo ^ ul.length * b2 ∧ b2 ≤ 1 ∧ ZB .u64 W b T (win us off (zc.set vl.length d)) ∧ w.grownBy W (some b) := by
    rintro W rfl
    refine ⟨by simp [hlen], Wd.Bd _ _ _ HI.out.lt e0, HI.out.done Ki.out (by rw [← Wd.qz, ← hz2]; omega), e1, ?_, ni hg _ _⟩
    rw [← Hd us off zc om _ d om]
    exact mh.Dl _ _
   have HF := hide hfin
   have hne : ((b2 : Int) != 0) = decide (b2 = 1) := by
    have : b2 = 0 ∨ b2 = 1 := by omega
    rcases this with h | h <;> rw [h] <;> rfl
   clear hfin hd hb2 e0 e1 e2 hz2 Ib mh hg hz
   have bpy : (ul.length : Int) - 1 = (vl.length : Int) := by have := Ki.out; omega
   go_wp2_with fail
   go_ret
   exact ⟨_, b2, rfl, (aa HF) _ rfl⟩
end Go.Proofs.YtjdnmdlnaoedoaaGreatDoor
namespace Go.Proofs
open Go.Shelf
def Tryz.lays133_ren : Go.Shelf.Ren := ⟨fun | 133 => 183 | 128 => 204 | n => n, fun | 51 => 156 | 3 => 3 | 4 => 4 | 46 => 161 | 5 => 5 | 9 => 9 | n => n, fun | n => n⟩
theorem Tryz.lays133 : Go.Proofs.Lays.n133 Tryz.prog Tryz.lays133_ren := {
 mixed := by kernel_rfl
 f128 := Tryz.func204.trans (congrArg some (by kernel_rfl))
 f133 := Tryz.func183.trans (congrArg some (by kernel_rfl))
 t3 := Tryz.underlying3
 a3 := Tryz.isAgg3
 z3 := Tryz.sizeOf3
 v3 := Tryz.zeroValue3
 t4 := Tryz.underlying4
 a4 := Tryz.isAgg4
 z4 := Tryz.sizeOf4
 v4 := Tryz.zeroValue4
 t5 := Tryz.underlying5
 a5 := Tryz.isAgg5
 z5 := Tryz.sizeOf5
 v5 := Tryz.zeroValue5
 t9 := Tryz.underlying9
 a9 := Tryz.isAgg9
 z9 := Tryz.sizeOf9
 v9 := Tryz.zeroValue9
 t46 := Tryz.underlying161
 a46 := Tryz.isAgg161
 z46 := Tryz.sizeOf161
 v46 := Tryz.zeroValue161
 t51 := Tryz.underlying156
 a51 := Tryz.isAgg156
 z51 := Tryz.sizeOf156
 v51 := Tryz.zeroValue156 }
theorem Tryz.bits_LeadingZeros32 (x : Int) (w : World) (h0 : 0 ≤ x) (h1 : x ≤ 4294967295) :
  Calls Tryz.prog 183 #[.int .u32 x] w fun e w' => e = .returned (.int .i64 (32 - (Lib.bitLen x.toNat : Int))) ∧ w' = w := Any.bits_LeadingZeros32 Tryz.lays133 x w h0 h1
def Tryz.lays134_ren : Go.Shelf.Ren := ⟨fun | 134 => 197 | 129 => 206 | n => n, fun | 53 => 135 | 3 => 3 | 4 => 4 | 46 => 161 | 5 => 5 | 9 => 9 | n => n, fun | n => n⟩
theorem Tryz.lays134 : Go.Proofs.Lays.n134 Tryz.prog Tryz.lays134_ren := {
 mixed := by kernel_rfl
 f129 := Tryz.func206.trans (congrArg some (by kernel_rfl))
 f134 := Tryz.func197.trans (congrArg some (by kernel_rfl))
 t3 := Tryz.underlying3
 a3 := Tryz.isAgg3
 z3 := Tryz.sizeOf3
 v3 := Tryz.zeroValue3
 t4 := Tryz.underlying4
 a4 := Tryz.isAgg4
 z4 := Tryz.sizeOf4
 v4 := Tryz.zeroValue4
 t5 := Tryz.underlying5
 a5 := Tryz.isAgg5
 z5 := Tryz.sizeOf5
 v5 := Tryz.zeroValue5
 t9 := Tryz.underlying9
 a9 := Tryz.isAgg9
 z9 := Tryz.sizeOf9
 v9 := Tryz.zeroValue9
 t46 := Tryz.underlying161
 a46 := Tryz.isAgg161
 z46 := Tryz.sizeOf161
 v46 := Tryz.zeroValue161
 t53 := Tryz.underlying135
 a53 := Tryz.isAgg135
 z53 := Tryz.sizeOf135
 v53 := Tryz.zeroValue135 }
theorem Tryz.bits_LeadingZeros64 (x : Int) (w : World) (h0 : 0 ≤ x) (h1 : x ≤ 18446744073709551615) :
  Calls Tryz.prog 197 #[.int .u64 x] w fun e w' => e = .returned (.int .i64 (64 - (Lib.bitLen x.toNat : Int))) ∧ w' = w := Any.bits_LeadingZeros64 Tryz.lays134 x w h0 h1
end Go.Proofs
namespace Go.Proofs.YtjdnmdlnaoedoaaGreatDoor
open Go.RowKit

theorem atl {k : IntKind} {a b c d : Nat} (h : a = c) (h' : b = d) : Ending.returned (.tuple #[.int k (a : Int), .int k (b : Int)]) = .returned (.tuple #[.int k (c : Int), .int k (d : Int)]) := by rw [h, h']

theorem aag (s : Nat) (hs : s ≤ 64) : 2 ^ s * 2 ^ (64 - s) = fo := by
 rw [← Nat.pow_add, show s + (64 - s) = 64 by omega]; rfl
theorem azd {z a s : Nat} (hz : z < 2 ^ s) : (a * 2 ^ s) ||| z = a * 2 ^ s + z := by
 rw [Nat.mul_comm a, ← Nat.two_pow_add_eq_or_of_lt hz]

theorem ale {hi lo s : Nat} (hs : s < 64) (hlo : lo < fo) : (hi * 2 ^ s + lo / 2 ^ (64 - s)) * fo + lo * 2 ^ s % fo = (hi * fo + lo) * 2 ^ s ∧ lo / 2 ^ (64 - s) < 2 ^ s := by
 have hST := aag s om
 have hS : 0 < 2 ^ s := Nat.pow_pos om
 have hT : 0 < 2 ^ (64 - s) := Nat.pow_pos om
 generalize 2 ^ s = S at *
 generalize 2 ^ (64 - s) = T at *
 constructor
 ·
  have h1 : lo * S % fo = lo % T * S := by rw [← hST, Nat.mul_comm S, Nat.mul_mod_mul_right]
  have h2 := Nat.div_add_mod lo T
  rw [h1]
  generalize lo / T = a at *
  generalize lo % T = b at *
  rw [← h2, ← hST]
  simp only [Nat.add_mul, Nat.mul_add, Nat.mul_comm, Nat.mul_left_comm, Nat.mul_assoc]
  omega
 ·
  rw [Nat.div_lt_iff_lt_mul hT, hST]; exact hlo

theorem afl {n p d v : Nat} (h : n + d = p + v) (hv : v < fo) : (((n % fo + d) % fo : Nat) : Int) - ((p % fo : Nat) : Int) = (v : Int) ∨ (((n % fo + d) % fo : Nat) : Int) - ((p % fo : Nat) : Int) = (v : Int) - 18446744073709551616 := by
 rw [ic] at *; omega
theorem Iy {a : Nat} {x : Int} (h : x = (a : Int)) : IntKind.u64.wrap x = ((a % fo : Nat) : Int) := by
 rw [IntKind.wrap_u64, h, ic]; omega
theorem Jg {v : Nat} {x : Int} (hv : v < fo) (h : x = (v : Int) ∨ x = (v : Int) - 18446744073709551616) : IntKind.u64.wrap x = (v : Int) := by
 rw [IntKind.wrap_u64]; rw [ic] at hv; omega

theorem afm {a b B : Nat} (ha : a < B) (hb : b < B) : a * b ≤ (B - 1) * (B - 1) := Nat.mul_le_mul om om
theorem Qc {a b c : Nat} (h : c = a * b) (hc : c < fo) : IntKind.u64.wrap ((a : Int) * (b : Int)) = ((c : Nat) : Int) := by
 rw [IntKind.wrap_u64, h, ← Int.natCast_mul]; rw [ic, h] at hc; omega
theorem Qb {a b c : Nat} (h : c = a + b) (hc : c < fo) : IntKind.u64.wrap ((a : Int) + (b : Int)) = ((c : Nat) : Int) := by
 rw [IntKind.wrap_u64, h]; rw [ic] at hc; omega
theorem Zv {a b : Nat} (h : b ≤ a) (ha : a < fo) : IntKind.u64.wrap ((a : Int) - (b : Int)) = ((a - b : Nat) : Int) := by
 rw [IntKind.wrap_u64]; rw [ic] at ha; omega

theorem Rx : ∀ (f x : Nat), x < 2 ^ f → x < 2 ^ Lib.bitLenAux f x ∧ (x ≠ 0 → 2 ^ (Lib.bitLenAux f x - 1) ≤ x ∧ 0 < Lib.bitLenAux f x) := by
 intro f
 induction f with
 | zero => intro x h; simp at h; subst h; exact ⟨by simp [Lib.bitLenAux], fun h => absurd rfl h⟩
 | succ f ih =>
  intro x h
  unfold Lib.bitLenAux
  by_cases h0 : x = 0
  ·
   rw [if_pos h0]; subst h0; exact ⟨by simp, fun h => absurd rfl h⟩
  ·
   rw [if_neg h0]
   have hx2 : x / 2 < 2 ^ f := by rw [Nat.pow_succ] at h; omega
   obtain ⟨h1, h2⟩ := ih (x / 2) hx2
   refine ⟨?_, fun _ => ⟨?_, by omega⟩⟩
   ·
    rw [Nat.pow_add, Nat.pow_one]; omega
   ·
    rw [Nat.add_sub_cancel_left]
    by_cases h3 : x / 2 = 0
    ·
     have : Lib.bitLenAux f (x / 2) = 0 := by
      rw [h3]; cases f <;> simp [Lib.bitLenAux]
     rw [this]; simp; omega
    ·
     obtain ⟨h4, h5⟩ := h2 h3
     have : Lib.bitLenAux f (x / 2) = (Lib.bitLenAux f (x / 2) - 1) + 1 := by omega
     rw [this, Nat.pow_succ]; omega

theorem aju (y : Nat) (hy : y < fo) (h0 : 0 < y) (w : World) : ∃ s : Nat, s < 64 ∧ 9223372036854775808 ≤ y * 2 ^ s ∧ y * 2 ^ s < fo ∧
  ∀ w : World, Calls Tryz.prog 197 #[.int .u64 ((y : Nat) : Int)] w fun e w' => e = .returned (.int .i64 ((s : Nat) : Int)) ∧ w' = w := by
 obtain ⟨h1, h2⟩ := Rx 64 y hy
 have h3 := (h2 om).1
 change y < 2 ^ Lib.bitLen y at h1
 change 2 ^ (Lib.bitLen y - 1) ≤ y at h3
 have hle := Lib.bitLen_le y 64 om (by rw [ic] at hy; omega)
 have hpos : 0 < Lib.bitLen y := by
  apply Classical.byContradiction
  intro h
  rw [show Lib.bitLen y = 0 by omega] at h1
  simp at h1; omega
 have e1 : 2 ^ (Lib.bitLen y - 1) * 2 ^ (64 - Lib.bitLen y) = 9223372036854775808 := by
  rw [← Nat.pow_add, show Lib.bitLen y - 1 + (64 - Lib.bitLen y) = 63 by omega]
 have e2 : 2 ^ Lib.bitLen y * 2 ^ (64 - Lib.bitLen y) = fo := by
  rw [← Nat.pow_add, show Lib.bitLen y + (64 - Lib.bitLen y) = 64 by omega]; rfl
 refine ⟨64 - Lib.bitLen y, by omega, ?_, ?_, fun w => ?_⟩
 ·
  rw [← e1]; exact Nat.mul_le_mul_right _ h3
 ·
  rw [← e2]; exact Nat.mul_lt_mul_of_pos_right h1 (Nat.pow_pos om)
 ·
  refine (Tryz.bits_LeadingZeros64 (y : Int) w om (by rw [ic] at hy; omega)).mono ?_
  rintro e w' ⟨rfl, rfl⟩
  refine ⟨wy ?_, rfl⟩
  rw [Int.toNat_natCast]; omega

theorem ahx (Y : Nat) (hY : Y < fo) : Go.bits .and .u64 (Y : Int) 4294967295 = ((Y % 4294967296 : Nat) : Int) := by
 have h := bits_and_u64_nat Y 4294967295 hY om
 rw [Nat.and_two_pow_sub_one_eq_mod Y 32] at h
 exact h

theorem adr (hi lo y : Nat) (hy : y < fo) (hlo : lo < fo) (hh : hi < y) (w : World) :
  Calls Tryz.prog 210 #[.int .u64 ((hi : Nat) : Int), .int .u64 ((lo : Nat) : Int), .int .u64 ((y : Nat) : Int)] w fun e w' => e = .returned (.tuple #[.int .u64 (((hi * fo + lo) / y : Nat) : Int), .int .u64 (((hi * fo + lo) % y : Nat) : Int)]) ∧ ∃ k, w' = w.drewN k := by
 by_cases h0 : hi = 0
 ·
  subst h0
  have b1 : ((y : Int) == 0) = false := by simp; omega
  have b2 : ¬ ((y : Int) ≤ 0) := by omega
  go_enter Tryz.func210, Tryz.ntmps210
  go_wp2_with fail
  go_region
  go_wp2_with fail
  go_ret2
  refine ⟨?_, 1, rfl⟩
  have e1 : IntKind.u64.wrap ((lo : Int) / (y : Int)) = ((lo / y : Nat) : Int) := by
   have : lo / y ≤ lo := Nat.div_le_self _ _
   rw [ic] at hlo
   rw [IntKind.wrap_u64, ← Int.natCast_ediv]; generalize lo / y = z at *; omega
  simp [e1]
 ·
  have b1 : ((y : Int) == 0) = false := by simp; omega
  have b3 : ((hi : Int) == 0) = false := by simp; omega
  have b2 : ¬ ((y : Int) ≤ (hi : Int)) := by omega
  obtain ⟨s, hs, hY1, hY2, hlz⟩ := aju y hy om w
  obtain ⟨Y, hYY⟩ : ∃ Y, Y = y * 2 ^ s := ⟨_, rfl⟩
  rw [← hYY] at hY1 hY2
  obtain ⟨y1, hy1⟩ : ∃ t, t = Y / 4294967296 := ⟨_, rfl⟩
  obtain ⟨y0, hy0⟩ : ∃ t, t = Y % 4294967296 := ⟨_, rfl⟩
  obtain ⟨p1, hp1⟩ : ∃ t, t = hi * 2 ^ s := ⟨_, rfl⟩
  obtain ⟨p2, hp2⟩ : ∃ t, t = lo / 2 ^ (64 - s) := ⟨_, rfl⟩
  obtain ⟨u, hu⟩ : ∃ t, t = p1 + p2 := ⟨_, rfl⟩
  obtain ⟨un, hun⟩ : ∃ t, t = lo * 2 ^ s % fo := ⟨_, rfl⟩
  obtain ⟨d1, hd1⟩ : ∃ t, t = un / 4294967296 := ⟨_, rfl⟩
  obtain ⟨d0, hd0⟩ : ∃ t, t = un % 4294967296 := ⟨_, rfl⟩
  have e1 : IntKind.u64.wrap ((y : Int) * 2 ^ s) = (Y : Int) := Jg hY2 (.inl (by rw [hYY]; simp))
  have hsh := ale (hi := hi) hs hlo
  have bke : p1 + 2 ^ s ≤ Y := by
   rw [hp1, hYY, ← Nat.succ_mul]; exact Nat.mul_le_mul_right _ hh
  have bcj : p2 < 2 ^ s := by rw [hp2]; exact hsh.2
  have huY : u < Y := by omega
  have acb : un < fo := by rw [hun]; exact Nat.mod_lt _ (by rw [ic]; omega)
  have hY3 : Y = y1 * eu + y0 := by rw [hy1, hy0, gp]; omega
  have e2 : (Y : Int) / 4294967296 = (y1 : Int) := by rw [hy1]; simp
  have e3 : Go.bits .and .u64 (Y : Int) 4294967295 = (y0 : Int) := by rw [ahx Y hY2, hy0]
  have e4 : IntKind.u64.wrap ((hi : Int) * 2 ^ s) = (p1 : Int) := Jg om (.inl (by rw [hp1]; simp))
  have e5 : (lo : Int) / 2 ^ (64 - s) = (p2 : Int) := by rw [hp2]; simp
  have e6 : Go.bits .or .u64 (p1 : Int) (p2 : Int) = (u : Int) := by rw [bits_or_u64_nat p1 p2 (show p1 < fo by omega) (show p2 < fo by omega), hu]; rw [hp1, azd bcj]
  have e7 : IntKind.u64.wrap ((lo : Int) * 2 ^ s) = (un : Int) := by rw [hun]; exact Iy (by simp)
  have e8 : (un : Int) / 4294967296 = (d1 : Int) := by rw [hd1]; simp
  have e9 : Go.bits .and .u64 (un : Int) 4294967295 = (d0 : Int) := by rw [ahx un acb, hd0]
  obtain ⟨q, hq⟩ : ∃ t, t = u / y1 := ⟨_, rfl⟩
  obtain ⟨t1, ht1⟩ : ∃ t, t = q * y1 := ⟨_, rfl⟩
  obtain ⟨r, hr⟩ : ∃ t, t = u - t1 := ⟨_, rfl⟩
  have bkc : q ≤ u := by rw [hq]; exact Nat.div_le_self _ _
  have bcg : t1 ≤ u := by rw [ht1, hq]; exact Nat.div_mul_le_self _ _
  have Tt : 0 < y1 := by rw [hy1]; omega
  have hr1 : r < y1 := by rw [hr, ht1, hq, Nat.mul_comm, ← Nat.mod_eq_sub_mul_div]; exact Nat.mod_lt _ Tt
  have e10 : IntKind.u64.wrap ((u : Int) / (y1 : Int)) = (q : Int) := Jg om (.inl (by rw [hq]; simp))
  have e11 : IntKind.u64.wrap ((q : Int) * (y1 : Int)) = (t1 : Int) := Qc ht1 om
  have e12 : IntKind.u64.wrap ((u : Int) - (t1 : Int)) = (r : Int) := by rw [hr]; exact Zv bcg om
  have GY1 : Hid (y1 < eu) := by show y1 < eu; rw [ic] at hY2; rw [gp]; omega
  have Iw : Hid (0 < y1 * eu + y0) := by show 0 < y1 * eu + y0; omega
  have Gy0 : Hid (y0 < eu) := by show y0 < eu; rw [gp]; omega
  have GuY : Hid (u < y1 * eu + y0) := by show u < y1 * eu + y0; omega
  have Gd1 : Hid (d1 < eu) := by show d1 < eu; rw [ic] at acb; rw [gp]; omega
  have Gd0 : Hid (d0 < eu) := by show d0 < eu; rw [gp]; omega
  have GST : Hid (Wd.Cs eu y1 y0 u d1 q r) := by rw [hr, ht1, hq]; exact Wd.Cs.start Tt (aa Gd1)
  have GqB : Hid (q < fo) := show q < fo by omega
  have GrB : Hid (r < eu) := show r < eu by have := aa GY1; omega
  have GY3 := Lib.hid hY3
  have GSH := hide hsh
  have GuB : Hid (u < Y) := huY
  have bpw : 1 ≤ (y1 : Int) := by rw [hy1]; omega
  have HLZ := hide hlz
  have H1 := Lib.hid hYY; have H2 := Lib.hid hy1; have H3 := Lib.hid hy0; have H4 := Lib.hid hp1; have H5 := Lib.hid hp2; have H6 := Lib.hid hu; have H7 := Lib.hid hun; have H8 := Lib.hid hd1; have H9 := Lib.hid hd0
  have H10 := Lib.hid hq; have H11 := Lib.hid ht1; have H12 := Lib.hid hr
  have G1 := hide hY1; have G2 := hide hY2
  clear hlz hYY hy1 hy0 hp1 hp2 hu hun hd1 hd0 hY1 hY2 hq ht1 hr hsh bke bcj huY acb hY3 bkc bcg hr1 Tt
  go_enter Tryz.func210, Tryz.ntmps210
  go_wp2_with fail
  refine ((aa HLZ) _).mono ?_
  rintro e w' ⟨rfl, rfl⟩
  go_upto_block 0 with (fail)
  go_cut [15] (fun qv wx => w' = wx ∧ qv = .int .u64 (((u * eu + d1) / (y1 * eu + y0) : Nat) : Int))
  case first =>
   go_wp2_with fail
   go_loop [15, 16] (fun qv rv => ∃ q r : Nat, qv = .int .u64 ((q : Nat) : Int) ∧ rv = .int .u64 ((r : Nat) : Int) ∧ Hid (q < fo) ∧ Hid (r < eu) ∧ Hid (Wd.Cs eu y1 y0 u d1 q r)) (fun qv _ => (intOf qv).toNat)
   case atStart => exact ⟨q, r, rfl, rfl, GqB, GrB, GST⟩
   case round =>
    obtain ⟨q2, r2, rfl, rfl, hq2, hr2, HI⟩ := hrel
    obtain ⟨q3, hq3⟩ : ∃ t, t = q2 - 1 := ⟨_, rfl⟩
    obtain ⟨r3, hr3⟩ : ∃ t, t = r2 + y1 := ⟨_, rfl⟩
    have f1 : 1 ≤ q2 → IntKind.u64.wrap ((q2 : Int) - 1) = (q3 : Int) := fun h => by
     have := hq2.out; rw [ic] at this; rw [IntKind.wrap_u64]; omega
    have f2 : IntKind.u64.wrap ((r2 : Int) + (y1 : Int)) = (r3 : Int) := Qb hr3 (by have h1 := hr2.out; have h2 := aa GY1; rw [gp] at h1 h2; rw [ic]; omega)
    have hstep : (eu ≤ q2 ∨ eu * r2 + d1 < q2 * y0) → 1 ≤ q2 ∧ Wd.Cs eu y1 y0 u d1 q3 r3 := fun h => by
     rw [hq3, hr3]; exact HI.out.step (aa Iw) (aa GuY) (aa Gd1) h
    have aeq := hide hstep
    by_cases hb : eu ≤ q2
    ·
     obtain ⟨hq1, Cy⟩ := hstep (.inl hb)
     have hbd : decide ((4294967296 : Int) ≤ (q2 : Int)) = true := by rw [gp] at hb; simp; omega
     have f1' := f1 hq1
     have Ww := hide hq1; have Uj := hide Cy; have Wv := hide hq3
     by_cases hr : eu ≤ r3
     ·
      have hrd : decide ((4294967296 : Int) ≤ (r3 : Int)) = true := by rw [gp] at hr; simp; omega
      have hfin := Cy.stop (aa Iw) (aa Gy0) (aa GuY) hr
      have Je := Lib.hid hfin
      clear hb hr hq3 hr3 f1 hstep hq1 Cy hfin HI
      go_wp2_with fail
      go_meet
      exact ⟨rfl, Je.out ▸ rfl⟩
     ·
      have hrd : decide ((4294967296 : Int) ≤ (r3 : Int)) = false := by rw [gp] at hr; simp; omega
      have HR := hide (show r3 < eu by omega)
      clear hb hr hq3 hr3 f1 hstep hq1 Cy HI
      go_wp2_with fail
      go_round
      case rel => exact ⟨q3, r3, rfl, rfl, by rw [Wv.out]; exact Nat.lt_of_le_of_lt (Nat.sub_le _ _) hq2.out, HR, Uj⟩
      case measure => have h1 := Ww.out; have h2 := Wv.out; simp [intOf]; omega
    ·
     have hbd : decide ((4294967296 : Int) ≤ (q2 : Int)) = false := by rw [gp] at hb; simp; omega
     obtain ⟨pp, Be⟩ : ∃ t, t = q2 * y0 := ⟨_, rfl⟩
     obtain ⟨m2, hm2⟩ : ∃ t, t = eu * r2 := ⟨_, rfl⟩
     obtain ⟨m3, Po⟩ : ∃ t, t = m2 + d1 := ⟨_, rfl⟩
     have g0 : pp < fo := by
      have h1 : q2 * y0 ≤ (eu - 1) * (eu - 1) := afm (by omega) (aa Gy0)
      rw [Be]; rw [gp] at h1; rw [ic]; omega
     have g1 : IntKind.u64.wrap ((q2 : Int) * (y0 : Int)) = (pp : Int) := Qc Be g0
     have g2 : IntKind.u64.wrap (4294967296 * (r2 : Int)) = (m2 : Int) := by
      have h1 := hr2.out
      rw [gp] at h1 hm2
      rw [IntKind.wrap_u64, hm2]; omega
     have g3 : IntKind.u64.wrap ((m2 : Int) + (d1 : Int)) = (m3 : Int) := Qb Po (by have h1 := hr2.out; have h2 := aa Gd1; rw [gp] at h1 h2 hm2; rw [ic]; omega)
     by_cases ht : m3 < pp
     ·
      have htd : decide ((m3 : Int) < (pp : Int)) = true := by simp; omega
      have aut : decide (m3 < pp) = true := by simp; omega
      obtain ⟨hq1, Cy⟩ := hstep (.inr om)
      have f1' := f1 hq1
      have Ww := hide hq1; have Uj := hide Cy; have Wv := hide hq3
      by_cases hr : eu ≤ r3
      ·
       have hrd : decide ((4294967296 : Int) ≤ (r3 : Int)) = true := by rw [gp] at hr; simp; omega
       have hfin := Cy.stop (aa Iw) (aa Gy0) (aa GuY) hr
       have Je := Lib.hid hfin
       clear hb hr hq3 hr3 f1 hstep hq1 Cy hfin HI Be hm2 Po g0 ht
       go_wp2_with fail
       go_meet
       exact ⟨rfl, Je.out ▸ rfl⟩
      ·
       have hrd : decide ((4294967296 : Int) ≤ (r3 : Int)) = false := by rw [gp] at hr; simp; omega
       have HR := hide (show r3 < eu by omega)
       clear hb hr hq3 hr3 f1 hstep hq1 Cy HI Be hm2 Po g0 ht
       go_wp2_with fail
       go_round
       case rel => exact ⟨q3, r3, rfl, rfl, by rw [Wv.out]; exact Nat.lt_of_le_of_lt (Nat.sub_le _ _) hq2.out, HR, Uj⟩
       case measure => have h1 := Ww.out; have h2 := Wv.out; simp [intOf]; omega
     ·
      have htd : decide ((m3 : Int) < (pp : Int)) = false := by simp; omega
      have aut : decide (m3 < pp) = false := by simp; omega
      have hfin := HI.out.done (aa Iw) om
      have Je := Lib.hid hfin
      clear hb hq3 hr3 f1 hstep hfin HI Be hm2 Po g0 ht
      go_wp2_with fail
      go_meet
      exact ⟨rfl, Je.out ▸ rfl⟩
  case rest =>
   obtain ⟨rfl, rfl⟩ := hcut
   obtain ⟨q1, hq1⟩ : ∃ t, t = (u * eu + d1) / (y1 * eu + y0) := ⟨_, rfl⟩
   obtain ⟨v, hv⟩ : ∃ t, t = (u * eu + d1) % (y1 * eu + y0) := ⟨_, rfl⟩
   rw [← hq1]
   have Ci : u * eu + d1 = q1 * Y + v := by
    rw [hq1, hv, GY3.out, Nat.mul_comm _ (y1 * eu + y0)]; exact (Nat.div_add_mod _ _).symm
   have hvY : v < Y := by rw [hv, GY3.out]; exact Nat.mod_lt _ (aa Iw)
   have hvB : v < fo := Nat.lt_trans hvY (aa G2)
   have amh : q1 < eu := by rw [hq1]; exact Wd.aho (aa Iw) (aa GuY) (aa Gd1)
   have k1 : IntKind.u64.wrap ((u : Int) * 4294967296) = ((u * eu % fo : Nat) : Int) := Iy (by rw [gp]; simp)
   have k2 : IntKind.u64.wrap (((u * eu % fo : Nat) : Int) + (d1 : Int)) = (((u * eu % fo + d1) % fo : Nat) : Int) := Iy (by simp)
   have k3 : IntKind.u64.wrap ((q1 : Int) * (Y : Int)) = ((q1 * Y % fo : Nat) : Int) := Iy (by simp)
   have k4 := Jg hvB (afl Ci hvB)
   obtain ⟨a1, ha1⟩ : ∃ t, t = u * eu % fo := ⟨_, rfl⟩
   rw [← ha1] at k1 k2 k4
   obtain ⟨a2, ha2⟩ : ∃ t, t = (a1 + d1) % fo := ⟨_, rfl⟩
   rw [← ha2] at k2 k4
   obtain ⟨a3, ha3⟩ : ∃ t, t = q1 * Y % fo := ⟨_, rfl⟩
   rw [← ha3] at k3 k4
   obtain ⟨q', hq'⟩ : ∃ t, t = v / y1 := ⟨_, rfl⟩
   obtain ⟨t', ht'⟩ : ∃ t, t = q' * y1 := ⟨_, rfl⟩
   obtain ⟨r', hr'⟩ : ∃ t, t = v - t' := ⟨_, rfl⟩
   have hqv : q' ≤ v := by rw [hq']; exact Nat.div_le_self _ _
   have htv : t' ≤ v := by rw [ht', hq']; exact Nat.div_mul_le_self _ _
   have Tt : 0 < y1 := by omega
   have hrv : r' < y1 := by rw [hr', ht', hq', Nat.mul_comm, ← Nat.mod_eq_sub_mul_div]; exact Nat.mod_lt _ Tt
   have k5 : IntKind.u64.wrap ((v : Int) / (y1 : Int)) = (q' : Int) := Jg om (.inl (by rw [hq']; simp))
   have k6 : IntKind.u64.wrap ((q' : Int) * (y1 : Int)) = (t' : Int) := Qc ht' (by omega)
   have k7 : IntKind.u64.wrap ((v : Int) - (t' : Int)) = (r' : Int) := by rw [hr']; exact Zv htv hvB
   have GvY : Hid (v < y1 * eu + y0) := by show v < y1 * eu + y0; rw [← GY3.out]; exact hvY
   have bme : Hid (Wd.Cs eu y1 y0 v d0 q' r') := by rw [hr', ht', hq']; exact Wd.Cs.start Tt (aa Gd0)
   have bmd : Hid (q' < fo) := show q' < fo by omega
   have bmc : Hid (r' < eu) := show r' < eu by have := aa GY1; omega
   have K1 := Lib.hid hq1; have K2 := Lib.hid hv; have K3 := hide hvB; have K4 := hide amh
   clear hq1 hv Ci hvY hvB amh ha1 ha2 ha3 hq' ht' hr' hqv htv Tt hrv
   go_upto_block 2 with (fail)
   go_cut [18] (fun qv wx => w' = wx ∧ qv = .int .u64 (((v * eu + d0) / (y1 * eu + y0) : Nat) : Int))
   case first =>
    go_wp2_with fail
    go_loop [18, 16] (fun qv rv => ∃ q r : Nat, qv = .int .u64 ((q : Nat) : Int) ∧ rv = .int .u64 ((r : Nat) : Int) ∧ Hid (q < fo) ∧ Hid (r < eu) ∧ Hid (Wd.Cs eu y1 y0 v d0 q r)) (fun qv _ => (intOf qv).toNat)
    case atStart => exact ⟨q', r', rfl, rfl, bmd, bmc, bme⟩
    case round =>
     obtain ⟨q2, r2, rfl, rfl, hq2, hr2, HI⟩ := hrel
     obtain ⟨q3, hq3⟩ : ∃ t, t = q2 - 1 := ⟨_, rfl⟩
     obtain ⟨r3, hr3⟩ : ∃ t, t = r2 + y1 := ⟨_, rfl⟩
     have f1 : 1 ≤ q2 → IntKind.u64.wrap ((q2 : Int) - 1) = (q3 : Int) := fun h => by
      have := hq2.out; rw [ic] at this; rw [IntKind.wrap_u64]; omega
     have f2 : IntKind.u64.wrap ((r2 : Int) + (y1 : Int)) = (r3 : Int) := Qb hr3 (by have h1 := hr2.out; have h2 := aa GY1; rw [gp] at h1 h2; rw [ic]; omega)
     have hstep : (eu ≤ q2 ∨ eu * r2 + d0 < q2 * y0) → 1 ≤ q2 ∧ Wd.Cs eu y1 y0 v d0 q3 r3 := fun h => by
      rw [hq3, hr3]; exact HI.out.step (aa Iw) (aa GvY) (aa Gd0) h
     have aeq := hide hstep
     by_cases hb : eu ≤ q2
     ·
      obtain ⟨hq1, Cy⟩ := hstep (.inl hb)
      have hbd : decide ((4294967296 : Int) ≤ (q2 : Int)) = true := by rw [gp] at hb; simp; omega
      have f1' := f1 hq1
      have Ww := hide hq1; have Uj := hide Cy; have Wv := hide hq3
      by_cases hr : eu ≤ r3
      ·
       have hrd : decide ((4294967296 : Int) ≤ (r3 : Int)) = true := by rw [gp] at hr; simp; omega
       have hfin := Cy.stop (aa Iw) (aa Gy0) (aa GvY) hr
       have Je := Lib.hid hfin
       clear hb hr hq3 hr3 f1 hstep hq1 Cy hfin HI
       go_wp2_with fail
       go_meet
       exact ⟨rfl, Je.out ▸ rfl⟩
      ·
       have hrd : decide ((4294967296 : Int) ≤ (r3 : Int)) = false := by rw [gp] at hr; simp; omega
       have HR := hide (show r3 < eu by omega)
       clear hb hr hq3 hr3 f1 hstep hq1 Cy HI
       go_wp2_with fail
       go_round
       case rel => exact ⟨q3, r3, rfl, rfl, by rw [Wv.out]; exact Nat.lt_of_le_of_lt (Nat.sub_le _ _) hq2.out, HR, Uj⟩
       case measure => have h1 := Ww.out; have h2 := Wv.out; simp [intOf]; omega
     ·
      have hbd : decide ((4294967296 : Int) ≤ (q2 : Int)) = false := by rw [gp] at hb; simp; omega
      obtain ⟨pp, Be⟩ : ∃ t, t = q2 * y0 := ⟨_, rfl⟩
      obtain ⟨m2, hm2⟩ : ∃ t, t = eu * r2 := ⟨_, rfl⟩
      obtain ⟨m3, Po⟩ : ∃ t, t = m2 + d0 := ⟨_, rfl⟩
      have g0 : pp < fo := by
       have h1 : q2 * y0 ≤ (eu - 1) * (eu - 1) := afm (by omega) (aa Gy0)
       rw [Be]; rw [gp] at h1; rw [ic]; omega
      have g1 : IntKind.u64.wrap ((q2 : Int) * (y0 : Int)) = (pp : Int) := Qc Be g0
      have g2 : IntKind.u64.wrap (4294967296 * (r2 : Int)) = (m2 : Int) := by
       have h1 := hr2.out
       rw [gp] at h1 hm2
       rw [IntKind.wrap_u64, hm2]; omega
      have g3 : IntKind.u64.wrap ((m2 : Int) + (d0 : Int)) = (m3 : Int) := Qb Po (by have h1 := hr2.out; have h2 := aa Gd0; rw [gp] at h1 h2 hm2; rw [ic]; omega)
      by_cases ht : m3 < pp
      ·
       have htd : decide ((m3 : Int) < (pp : Int)) = true := by simp; omega
       have aut : decide (m3 < pp) = true := by simp; omega
       obtain ⟨hq1, Cy⟩ := hstep (.inr om)
       have f1' := f1 hq1
       have Ww := hide hq1; have Uj := hide Cy; have Wv := hide hq3
       by_cases hr : eu ≤ r3
       ·
        have hrd : decide ((4294967296 : Int) ≤ (r3 : Int)) = true := by rw [gp] at hr; simp; omega
        have hfin := Cy.stop (aa Iw) (aa Gy0) (aa GvY) hr
        have Je := Lib.hid hfin
        clear hb hr hq3 hr3 f1 hstep hq1 Cy hfin HI Be hm2 Po g0 ht
        go_wp2_with fail
        go_meet
        exact ⟨rfl, Je.out ▸ rfl⟩
       ·
        have hrd : decide ((4294967296 : Int) ≤ (r3 : Int)) = false := by rw [gp] at hr; simp; omega
        have HR := hide (show r3 < eu by omega)
        clear hb hr hq3 hr3 f1 hstep hq1 Cy HI Be hm2 Po g0 ht
        go_wp2_with fail
        go_round
        case rel => exact ⟨q3, r3, rfl, rfl, by rw [Wv.out]; exact Nat.lt_of_le_of_lt (Nat.sub_le _ _) hq2.out, HR, Uj⟩
        case measure => have h1 := Ww.out; have h2 := Wv.out; simp [intOf]; omega
      ·
       have htd : decide ((m3 : Int) < (pp : Int)) = false := by simp; omega
       have aut : decide (m3 < pp) = false := by simp; omega
       have hfin := HI.out.done (aa Iw) om
       have Je := Lib.hid hfin
       clear hb hq3 hr3 f1 hstep hfin HI Be hm2 Po g0 ht
       go_wp2_with fail
       go_meet
       exact ⟨rfl, Je.out ▸ rfl⟩
   case rest =>
    obtain ⟨rfl, rfl⟩ := hcut
    obtain ⟨q0, hq0⟩ : ∃ t, t = (v * eu + d0) / (y1 * eu + y0) := ⟨_, rfl⟩
    obtain ⟨R, hR⟩ : ∃ t, t = (v * eu + d0) % (y1 * eu + y0) := ⟨_, rfl⟩
    rw [← hq0]
    have Ci : v * eu + d0 = q0 * Y + R := by
     rw [hq0, hR, GY3.out, Nat.mul_comm _ (y1 * eu + y0)]; exact (Nat.div_add_mod _ _).symm
    have hRY : R < Y := by rw [hR, GY3.out]; exact Nat.mod_lt _ (aa Iw)
    have hRB : R < fo := Nat.lt_trans hRY (aa G2)
    have bkd : q0 < eu := by rw [hq0]; exact Wd.aho (aa Iw) (aa GvY) (aa Gd0)
    have amh := aa K4
    have n1 : IntKind.u64.wrap ((q1 : Int) * 4294967296) = ((q1 * eu : Nat) : Int) := Jg (by rw [gp] at *; rw [ic]; omega) (.inl (by rw [gp]; simp))
    have n2 : IntKind.u64.wrap (((q1 * eu : Nat) : Int) + (q0 : Int)) = ((q1 * eu + q0 : Nat) : Int) := Jg (by rw [gp] at *; rw [ic]; omega) (.inl (by simp))
    have n3 : IntKind.u64.wrap ((v : Int) * 4294967296) = ((v * eu % fo : Nat) : Int) := Iy (by rw [gp]; simp)
    have n4 : IntKind.u64.wrap (((v * eu % fo : Nat) : Int) + (d0 : Int)) = (((v * eu % fo + d0) % fo : Nat) : Int) := Iy (by simp)
    have n5 : IntKind.u64.wrap ((q0 : Int) * (Y : Int)) = ((q0 * Y % fo : Nat) : Int) := Iy (by simp)
    have n6 := Jg hRB (afl Ci hRB)
    obtain ⟨b1, hb1⟩ : ∃ t, t = q1 * eu := ⟨_, rfl⟩
    rw [← hb1] at n1 n2
    obtain ⟨Q, hQ⟩ : ∃ t, t = b1 + q0 := ⟨_, rfl⟩
    rw [← hQ] at n2
    obtain ⟨c1, hc1⟩ : ∃ t, t = v * eu % fo := ⟨_, rfl⟩
    rw [← hc1] at n3 n4 n6
    obtain ⟨c2, hc2⟩ : ∃ t, t = (c1 + d0) % fo := ⟨_, rfl⟩
    rw [← hc2] at n4 n6
    obtain ⟨c3, hc3⟩ : ∃ t, t = q0 * Y % fo := ⟨_, rfl⟩
    rw [← hc3] at n5 n6
    obtain ⟨z, hz⟩ : ∃ t, t = R / 2 ^ s := ⟨_, rfl⟩
    have n7 : (R : Int) / 2 ^ s = (z : Int) := by rw [hz]; simp
    have hfin : Q = (hi * fo + lo) / y ∧ z = (hi * fo + lo) % y := by
     have hY0 : 0 < Y := Nat.lt_of_lt_of_le om (aa G1)
     have hS : 0 < 2 ^ s := Nat.pow_pos om
     have hN : u * (eu * eu) + d1 * eu + d0 = (hi * fo + lo) * 2 ^ s := by
      have h1 := (aa GSH).1
      rw [← H4.out, ← H5.out, ← H6.out, ← H7.out] at h1
      have h2 : un = d1 * eu + d0 := by rw [H8.out, H9.out, gp]; omega
      rw [← h1, h2, show eu * eu = fo from rfl, Nat.add_assoc]
     have h3 := Wd.aky (b := eu) (Y := Y) (u := u) (d1 := d1) (d0 := d0) hY0
     have h4 := Wd.Sw (N := hi * fo + lo) (Y := y) (S := 2 ^ s) hS
     rw [hN] at h3
     rw [← H1.out] at h4
     rw [GY3.out] at h3 h4
     rw [← K1.out, ← K2.out, ← hq0, ← hR] at h3
     rw [h3.1, h3.2] at h4
     exact ⟨by rw [hQ, hb1]; exact h4.1, by rw [hz]; exact h4.2⟩
    have HF := hide hfin
    clear hq0 hR Ci hRY hRB bkd amh hb1 hQ hc1 hc2 hc3 hz hfin
    go_wp2_with fail
    go_ret2
    exact ⟨atl (aa HF).1 (aa HF).2, 0, rfl⟩
end Go.Proofs.YtjdnmdlnaoedoaaGreatDoor
namespace Go.Proofs.YtjdnmdlnaoedoaaGreatDoor
open Go.RowKit

theorem Lr (s : Nat) (hs : s ≤ 64) : 2 ^ s * 2 ^ (64 - s) = fo := by
 rw [← Nat.pow_add, show s + (64 - s) = 64 by omega]; rfl

theorem Yo {m s : Nat} (hs : s ≤ 64) : m * 2 ^ s % fo = m % 2 ^ (64 - s) * 2 ^ s := by
 rw [← Lr s hs, Nat.mul_comm (2 ^ s), Nat.mul_mod_mul_right]

theorem Oi {z a s : Nat} (hz : z < 2 ^ s) : z ||| (a * 2 ^ s) = z + a * 2 ^ s := by
 rw [Nat.or_comm, Nat.mul_comm a, ← Nat.two_pow_add_eq_or_of_lt hz, Nat.add_comm]

def blq (w : World) (xl : List Nat) (v : Nat) (e : Ending) (w' : World) : Prop :=
 ∃ zr, e = .returned (.slice (some ⟨w.heap.size, 0, none⟩) (xl.length + 1) (xl.length + 1)) ∧ zr.length = xl.length + 1 ∧ (∀ x ∈ zr, x < fo) ∧ Wd.val fo zr = v ∧ ZB .u64 w' w.heap.size 135 zr ∧ Below w.heap.size w w'

theorem aty (Ax : Option Addr) (cx : Nat) (xl : List Nat) (n s : Nat) (w : World) (hx : lv w Ax cx xl n) (hs : s < 64) (hk : xl.length + 1 ≤ 35184372088832) :
  Calls Tryz.prog 198 #[.slice Ax xl.length cx, .int .u64 ((s : Nat) : Int)] w fun e w' => blq w xl (n * 2 ^ s) e w' := by
 have hmk := Ma (xl.length + 1) hk
 simp only [Int.natCast_add, Int.cast_ofNat_Int] at hmk
 have hx1 := hx.tu; have hx2 := hx.cap2
 go_enter Tryz.func198, Tryz.ntmps198
 go_wp2
 go_loopw [14] (fun iv wr => ∃ (i : Nat) (zr : List Nat), i ≤ xl.length ∧ iv = .int .i64 ((i : Nat) : Int) ∧ Hid (Wd.Ew fo (2 ^ s) xl zr i) ∧ ZB .u64 wr w.heap.size 135 zr ∧ Below w.heap.size w wr) (fun iv _ => xl.length - (intOf iv).toNat)
 case atStart => exact ⟨0, List.replicate (xl.length + 1) 0, Nat.zero_le _, rfl, Wd.Ew.start _ _ (Nat.pow_pos om) (by rw [ic]; omega) (by simp) (Nq _), heap_alloc_new w _, (Below.refl _ _).alloc (Nat.le_refl _) _⟩
 case round =>
  obtain ⟨i, zr, hi, rfl, HI, mh, hg⟩ := hrel
  have hlen := HI.out.len
  by_cases hlt : i < xl.length
  ·
   obtain ⟨bx, ox, rfl, hbx, hcx⟩ := hx.ws om
   have Eo := (hg.cell (p := ⟨bx, ox + i, none⟩) hbx).trans (hcx i hlt)
   clear hcx
   have hzc := mh.cell i om
   have Pj := mh.frozen i
   have bjv := mh.cell (i + 1) om
   have bby := mh.frozen (i + 1)
   obtain ⟨m, hm⟩ : ∃ m, m = Wd.g xl i := ⟨_, rfl⟩
   obtain ⟨z, hz⟩ : ∃ z, z = Wd.g zr i := ⟨_, rfl⟩
   rw [← hm] at Eo
   rw [← hz] at hzc
   have Kj : m < fo := by rw [hm]; exact Wd.getD_lt (by rw [ic]; omega) _ hx.lt i
   have Ib : z < fo := by rw [hz]; exact Wd.getD_lt (by rw [ic]; omega) _ HI.out.lt i
   have hzS : z < 2 ^ s := by rw [hz]; exact HI.out.low
   obtain ⟨p, hp⟩ : ∃ p, p = m % 2 ^ (64 - s) * 2 ^ s := ⟨_, rfl⟩
   obtain ⟨r, hr⟩ : ∃ r, r = z + p := ⟨_, rfl⟩
   obtain ⟨q, hq⟩ : ∃ q, q = m / 2 ^ (64 - s) := ⟨_, rfl⟩
   have Rv : p < fo := by rw [hp, ← Yo om]; exact Nat.mod_lt _ (by rw [ic]; omega)
   have e1 : IntKind.u64.wrap ((m : Int) * 2 ^ s) = (p : Int) := by
    rw [hp, ← Yo om, IntKind.wrap_u64, ic]; simp
   have e2 : Go.bits .or .u64 (z : Int) (p : Int) = (r : Int) := by
    rw [bits_or_u64_nat z p Ib Rv, hr, hp, Oi hzS]
   have e3 : (m : Int) / 2 ^ (64 - s) = (q : Int) := by rw [hq]; simp
   have hfin : ∀ W, W = (wr.setCell ⟨w.heap.size, i, none⟩ (.int .u64 (r : Int))).setCell ⟨w.heap.size, i + 1, none⟩ (.int .u64 (q : Int)) → Hid (Wd.Ew fo (2 ^ s) xl ((zr.set i r).set (i + 1) q) (i + 1)) ∧ ZB .u64 W w.heap.size 135 ((zr.set i r).set (i + 1) q) ∧ Below w.heap.size w W := by
    rintro W rfl
    refine ⟨?_, (mh.Dl _ _).Dl _ _, (hg.setCell (by simp) _).setCell (by simp) _⟩
    rw [hr, hp, hq, hm, hz]
    exact HI.out.step (Lr s om) (Nat.pow_pos om) hlt (by rw [← Wd.qz, ← hm]; exact Kj)
   have HF := hide hfin
   clear hfin hp hr hq hm hz hzS mh hg
   go_wp2_with fail
   go_roundw
   case rel =>
    obtain ⟨r1, r2, r3⟩ := (aa HF) _ rfl
    exact ⟨i + 1, _, by omega, by go_num, r1, r2, r3⟩
   case measure => simp [intOf] <;> omega
  ·
   have e : i = xl.length := by omega
   subst e
   have hv := HI.out.done
   rw [hx.val] at hv
   have HV := Lib.hid hv
   clear hv
   go_wp2_with fail
   go_ret
   exact ⟨zr, rfl, hlen, HI.out.lt, HV.out, mh, hg⟩

theorem apc (Ax : Option Addr) (cx : Nat) (xl : List Nat) (s : Nat) (w : World) (hx : Ws .u64 w w.heap.size Ax xl) (hx1 : xl.length ≤ cx) (hx2 : cx ≤ 9223372036854775807) (hxl : ∀ x ∈ xl, x < fo) (hs : s < 64) (hk : xl.length ≤ 35184372088832) :
  Calls Tryz.prog 200 #[.slice Ax xl.length cx, .int .u64 ((s : Nat) : Int)] w fun e w' => Fw w (Wd.val fo xl / 2 ^ s) e w' := by
 have hmk := Ma xl.length hk
 go_enter Tryz.func200, Tryz.ntmps200
 go_wp2
 go_loopw [12] (fun iv wr => ∃ (i : Nat) (zr : List Nat), i ≤ xl.length ∧ iv = .int .i64 ((i : Nat) : Int) ∧ Hid (Wd.Eg fo (2 ^ s) xl zr i) ∧ ZB .u64 wr w.heap.size 135 zr ∧ Below w.heap.size w wr) (fun iv _ => xl.length - (intOf iv).toNat)
 case atStart => exact ⟨0, List.replicate xl.length 0, Nat.zero_le _, rfl, Wd.Eg.start _ _ (by simp) (Kk (by rw [ic]; omega) _), heap_alloc_new w _, (Below.refl _ _).alloc (Nat.le_refl _) _⟩
 case round =>
  obtain ⟨i, zr, hi, rfl, HI, mh, hg⟩ := hrel
  have hlen := HI.out.len
  by_cases hlt : i < xl.length
  ·
   obtain ⟨bx, ox, hA, hbx, hcx⟩ := hx om
   have hxr : Ws .u64 wr w.heap.size Ax xl := hx.below hg
   subst hA
   have Eo := (hg.cell (p := ⟨bx, ox + i, none⟩) hbx).trans (hcx i hlt)
   clear hcx
   have hzc := mh.cell i om
   have Pj := mh.frozen i
   obtain ⟨m, hm⟩ : ∃ m, m = Wd.g xl i := ⟨_, rfl⟩
   obtain ⟨m1, hm1⟩ : ∃ m1, m1 = Wd.g xl (i + 1) := ⟨_, rfl⟩
   rw [← hm] at Eo
   have Kj : m < fo := by rw [hm]; exact Wd.getD_lt (by rw [ic]; omega) _ hxl i
   obtain ⟨q, hq⟩ : ∃ q, q = m / 2 ^ s := ⟨_, rfl⟩
   obtain ⟨p, hp⟩ : ∃ p, p = m1 % 2 ^ s * 2 ^ (64 - s) := ⟨_, rfl⟩
   obtain ⟨r, hr⟩ : ∃ r, r = q + p := ⟨_, rfl⟩
   have hsh : m1 * 2 ^ (64 - s) % fo = p := by
    rw [Yo om, hp, show 64 - (64 - s) = s by omega]
   have Rv : p < fo := by rw [← hsh]; exact Nat.mod_lt _ (by rw [ic]; omega)
   have Nk : q < fo := by rw [hq]; exact Nat.lt_of_le_of_lt (Nat.div_le_self _ _) Kj
   have hqT : q < 2 ^ (64 - s) := by
    rw [hq, Nat.div_lt_iff_lt_mul (Nat.pow_pos om), Nat.mul_comm, Lr s om]; exact Kj
   have e0 : (m : Int) / 2 ^ s = (q : Int) := by rw [hq]; simp
   have e1 : IntKind.u64.wrap ((m1 : Int) * 2 ^ (64 - s)) = (p : Int) := by
    rw [← hsh, IntKind.wrap_u64, ic]; simp
   have e1' : IntKind.u64.wrap ((m1 : Int) * 2 ^ min (64 - s) 64) = (p : Int) := by rw [Nat.min_eq_left om]; exact e1
   have e2 : Go.bits .or .u64 (q : Int) (p : Int) = (r : Int) := by
    rw [bits_or_u64_nat q p Nk Rv, hr, hp, Oi hqT]
   have hfin : ∀ W, W = wr.drew.setCell ⟨w.heap.size, i, none⟩ (.int .u64 (r : Int)) → Hid (Wd.Eg fo (2 ^ s) xl (zr.set i r) (i + 1)) ∧ ZB .u64 W w.heap.size 135 (zr.set i r) ∧ Below w.heap.size w W := by
    rintro W rfl
    refine ⟨?_, (mh.drew).Dl _ _, hg.drew.setCell (by simp) _⟩
    rw [hr, hp, hq, hm, hm1]
    exact HI.out.step (Lr s om) (Nat.pow_pos om) hlt (by rw [← Wd.qz, ← hm]; exact Kj)
   have HF := hide hfin
   have hlim : ∀ W, Ws .u64 W w.heap.size (some ⟨bx, ox, none⟩) xl → Calls Tryz.prog 186 #[.slice (some ⟨bx, ox, none⟩) xl.length cx, .int .i64 ((i : Int) + 1)] W fun e w' => e = .returned (.int .u64 ((m1 : Nat) : Int)) ∧ w' = W := fun W h => by
    rw [hm1]; exact Ky _ cx xl w.heap.size (i + 1) W h hx1 hx2 om
   have blx := hide hlim
   have hwi : IntKind.i64.wrap ((i : Int) + 1) = (i : Int) + 1 := IntWalk.i64_in _ om
   clear hfin hp hr hq hm hm1 hqT hsh mh hg hlim
   go_wp2_with fail
   go_region_with (go_at_call 186; refine ((aa blx) _ (by exact hxr)).mono ?_; rintro e w' ⟨rfl, rfl⟩)
   all_goals
    go_wp2
    go_roundw
    case rel =>
     simp only [e1', e2]
     obtain ⟨r1, r2, r3⟩ := (aa HF) _ rfl
     exact ⟨i + 1, _, by omega, by go_num, r1, r2, r3⟩
    case measure => simp [intOf] <;> omega
  ·
   have e : i = xl.length := by omega
   subst e
   have hv := HI.out.done (Lr s om) (Nat.pow_pos om)
   have HV := Lib.hid hv
   clear hv
   go_wp2_with fail
   have htr := Fp (some ⟨w.heap.size, 0, none⟩) zr.length zr (wr.heap.size) wr (mh.Et _ mh.lt) (Nat.le_refl _) om
   rw [hlen] at htr
   refine htr.mono ?_
   rintro e w' ⟨⟨k, rfl, ht, hk2⟩, rfl⟩
   go_wp2_with fail
   go_ret
   have hk3 : k = (zr.take k).length := by simp; omega
   refine ⟨some ⟨w.heap.size, 0, none⟩, xl.length, zr.take k, Fa hk3, ?_, hg⟩
   have := lv.Ct (cap := xl.length) mh HI.out.lt ht om om om
   rwa [HV.out] at this
end Go.Proofs.YtjdnmdlnaoedoaaGreatDoor
namespace Go.Proofs.YtjdnmdlnaoedoaaGreatDoor
open Go.RowKit

theorem bau {B : Nat} (hB : 0 < B) (l : List Nat) (n : Nat) (hn : 1 ≤ n) (hl : l.length = n + 1) (hlt : ∀ x ∈ l, x < B) : Wd.val B l < (l.getD n 0 * B + l.getD (n - 1) 0 + 1) * B ^ (n - 1) := by
 have h1 := Wd.qp B l n om
 rw [Wd.jk _ _ _ om] at h1
 have h2 := Wd.qp B l (n - 1) om
 rw [show n - 1 + 1 = n by omega] at h2
 have h3 := Wd.Cf (B := B) (l.take (n - 1)) (fun x hx => hlt x (List.mem_of_mem_take hx))
 rw [List.length_take, Nat.min_eq_left om] at h3
 have e : B ^ n = B ^ (n - 1) * B := by rw [← Nat.pow_succ, show (n - 1).succ = n by omega]
 rw [h1, h2, e]
 generalize B ^ (n - 1) = P at *
 rw [Nat.add_mul, Nat.add_mul, Nat.one_mul, Nat.mul_comm (l.getD (n - 1) 0) P, show l.getD n 0 * B * P = P * B * l.getD n 0 by simp only [Nat.mul_comm, Nat.mul_left_comm, Nat.mul_assoc]]
 omega

theorem asl {B : Nat} (l : List Nat) (n : Nat) (hn : 1 ≤ n) (hl : l.length = n) : l.getD (n - 1) 0 * B ^ (n - 1) ≤ Wd.val B l := by
 have h2 := Wd.qp B l (n - 1) om
 rw [show n - 1 + 1 = n by omega, Wd.jk _ _ _ om] at h2
 rw [h2, Nat.mul_comm]; omega

theorem aef (us : List Nat) (off : Nat) (zc : List Nat) (h : off + zc.length ≤ us.length) : zc = ((win us off zc).drop off).take zc.length := by
 have h1 : (us.take off).length = off := by simp; omega
 simp only [win, List.append_assoc]
 rw [List.drop_append_of_le_length om, List.drop_of_length_le om, List.nil_append, List.take_append_of_le_length (Nat.le_refl _), List.take_of_length_le (Nat.le_refl _)]

structure aic (ul vl zr : List Nat) (q : Nat) : Prop where
 len : zr.length = ul.length
 lt : ∀ x ∈ zr, x < fo
 quo : q = Wd.val fo ul / Wd.val fo vl
 rem : Wd.val fo zr = Wd.val fo ul % Wd.val fo vl

theorem ajg (b off cap T n : Nat) (us ul vl : List Nat) (Av : Option Addr) (cv : Nat) (B : Nat) (w : World)
  (hz : ZB .u64 w b T us) (hoff : off + ul.length ≤ us.length) (Mi : ul = (us.drop off).take ul.length) (hcz : ul.length ≤ cap) (agv : cap ≤ 9223372036854775807)
  (hv : Ws .u64 w B Av vl) (hB : B ≤ b) (hcv : vl.length ≤ cv) (amm : cv ≤ 9223372036854775807) (hn : 1 ≤ n) (Gu : vl.length = n) (huv : ul.length = n + 1)
  (hlu : ∀ x ∈ ul, x < fo) (hlv : ∀ x ∈ vl, x < fo) (hpre : Wd.val fo ul < fo * Wd.val fo vl) :
  Calls Tryz.prog 199 #[.slice (some ⟨b, off, none⟩) (n + 1) cap, .slice Av n cv] w fun e w' =>
   ∃ zr q, e = .returned (.int .u64 ((q : Nat) : Int)) ∧ aic ul vl zr q ∧ q < fo ∧ ZB .u64 w' b T (win us off zr) ∧ w.grownBy w' (some b) := by
 have hB0 : 0 < fo := by rw [ic]; omega
 have Jp : 0 < Wd.val fo vl := by
  rcases Nat.eq_zero_or_pos (Wd.val fo vl) with h | h
  ·
   rw [h] at hpre; omega
  ·
   exact h
 obtain ⟨bv, ov, hA, hbv, agw⟩ := hv om
 subst hA
 have hv0 := hv
 have hvt := agw (n - 1) om
 clear agw
 have hu0 := hz.cell (off + n) om
 have hu1 := hz.cell (off + (n - 1)) om
 have hgw : ∀ i, i < ul.length → Wd.g us (off + i) = Wd.g ul i := fun i hi => by
  have h := Lh us off ul hoff i hi
  rwa [show win us off ul = us by rw [Mi]; exact Kl us off _ hoff] at h
 rw [hgw n om] at hu0
 rw [hgw (n - 1) om] at hu1
 obtain ⟨un, hun⟩ : ∃ t, t = Wd.g ul n := ⟨_, rfl⟩
 obtain ⟨um, hum⟩ : ∃ t, t = Wd.g ul (n - 1) := ⟨_, rfl⟩
 obtain ⟨vt, agj⟩ : ∃ t, t = Wd.g vl (n - 1) := ⟨_, rfl⟩
 rw [← hun] at hu0
 rw [← hum] at hu1
 rw [← agj] at hvt
 have acb : un < fo := by rw [hun]; exact Wd.getD_lt hB0 _ hlu _
 have amg : um < fo := by rw [hum]; exact Wd.getD_lt hB0 _ hlu _
 have auo : vt < fo := by rw [agj]; exact Wd.getD_lt hB0 _ hlv _
 obtain ⟨Q, hQ⟩ : ∃ t, t = Wd.val fo ul / Wd.val fo vl := ⟨_, rfl⟩
 have hQB : Q < fo := by rw [hQ, Nat.div_lt_iff_lt_mul Jp]; exact hpre
 have hQt : Q * vt ≤ un * fo + um := by
  refine Wd.Zh (V := Wd.val fo vl) (U := Wd.val fo ul) (B := fo) (k := n - 1) ?_ ?_ ?_
  ·
   rw [agj]; exact asl vl n hn Gu
  ·
   rw [hun, hum]; exact bau hB0 ul n hn huv hlu
  ·
   rw [hQ]; exact Nat.div_mul_le_self _ _
 have e1 : IntKind.i64.wrap ((n : Int) - 1) = (n : Int) - 1 := IntWalk.i64_in _ om
 have e2 : (0 : Int) ≤ (n : Int) - 1 := by omega
 have e3 : ((n : Int) - 1).toNat = n - 1 := by omega
 have hvW : Ws .u64 w B (some ⟨bv, ov, none⟩) vl := hv0
 obtain ⟨g, hg⟩ : ∃ t, t = if un < vt then (un * fo + um) / vt else 18446744073709551615 := ⟨_, rfl⟩
 have amf : un < vt → 0 < vt := fun h => by omega
 have hgB : g < fo := by
  rw [hg]; split
  ·
   rename_i h; exact Wd.aho (amf h) h amg
  ·
   rw [ic]; omega
 have hgQ : Q ≤ g := by
  rw [hg]; split
  ·
   rename_i h; rw [Nat.le_div_iff_mul_le (amf h)]; exact hQt
  ·
   rw [ic] at hQB; omega
 have hsub : ∀ W, ZB .u64 W b T us → Ws .u64 W B (some ⟨bv, ov, none⟩) vl → Calls Tryz.prog 211 #[.slice (some ⟨b, off, none⟩) (n + 1) cap, .slice (some ⟨bv, ov, none⟩) n cv, .int .u64 ((g : Nat) : Int)] W fun e w' =>
   ∃ zr c, e = .returned (.bool (decide (c = 1))) ∧ zr.length = ul.length ∧ (∀ x ∈ zr, x < fo) ∧ Wd.val fo zr + g * Wd.val fo vl = Wd.val fo ul + fo ^ ul.length * c ∧ c ≤ 1 ∧ ZB .u64 w' b T (win us off zr) ∧ W.grownBy w' (some b) := fun W h1 h2 => by
  have := abq b off cap T us ul vl (some ⟨bv, ov, none⟩) cv B g W h1 hoff Mi hcz agv h2 hB hcv amm (by omega) hlu hlv hgB
  rw [huv, Gu] at this
  rw [huv]
  exact this
 have hadd : ∀ W zc, zc.length = n + 1 → (∀ x ∈ zc, x < fo) → ZB .u64 W b T (win us off zc) → Ws .u64 W B (some ⟨bv, ov, none⟩) vl → Calls Tryz.prog 201 #[.slice (some ⟨b, off, none⟩) (n + 1) cap, .slice (some ⟨bv, ov, none⟩) n cv] W fun e w' =>
   ∃ zr c, e = .returned (.int .u64 ((c : Nat) : Int)) ∧ ano fo zc vl zr c ∧ ZB .u64 w' b T (win us off zr) ∧ W.grownBy w' (some b) := fun W zc hl h0 h1 h2 => by
  have := Rc b off cap T (win us off zc) zc vl (some ⟨bv, ov, none⟩) cv B W h1 (by rw [win_length _ _ _ om]; omega) (aef _ _ _ om) om agv h2 hB hcv amm (by omega) h0 hlv
  rw [hl, Gu] at this
  refine this.mono ?_
  rintro e w' ⟨zr, c, h3, h4, h5, h6⟩
  refine ⟨zr, c, h3, h4, ?_, h6⟩
  rwa [ayf _ _ _ _ om h4.len] at h5
 have hdone : ∀ g' zr, zr.length = ul.length → (∀ x ∈ zr, x < fo) → Q ≤ g' → Wd.val fo zr + g' * Wd.val fo vl = Wd.val fo ul → aic ul vl zr g' := fun g' zr h1 h2 h3 h4 => by
  have hle : g' ≤ Q := by rw [hQ, Nat.le_div_iff_mul_le Jp]; omega
  have : g' = Q := by omega
  subst this
  refine ⟨h1, h2, hQ, ?_⟩
  have Ci := Nat.div_add_mod (Wd.val fo ul) (Wd.val fo vl)
  rw [← hQ, Nat.mul_comm] at Ci
  omega
 have hpos : ∀ g' zr, zr.length = ul.length → (∀ x ∈ zr, x < fo) → Wd.val fo zr + g' * Wd.val fo vl = Wd.val fo ul + fo ^ ul.length * 1 → 1 ≤ g' := fun g' zr h1 h2 h4 => by
  have hlt := Wd.Cf zr h2
  rw [h1] at hlt
  rcases Nat.eq_zero_or_pos g' with h | h
  ·
   subst h; simp at h4; omega
  ·
   exact h
 have bfd := hide hpos
 have hstep : ∀ g' zr zr' c', zr.length = ul.length → (∀ x ∈ zr, x < fo) → Q ≤ g' → Wd.val fo zr + g' * Wd.val fo vl = Wd.val fo ul + fo ^ ul.length * 1 → ano fo zr vl zr' c' →
   1 ≤ g' ∧ Q ≤ g' - 1 ∧ zr'.length = ul.length ∧ Wd.val fo zr' + (g' - 1) * Wd.val fo vl = Wd.val fo ul + fo ^ ul.length * (1 - c') := fun g' zr zr' c' h1 h2 h3 h4 h5 => by
  have hlt := Wd.Cf zr h2
  rw [h1] at hlt
  have hgV : Wd.val fo ul < g' * Wd.val fo vl := by omega
  have hQg : Q < g' := by rw [hQ, Nat.div_lt_iff_lt_mul Jp]; exact hgV
  have he := h5.eq
  rw [h1] at he
  have hc := h5.c1
  obtain ⟨p, rfl⟩ : ∃ p, g' = p + 1 := ⟨g' - 1, by omega⟩
  rw [Nat.add_mul, Nat.one_mul] at h4
  refine ⟨by omega, by omega, h5.len.trans h1, ?_⟩
  rw [Nat.add_sub_cancel]
  rcases (show c' = 0 ∨ c' = 1 by omega) with rfl | rfl
  ·
   simp only [Nat.mul_zero, Nat.mul_one, Nat.sub_zero, Nat.add_zero] at *; omega
  ·
   simp only [Nat.mul_zero, Nat.mul_one, Nat.sub_self, Nat.add_zero] at *; omega
 have Wu := hide hsub; have bfq := hide hadd; have axw := hide hdone; have aeq := hide hstep
 have Ki := Lib.hid huv; have HGB := hide hgB; have HGQ := hide hgQ
 obtain ⟨rr, hrr⟩ : ∃ t, t = (un * fo + um) % vt := ⟨_, rfl⟩
 have hdiv : un < vt → ∀ W, Calls Tryz.prog 210 #[.int .u64 ((un : Nat) : Int), .int .u64 ((um : Nat) : Int), .int .u64 ((vt : Nat) : Int)] W fun e w' => e = .returned (.tuple #[.int .u64 ((g : Nat) : Int), .int .u64 ((rr : Nat) : Int)]) ∧ ∃ k, w' = W.drewN k := fun h W => by
  rw [hg, if_pos h, hrr]
  exact adr un um vt auo amg h W
 have bmb := hide hdiv
 have hlen1 : n + 1 ≤ cap := by omega
 have Tw : n ≤ cv := by omega
 have hbw := hz.lt
 by_cases hlt : un < vt
 ·
  have b1 : decide ((un : Int) < (vt : Int)) = true := by simp; omega
  have b2 : decide (un < vt) = true := by simp; omega
  have vo := hide hlt
  clear Mi Gu huv hun hum agj hQ hQB hQt acb amg auo hpre hgw Jp hB0 hlu hlv hg amf hgB hgQ hsub hadd hdone hstep hdiv hrr hpos hlt hoff hcz hcv
  go_enter Tryz.func199, Tryz.ntmps199
  go_wp2_with fail
  go_quiet (fail)
  go_wp2_with fail
  go_quiet ((go_at_call 210; exact api ((aa bmb) (aa vo) _)))
  go_wp2_with fail
  refine ((aa Wu) _ (by exact hz) (by exact hvW)).mono ?_
  rintro e w1 ⟨zr, c, rfl, h1, h2, h3, h4, h5, h6⟩
  have h6' : w.grownBy w1 (some b) := ⟨h6.os, h6.tape, h6.output, h6.size, h6.block⟩
  have Yj := Lib.hid (h1.trans Ki.out)
  have H2 := hide h2
  have H3 := Lib.hid h3
  clear h1 h2 h3 h6
  go_wp2_with fail
  go_loopw [6, 7] (fun gv bv wr => ∃ (g' c' : Nat) (zc : List Nat), gv = .int .u64 ((g' : Nat) : Int) ∧ bv = .bool (decide (c' = 1)) ∧ c' ≤ 1 ∧ Hid (zc.length = n + 1) ∧ Hid (∀ x ∈ zc, x < fo) ∧ Hid (Q ≤ g') ∧ Hid (g' < fo) ∧ Hid (Wd.val fo zc + g' * Wd.val fo vl = Wd.val fo ul + fo ^ ul.length * c') ∧ ZB .u64 wr b T (win us off zc) ∧ w.grownBy wr (some b)) (fun gv _ _ => (intOf gv).toNat)
  case atStart => exact ⟨g, c, zr, rfl, rfl, h4, Yj, H2, HGQ, HGB, H3, h5, h6'⟩
  case round =>
   obtain ⟨g', c', zc, rfl, rfl, hc, hl, hlt', hq', hb', heq, mh, hgr⟩ := hrel
   have Yg : Ws .u64 wr B (some ⟨bv, ov, none⟩) vl := hvW.grown hgr om (fun g e => by injection e with e; omega)
   rcases (show c' = 0 ∨ c' = 1 by omega) with rfl | rfl
   ·
    have hok := (aa axw) g' zc (hl.out.trans Ki.out.symm) hlt'.out hq'.out (by have := heq.out; omega)
    have Jr := hide hok
    clear hok
    go_wp2_with fail
    go_ret
    exact ⟨zc, g', rfl, aa Jr, hb'.out, mh, hgr⟩
   ·
    have hpos := (aa bfd) g' zc (hl.out.trans Ki.out.symm) hlt'.out heq.out
    have f1 : IntKind.u64.wrap ((g' : Int) - 1) = ((g' - 1 : Nat) : Int) := by
     have := hb'.out; rw [ic] at this; rw [IntKind.wrap_u64]; omega
    obtain ⟨g2, hg2⟩ : ∃ t, t = g' - 1 := ⟨_, rfl⟩
    rw [← hg2] at f1
    have HG2 := Lib.hid hg2
    have HP := hide hpos
    clear hg2 hpos
    go_wp2_with fail
    refine ((aa bfq) _ zc hl.out hlt'.out mh Yg).mono ?_
    rintro e w2 ⟨zr', c2, rfl, Nv, hz', hg'⟩
    obtain ⟨k1, k2, k3, k4⟩ := (aa aeq) g' zc zr' c2 (hl.out.trans Ki.out.symm) hlt'.out hq'.out heq.out Nv
    have hc2 := Nv.c1
    have K0 := hide Nv.lt
    have K2 := hide k2; have K3 := Lib.hid (k3.trans Ki.out); have K4 := Lib.hid k4
    have agu := Vx hgr hg'
    clear k1 k2 k3 k4 Nv hg'
    rcases (show c2 = 0 ∨ c2 = 1 by omega) with rfl | rfl
    ·
     go_wp2_with fail
     go_roundw
     case rel => exact ⟨g2, 1, zr', rfl, rfl, by omega, K3, K0, by rw [HG2.out]; exact K2, by rw [HG2.out]; exact Nat.lt_of_le_of_lt (Nat.sub_le _ _) hb'.out, by rw [HG2.out]; exact K4, hz', agu⟩
     case measure => have h1 := HG2.out; have h2 := HP.out; simp [intOf]; omega
    ·
     go_wp2_with fail
     go_roundw
     case rel => exact ⟨g2, 0, zr', rfl, rfl, by omega, K3, K0, by rw [HG2.out]; exact K2, by rw [HG2.out]; exact Nat.lt_of_le_of_lt (Nat.sub_le _ _) hb'.out, by rw [HG2.out]; exact K4, hz', agu⟩
     case measure => have h1 := HG2.out; have h2 := HP.out; simp [intOf]; omega
 ·
  have b1 : decide ((un : Int) < (vt : Int)) = false := by simp; omega
  have b2 : decide (un < vt) = false := by simp; omega
  have vo := hide hlt
  have bcu : (18446744073709551615 : Int) = ((g : Nat) : Int) := by rw [hg, if_neg hlt]; rfl
  have bma := Lib.hid bcu
  clear Mi Gu huv hun hum agj hQ hQB hQt acb amg auo hpre hgw Jp hB0 hlu hlv hg amf hgB hgQ hsub hadd hdone hstep hdiv hrr hpos hlt hoff hcz hcv bcu
  go_enter Tryz.func199, Tryz.ntmps199
  go_wp2_with fail
  go_quiet (fail)
  go_wp2_with fail
  rw [bma.out]
  refine ((aa Wu) _ (by exact hz) (by exact hvW)).mono ?_
  rintro e w1 ⟨zr, c, rfl, h1, h2, h3, h4, h5, h6⟩
  have h6' : w.grownBy w1 (some b) := ⟨h6.os, h6.tape, h6.output, h6.size, h6.block⟩
  have Yj := Lib.hid (h1.trans Ki.out)
  have H2 := hide h2
  have H3 := Lib.hid h3
  clear h1 h2 h3 h6
  go_wp2_with fail
  go_loopw [6, 7] (fun gv bv wr => ∃ (g' c' : Nat) (zc : List Nat), gv = .int .u64 ((g' : Nat) : Int) ∧ bv = .bool (decide (c' = 1)) ∧ c' ≤ 1 ∧ Hid (zc.length = n + 1) ∧ Hid (∀ x ∈ zc, x < fo) ∧ Hid (Q ≤ g') ∧ Hid (g' < fo) ∧ Hid (Wd.val fo zc + g' * Wd.val fo vl = Wd.val fo ul + fo ^ ul.length * c') ∧ ZB .u64 wr b T (win us off zc) ∧ w.grownBy wr (some b)) (fun gv _ _ => (intOf gv).toNat)
  case atStart => exact ⟨g, c, zr, rfl, rfl, h4, Yj, H2, HGQ, HGB, H3, h5, h6'⟩
  case round =>
   obtain ⟨g', c', zc, rfl, rfl, hc, hl, hlt', hq', hb', heq, mh, hgr⟩ := hrel
   have Yg : Ws .u64 wr B (some ⟨bv, ov, none⟩) vl := hvW.grown hgr om (fun g e => by injection e with e; omega)
   rcases (show c' = 0 ∨ c' = 1 by omega) with rfl | rfl
   ·
    have hok := (aa axw) g' zc (hl.out.trans Ki.out.symm) hlt'.out hq'.out (by have := heq.out; omega)
    have Jr := hide hok
    clear hok
    go_wp2_with fail
    go_ret
    exact ⟨zc, g', rfl, aa Jr, hb'.out, mh, hgr⟩
   ·
    have hpos := (aa bfd) g' zc (hl.out.trans Ki.out.symm) hlt'.out heq.out
    have f1 : IntKind.u64.wrap ((g' : Int) - 1) = ((g' - 1 : Nat) : Int) := by
     have := hb'.out; rw [ic] at this; rw [IntKind.wrap_u64]; omega
    obtain ⟨g2, hg2⟩ : ∃ t, t = g' - 1 := ⟨_, rfl⟩
    rw [← hg2] at f1
    have HG2 := Lib.hid hg2
    have HP := hide hpos
    clear hg2 hpos
    go_wp2_with fail
    refine ((aa bfq) _ zc hl.out hlt'.out mh Yg).mono ?_
    rintro e w2 ⟨zr', c2, rfl, Nv, hz', hg'⟩
    obtain ⟨k1, k2, k3, k4⟩ := (aa aeq) g' zc zr' c2 (hl.out.trans Ki.out.symm) hlt'.out hq'.out heq.out Nv
    have hc2 := Nv.c1
    have K0 := hide Nv.lt
    have K2 := hide k2; have K3 := Lib.hid (k3.trans Ki.out); have K4 := Lib.hid k4
    have agu := Vx hgr hg'
    clear k1 k2 k3 k4 Nv hg'
    rcases (show c2 = 0 ∨ c2 = 1 by omega) with rfl | rfl
    ·
     go_wp2_with fail
     go_roundw
     case rel => exact ⟨g2, 1, zr', rfl, rfl, by omega, K3, K0, by rw [HG2.out]; exact K2, by rw [HG2.out]; exact Nat.lt_of_le_of_lt (Nat.sub_le _ _) hb'.out, by rw [HG2.out]; exact K4, hz', agu⟩
     case measure => have h1 := HG2.out; have h2 := HP.out; simp [intOf]; omega
    ·
     go_wp2_with fail
     go_roundw
     case rel => exact ⟨g2, 0, zr', rfl, rfl, by omega, K3, K0, by rw [HG2.out]; exact K2, by rw [HG2.out]; exact Nat.lt_of_le_of_lt (Nat.sub_le _ _) hb'.out, by rw [HG2.out]; exact K4, hz', agu⟩
     case measure => have h1 := HG2.out; have h2 := HP.out; simp [intOf]; omega
end Go.Proofs.YtjdnmdlnaoedoaaGreatDoor
