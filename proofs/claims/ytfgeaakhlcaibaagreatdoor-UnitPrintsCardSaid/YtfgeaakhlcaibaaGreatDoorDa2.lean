/- Texts beneath a law of layer 1. -/
import Derived.Test.YtfgeaakhlcaibaaGreatDoorDa1
set_option maxRecDepth 100000
set_option maxHeartbeats 16000000
namespace Go.Proofs.YtfgeaakhlcaibaaGreatDoor
open Go.RowKit

theorem aeo {x y b d c : Nat} (hx : x < dh) (hy : y < dh) (hb : b ≤ 1) (hd : d = (x + dh - y - b) % dh) (hc : c = if x < y + b then 1 else 0) :
  d < dh ∧ c ≤ 1 ∧ d + y + b = x + dh * c := by
 rw [gm] at *
 split at hc <;> subst hc <;> omega

theorem Uy (Ax Ay : Option Addr) (cx cy : Nat) (xl yl : List Nat) (n m : Nat) (w : World) (hx : jy w Ax cx xl n) (hy : jy w Ay cy yl m) (hle : m ≤ n) (hk : xl.length ≤ 35184372088832) :
  Calls Tryz.prog 203 #[.slice Ax xl.length cx, .slice Ay yl.length cy] w fun e w' => Es w (n - m) e w' := by
 have hmk := Kk xl.length hk
 have hyx : yl.length ≤ xl.length := by
  apply Classical.byContradiction
  intro h
  have := Wd.uj oh xl yl hx.lt hy.norm om
  rw [hx.val, hy.val] at this
  omega
 go_enter Tryz.func203, Tryz.ntmps203
 go_wp2
 go_loopw [6, 13] (fun bv iv wr => ∃ (i c : Nat) (zc : List Nat), i ≤ xl.length ∧ bv = .int .u64 ((c : Nat) : Int) ∧ iv = .int .i64 ((i : Nat) : Int) ∧ Wd.Di dh xl yl zc i c ∧ ZB .u64 wr w.heap.size 157 zc ∧ Below w.heap.size w wr) (fun _ iv _ => xl.length - (intOf iv).toNat)
 case atStart => exact ⟨0, 0, List.replicate xl.length 0, Nat.zero_le _, rfl, rfl, Wd.Di.start _ _ _ (by simp) (Jd (by rw [gm]; omega) _), heap_alloc_new w _, (Below.refl _ _).alloc (Nat.le_refl _) _⟩
 case round =>
  obtain ⟨i, c, zc, hi, rfl, rfl, hinv, ko, hg⟩ := hrel
  have hlen := hinv.len
  have hc1 := hinv.b1
  have HI := Lib.hid hinv
  clear hinv
  by_cases hlt : i < xl.length
  ·
   obtain ⟨bx, ox, rfl, hbx, hcx⟩ := hx.ws om
   have Dg := (hg.cell (p := ⟨bx, ox + i, none⟩) hbx).trans (hcx i hlt)
   clear hcx
   have hzc := ko.cell i om
   have Mj := ko.frozen i
   have hyr : jy wr Ay cy yl m := hy.below hg
   have bod := hx.cap2
   have boe := hx.qp
   obtain ⟨xi, hxi⟩ : ∃ xi, xi = Wd.g xl i := ⟨_, rfl⟩
   obtain ⟨yi, hyi⟩ : ∃ yi, yi = Wd.g yl i := ⟨_, rfl⟩
   obtain ⟨d, hd⟩ : ∃ d, d = (xi + dh - yi - c) % dh := ⟨_, rfl⟩
   obtain ⟨q, hq⟩ : ∃ q, q = if xi < yi + c then 1 else 0 := ⟨_, rfl⟩
   have hsub := axt xi yi c hc1
   rw [← hxi] at Dg
   rw [← hd, ← hq] at hsub
   have hfin : ∀ W, W = wr.drew.setCell ⟨w.heap.size, i, none⟩ (.int .u64 (d : Int)) → Wd.Di dh xl yl (zc.set i d) (i + 1) q ∧ ZB .u64 W w.heap.size 157 (zc.set i d) ∧ Below w.heap.size w W := by
    rintro W rfl
    obtain ⟨e1, e2, e3⟩ := aeo (by rw [hxi]; exact Wd.getD_lt (by rw [gm]; omega) _ hx.lt i) (by rw [hyi]; exact Wd.getD_lt (by rw [gm]; omega) _ hy.lt i) hc1 hd hq
    rw [hxi, hyi] at e3
    exact ⟨HI.out.step hlt e1 e2 e3, (ko.drew).Az _ _, hg.drew.setCell (by simp) _⟩
   have HF := hide hfin
   have HYI := Lib.hid hyi
   clear hfin ko hg hd hq hxi hyi
   go_wp2_with fail
   go_region_with (go_at_call 214; refine (Jj Ay cy yl wr.heap.size i _ (by exact hyr.ws) hyr.qp hyr.cap2 om).mono ?_; rintro e w' ⟨rfl, rfl⟩; rw [← HYI.out])
   all_goals
    go_wp2
    go_roundw
    case rel =>
     obtain ⟨r1, r2, r3⟩ := (aa HF) _ rfl
     exact ⟨i + 1, q, zc.set i d, by omega, rfl, by go_num, r1, r2, r3⟩
    case measure => simp [intOf]; omega
  ·
   have e : i = xl.length := by omega
   subst e
   have hlt2 := HI.out.lt
   have hv := HI.out.bch hyx (by rw [hx.val, hy.val]; exact hle)
   rw [hx.val, hy.val] at hv
   have HV := Lib.hid hv
   have rq := hide hlt2
   clear hv hlt2
   have bod := hx.cap2
   have boe := hx.qp
   go_wp2_with fail
   have htr := Cx (some ⟨w.heap.size, 0, none⟩) zc.length zc (wr.heap.size) wr (ko.Dw _ ko.lt) (Nat.le_refl _) om
   rw [hlen] at htr
   refine htr.mono ?_
   rintro e w' ⟨⟨k, rfl, ht, hk2⟩, rfl⟩
   go_wp2_with fail
   go_ret
   have hk3 : k = (zc.take k).length := by simp; omega
   refine ⟨some ⟨w.heap.size, 0, none⟩, xl.length, zc.take k, Hd hk3, ?_, hg⟩
   have := jy.Bq (cap := xl.length) ko (aa rq) ht om om om
   rwa [HV.out] at this

theorem ajv (x y : Nat) (w : World) : (callFunc 231 #[.int .u64 (x : Int), .int .u64 (y : Int), .int .u64 0]).run Tryz.prog w =
  .ok (.value (.tuple #[.int .u64 (((x + dh - y - 0) % dh : Nat) : Int), .int .u64 ((if x < y + 0 then 1 else 0 : Nat) : Int)])) w := axt x y 0 om w

theorem apb {p c z hi lo s1 q1 h1 d b r : Nat} (hp : p + c < dh * dh) (hz : z < dh) (hhi : hi = p / dh) (hlo : lo = p % dh) (hs1 : s1 = (lo + c) % dh) (hq1 : q1 = (lo + c) / dh) (Tz : h1 = hi + q1)
  (hd : d = (z + dh - s1 - 0) % dh) (hb : b = if z < s1 + 0 then 1 else 0) (hr : r = h1 + b) (hpb : p ≤ (dh - 1) * (dh - 1)) (hc : c < dh) :
  d < dh ∧ hi + q1 < dh ∧ h1 + b < dh ∧ p + c = h1 * dh + s1 ∧ d + s1 = z + dh * b := by
 rw [gm] at *
 split at hb <;> subst hb <;> omega

theorem bbl {a b B : Nat} (ha : a < B) (hb : b < B) : a * b ≤ (B - 1) * (B - 1) := Nat.mul_le_mul om om

theorem aaw (b off cap T : Nat) (us ul vl : List Nat) (Av : Option Addr) (cv : Nat) (B : Nat) (k : Nat) (w : World)
  (hz : ZB .u64 w b T us) (hoff : off + ul.length ≤ us.length) (Kn : ul = (us.drop off).take ul.length) (hcz : ul.length ≤ cap) (aha : cap ≤ 9223372036854775807)
  (hv : Ws .u64 w B Av vl) (hB : B ≤ b) (hcv : vl.length ≤ cv) (ano : cv ≤ 9223372036854775807) (huv : ul.length = vl.length + 1)
  (hlu : ∀ x ∈ ul, x < dh) (hlv : ∀ x ∈ vl, x < dh) (hkB : k < dh) :
  Calls Tryz.prog 247 #[.slice (some ⟨b, off, none⟩) ul.length cap, .slice Av vl.length cv, .int .u64 ((k : Nat) : Int)] w fun e w' =>
   ∃ zr c, e = .returned (.bool (decide (c = 1))) ∧ zr.length = ul.length ∧ (∀ x ∈ zr, x < dh) ∧ Wd.val dh zr + k * Wd.val dh vl = Wd.val dh ul + dh ^ ul.length * c ∧ c ≤ 1 ∧ ZB .u64 w' b T (win us off zr) ∧ w.grownBy w' (some b) := by
 have HUL := Lib.hid Kn
 have Ir := Lib.hid huv
 have buj : vl.length < ul.length := by omega
 clear Kn huv
 go_enter Tryz.func247, Tryz.ntmps247
 go_wp2
 go_loopw [7, 16] (fun cv iv wr => ∃ (i c : Nat) (zc : List Nat), i ≤ vl.length ∧ cv = .int .u64 ((c : Nat) : Int) ∧ iv = .int .i64 ((i : Nat) : Int) ∧ Hid (Wd.Ar dh ul vl zc k i c) ∧ ZB .u64 wr b T (win us off zc) ∧ w.grownBy wr (some b)) (fun _ iv _ => vl.length - (intOf iv).toNat)
 case atStart => exact ⟨0, 0, ul, Nat.zero_le _, rfl, rfl, Wd.Ar.start _ _ _ (by rw [gm]; omega) hlu, by rw [HUL.out, Jf _ _ _ hoff]; exact hz, qb _ _⟩
 case round =>
  obtain ⟨i, c, zc, hi, rfl, rfl, HI, ko, hg⟩ := hrel
  have hlen := HI.out.len
  have hwl := win_length us off zc om
  have hBw := hz.lt
  by_cases hlt : i < vl.length
  ·
   obtain ⟨bv, ov, hA, hbv, bgr⟩ := (hv.grown hg (Nat.le_trans hB (Nat.le_of_lt hBw)) (fun g e => by injection e with e; omega)) om
   subst hA
   have hvc := bgr i hlt
   clear bgr
   have hzc := ko.cell (off + i) om
   rw [Jt us off zc om i om] at hzc
   have Mj := ko.frozen (off + i)
   obtain ⟨vi, hvi⟩ : ∃ t, t = Wd.g vl i := ⟨_, rfl⟩
   obtain ⟨z, hz2⟩ : ∃ t, t = Wd.g zc i := ⟨_, rfl⟩
   rw [← hvi] at hvc
   rw [← hz2] at hzc
   have hvB : vi < dh := by rw [hvi]; exact Wd.getD_lt (by rw [gm]; omega) _ hlv i
   have Fb : z < dh := by rw [hz2]; exact Wd.getD_lt (by rw [gm]; omega) _ HI.out.lt _
   obtain ⟨hi', hhi⟩ : ∃ t, t = k * vi / dh := ⟨_, rfl⟩
   obtain ⟨lo, hlo⟩ : ∃ t, t = k * vi % dh := ⟨_, rfl⟩
   obtain ⟨s1, hs1⟩ : ∃ t, t = (lo + c) % dh := ⟨_, rfl⟩
   obtain ⟨q1, hq1⟩ : ∃ t, t = (lo + c) / dh := ⟨_, rfl⟩
   obtain ⟨h1, Tz⟩ : ∃ t, t = hi' + q1 := ⟨_, rfl⟩
   obtain ⟨d, hd⟩ : ∃ t, t = (z + dh - s1 - 0) % dh := ⟨_, rfl⟩
   obtain ⟨b2, hb2⟩ : ∃ t, t = if z < s1 + 0 then 1 else 0 := ⟨_, rfl⟩
   obtain ⟨r, hr⟩ : ∃ t, t = h1 + b2 := ⟨_, rfl⟩
   have hpl := bbl hkB hvB
   obtain ⟨e0, e1, e2, e3, e4⟩ := apb (by have := Wd.Kj hkB hvB HI.out.c1 Fb; omega) Fb hhi hlo hs1 hq1 Tz hd hb2 hr hpl HI.out.c1
   have ha1 := abu lo c
   rw [← hs1, ← hq1] at ha1
   have ha2 := ajv z s1
   rw [← hd, ← hb2] at ha2
   have hw1 := Qk Tz (by rw [Tz]; exact e1)
   have hw2 := Qk hr (by rw [hr]; exact e2)
   have hmul := Tm k vi hkB hvB
   rw [← hhi, ← hlo] at hmul
   have axm := hide hmul
   have hfin : ∀ W, W = wr.setCell ⟨b, off + i, none⟩ (.int .u64 (d : Int)) → Hid (Wd.Ar dh ul vl (zc.set i d) k (i + 1) r) ∧ ZB .u64 W b T (win us off (zc.set i d)) ∧ w.grownBy W (some b) := by
    rintro W rfl
    refine ⟨?_, ?_, kz hg _ _⟩
    ·
     rw [hr]
     refine HI.out.step (lo := s1) om e0 e2 ?_ ?_
     ·
      rw [← Wd.qa, ← hvi]; exact e3
     ·
      rw [← Wd.qa, ← hz2]; exact e4
    ·
     rw [← Ev us off zc om i d om]
     exact ko.Az _ _
   have HF := hide hfin
   clear hfin hmul hhi hlo hs1 hq1 Tz hd hb2 hr e0 e1 e2 e3 e4 hvi hz2 hvB Fb ko hg hz hpl
   go_wp2_with fail
   refine ((aa axm) _).mono ?_
   rintro e w' ⟨rfl, rfl⟩
   go_wp2_with fail
   go_roundw
   case rel =>
    obtain ⟨r1, r2, r3⟩ := (aa HF) _ rfl
    exact ⟨i + 1, r, zc.set i d, by omega, rfl, by go_num, r1, r2, r3⟩
   case measure => simp [intOf] <;> omega
  ·
   have e : i = vl.length := by omega
   subst e
   have hzc := ko.cell (off + vl.length) om
   rw [Jt us off zc om vl.length om] at hzc
   have Mj := ko.frozen (off + vl.length)
   obtain ⟨z, hz2⟩ : ∃ t, t = Wd.g zc vl.length := ⟨_, rfl⟩
   rw [← hz2] at hzc
   have Fb : z < dh := by rw [hz2]; exact Wd.getD_lt (by rw [gm]; omega) _ HI.out.lt _
   obtain ⟨d, hd⟩ : ∃ t, t = (z + dh - c - 0) % dh := ⟨_, rfl⟩
   obtain ⟨b2, hb2⟩ : ∃ t, t = if z < c + 0 then 1 else 0 := ⟨_, rfl⟩
   have ha2 := ajv z c
   rw [← hd, ← hb2] at ha2
   obtain ⟨e0, e1, e2⟩ := aeo Fb HI.out.c1 (Nat.zero_le 1) hd hb2
   have hfin : ∀ W, W = wr.setCell ⟨b, off + vl.length, none⟩ (.int .u64 (d : Int)) → (zc.set vl.length d).length = ul.length ∧ (∀ x ∈ zc.set vl.length d, x < dh) ∧ Wd.val dh (zc.set vl.length d) + k * Wd.val dh vl = Wd.val dh ul + dh ^ ul.length * b2 ∧ b2 ≤ 1 ∧ ZB .u64 W b T (win us off (zc.set vl.length d)) ∧ w.grownBy W (some b) := by
    rintro W rfl
    refine ⟨by simp [hlen], Wd.xk _ _ _ HI.out.lt e0, HI.out.done Ir.out (by rw [← Wd.qa, ← hz2]; omega), e1, ?_, kz hg _ _⟩
    rw [← Ev us off zc om _ d om]
    exact ko.Az _ _
   have HF := hide hfin
   have hne : ((b2 : Int) != 0) = decide (b2 = 1) := by
    have : b2 = 0 ∨ b2 = 1 := by omega
    rcases this with h | h <;> rw [h] <;> rfl
   clear hfin hd hb2 e0 e1 e2 hz2 Fb ko hg hz
   have buk : (ul.length : Int) - 1 = (vl.length : Int) := by have := Ir.out; omega
   go_wp2_with fail
   go_ret
   exact ⟨_, b2, rfl, (aa HF) _ rfl⟩
end Go.Proofs.YtfgeaakhlcaibaaGreatDoor
