/- Texts beneath a law of layer 1. -/
import Derived.Test.YtfbcdfoohpkfeaaGreatDoorCq8
set_option maxRecDepth 100000
namespace Go.Proofs.YtfbcdfoohpkfeaaGreatDoor
open Go.RowKit

theorem aou (y : Nat) (hy : y < ic) (h0 : 0 < y) (w : World) : ∃ s : Nat, s < 32 ∧ 2147483648 ≤ y * 2 ^ s ∧ y * 2 ^ s < ic ∧
  ∀ w : World, Calls Tryz.prog 183 #[.int .u32 ((y : Nat) : Int)] w fun e w' => e = .returned (.int .i64 ((s : Nat) : Int)) ∧ w' = w := by
 obtain ⟨h1, h2⟩ := Rq 64 y (by rw [iw] at hy; omega)
 have h3 := (h2 om).1
 change y < 2 ^ Lib.bitLen y at h1
 change 2 ^ (Lib.bitLen y - 1) ≤ y at h3
 have hle := Lib.bitLen_le y 32 om (by rw [iw] at hy; omega)
 have hpos : 0 < Lib.bitLen y := by
  apply Classical.byContradiction
  intro h
  rw [show Lib.bitLen y = 0 by omega] at h1
  simp at h1; omega
 have e1 : 2 ^ (Lib.bitLen y - 1) * 2 ^ (32 - Lib.bitLen y) = 2147483648 := by
  rw [← Nat.pow_add, show Lib.bitLen y - 1 + (32 - Lib.bitLen y) = 31 by omega]
 have e2 : 2 ^ Lib.bitLen y * 2 ^ (32 - Lib.bitLen y) = ic := by
  rw [← Nat.pow_add, show Lib.bitLen y + (32 - Lib.bitLen y) = 32 by omega]; rfl
 refine ⟨32 - Lib.bitLen y, by omega, ?_, ?_, fun w => ?_⟩
 ·
  rw [← e1]; exact Nat.mul_le_mul_right _ h3
 ·
  rw [← e2]; exact Nat.mul_lt_mul_of_pos_right h1 (Nat.pow_pos om)
 ·
  refine (Tryz.bits_LeadingZeros32 (y : Int) w om (by rw [iw] at hy; omega)).mono ?_
  rintro e w' ⟨rfl, rfl⟩
  refine ⟨ym ?_, rfl⟩
  rw [Int.toNat_natCast]; omega

theorem aar (yl : List Nat) (m s : Nat) (avg : s ≤ 32) (hn : 1 ≤ yl.length) (hlt : ∀ x ∈ yl, x < ic) (hv : Wd.val ic yl = m) (hs1 : yl.getD (yl.length - 1) 0 * 2 ^ s < ic) (ht : yl.getD (yl.length - 1) 0 ≠ 0) :
  ic ^ (yl.length - 1) * 2 ^ s ≤ m * 2 ^ s ∧ m * 2 ^ s < ic ^ yl.length := by
 have h2 := Wd.uu ic yl (yl.length - 1) om
 rw [show yl.length - 1 + 1 = yl.length by omega, Wd.lu _ _ _ (Nat.le_refl _), hv] at h2
 have h3 := Wd.Cn (B := ic) (yl.take (yl.length - 1)) (fun x hx => hlt x (List.mem_of_mem_take hx))
 rw [List.length_take, Nat.min_eq_left om] at h3
 have e : ic ^ yl.length = ic ^ (yl.length - 1) * ic := by rw [← Nat.pow_succ, show (yl.length - 1).succ = yl.length by omega]
 rw [e]
 generalize hP : ic ^ (yl.length - 1) = P at *
 generalize yl.getD (yl.length - 1) 0 = t at *
 have hS : 0 < 2 ^ s := Nat.pow_pos om
 have hsp := Dq s avg
 generalize 2 ^ s = S at *
 generalize 2 ^ (32 - s) = T at *
 have h6 : t * S + S ≤ ic := by
  rw [← hsp, Nat.mul_comm S] at hs1 ⊢
  have := Nat.lt_of_mul_lt_mul_right hs1
  have h7 : (t + 1) * S ≤ T * S := Nat.mul_le_mul_right _ this
  rwa [Nat.add_mul, Nat.one_mul] at h7
 constructor
 ·
  refine Nat.mul_le_mul_right _ ?_
  have : P * 1 ≤ P * t := Nat.mul_le_mul_left _ om
  omega
 ·
  have h4 : m + 1 ≤ P * (t + 1) := by rw [Nat.mul_add, Nat.mul_one]; omega
  have h5 : (m + 1) * S ≤ P * (t + 1) * S := Nat.mul_le_mul_right _ h4
  rw [Nat.add_mul, Nat.one_mul, Nat.mul_assoc, Nat.add_mul, Nat.one_mul] at h5
  have : P * (t * S + S) ≤ P * ic := Nat.mul_le_mul_left _ h6
  omega

theorem ael (Ax : Option Addr) (cx : Nat) (xl : List Nat) (n s : Nat) (w : World) (hx : vg w Ax cx xl n) (hs : s < 32) (hk : xl.length + 1 ≤ 35184372088832) :
  Calls Tryz.prog 184 #[.slice Ax xl.length cx, .int .u64 ((s : Nat) : Int)] w fun e w' =>
   ∃ b zr, e = .returned (.slice (some ⟨b, 0, none⟩) (xl.length + 1) (xl.length + 1)) ∧ w.heap.size ≤ b ∧ zr.length = xl.length + 1 ∧ (∀ x ∈ zr, x < ic) ∧ Wd.val ic zr = n * 2 ^ s ∧ ZB .u32 w' b 156 zr ∧ Below w.heap.size w w' :=
 (ahw Ax cx xl n s w hx hs hk).mono fun e w' ⟨zr, h1, h2, h3, h4, h5, h6⟩ => ⟨w.heap.size, zr, h1, Nat.le_refl _, h2, h3, h4, h5, h6⟩
end Go.Proofs.YtfbcdfoohpkfeaaGreatDoor
namespace Go.Proofs.YtfbcdfoohpkfeaaGreatDoor
open Go.RowKit

set_option maxHeartbeats 2000000 in
theorem akz (Ax Ay : Option Addr) (cx cy : Nat) (xl yl : List Nat) (n m : Nat) (w : World) (hx : vg w Ax cx xl n) (hy : vg w Ay cy yl m) (hge : ¬ n < m) (hk : xl.length + 1 ≤ 35184372088832) (hk2 : yl.length + 1 ≤ 35184372088832) (hn2 : 2 ≤ yl.length) :
  Calls Tryz.prog 158 #[.slice Ax xl.length cx, .slice Ay yl.length cy] w fun e w' => aae w (n / m) (n % m) e w' := by
 have hx1 := hx.wh; have hx2 := hx.cap2; have hy1 := hy.wh; have hy2 := hy.cap2
 have hny : yl.length ≤ xl.length := by
  rcases Nat.lt_or_ge xl.length yl.length with h | h
  ·
   exfalso; apply hge; rw [← hx.val, ← hy.val]; exact Wd.Aq Cf xl yl hx.lt hy.norm h
  ·
   exact h
 have hc := Ng Ax Ay cx cy xl yl n m w hx hy
 obtain ⟨o3, ho3⟩ : ∃ o, o = yo n m := ⟨_, rfl⟩
 rw [← ho3] at hc
 have ho : decide (o3 < 0) = false := decide_eq_false (by rw [ho3]; unfold yo; rw [if_neg hge]; split <;> omega)
 have HC := hide hc
 have hb1 : ((yl.length : Int) == 1) = false := by simp; omega
 obtain ⟨by', oy, hA, hby, hcy⟩ := hy.ws om
 subst hA
 have hyt := hcy (yl.length - 1) om
 obtain ⟨yt, Ii⟩ : ∃ t, t = Wd.g yl (yl.length - 1) := ⟨_, rfl⟩
 rw [← Ii] at hyt
 have Dw : yt < ic := by rw [Ii]; exact Wd.getD_lt (by rw [iw]; omega) _ hy.lt _
 have hy0 : yt ≠ 0 := by
  rw [Ii]
  rcases hy.norm with h | h
  ·
   rw [h] at hn2; simp at hn2
  ·
   exact h
 have hm : 0 < m := by
  rcases Nat.eq_zero_or_pos m with h | h
  ·
   exfalso
   have h1 := asw (B := ic) yl yl.length om rfl
   rw [hy.val, h] at h1
   have h2 : 0 < ic ^ (yl.length - 1) := Nat.pow_pos (by rw [iw]; omega)
   have h3 := Nat.mul_pos (Nat.pos_of_ne_zero (show yl.getD (yl.length - 1) 0 ≠ 0 by rw [← Wd.vk, ← Ii]; exact hy0)) h2
   omega
  ·
   exact h
 obtain ⟨s, hs, hs1, hs2, hlz⟩ := aou yt Dw om w
 obtain ⟨vb1, vb2⟩ := aar yl m s om om hy.lt hy.val (by rw [← Wd.vk, ← Ii]; exact hs2) (by rw [← Wd.vk, ← Ii]; exact hy0)
 obtain ⟨lq, hlq⟩ : ∃ t, t = xl.length + 1 - yl.length := ⟨_, rfl⟩
 have Xm : ((lq : Nat) : Int) = (xl.length : Int) + 1 - (yl.length : Int) := by omega
 have hmk := Zb lq om
 rw [Xm] at hmk
 have biz : lq + yl.length = xl.length + 1 := by omega
 have es : IntKind.u64.wrap (s : Int) = (s : Int) := kz rfl (by rw [jg]; omega)
 have HLZ := hide hlz
 have HLQ := Lib.hid Xm
 have HYT := Lib.hid Ii
 have Wt := hide vb1; have Qj := hide vb2
 clear hlz Ii hcy vb1 vb2 hs1 hs2 Xm hlq hc ho3 hge
 go_enter Tryz.func158, Tryz.ntmps158
 go_wp2_with fail
 refine (aa HC).mono ?_
 rintro e w' ⟨rfl, k, rfl⟩
 go_wp2_with fail
 refine ((aa HLZ) _).mono ?_
 rintro e w1 ⟨rfl, hw1⟩
 have Jc : Below w.heap.size w w1 := by rw [hw1]; exact xy (Below.refl _ _) k
 clear hw1
 go_wp2_with fail
 refine (ael Ax cx xl n s w1 (hx.below Jc) hs hk).mono ?_
 rintro e w2 ⟨bu, uz, rfl, hbu, Mh, ava, huv, Wo, hb2⟩
 have bil := (hy.below Jc).below hb2
 have HUL := Lib.hid Mh
 have Kj := Lib.hid huv
 clear Mh huv
 go_wp2_with fail
 refine (ael _ cy yl m s w2 bil hs hk2).mono ?_
 rintro e w4 ⟨bv, vz, rfl, hbv, hvl, Xl, hvv, Rj, hb3⟩
 have HVL := Lib.hid hvl; have HVV := Lib.hid hvv
 have buu : bu < bv := Nat.lt_of_lt_of_le Wo.lt hbv
 replace Wo := Wo.below hb3 Wo.lt
 clear hvl hvv
 go_wp2_with fail
 have htr := Dp (some ⟨bv, 0, none⟩) vz.length vz w4.heap.size w4 (Rj.Ff _ Rj.lt) (Nat.le_refl _) (by have := HVL.out; omega)
 rw [HVL.out] at htr
 refine htr.mono ?_
 rintro e w3 ⟨⟨kv, rfl, ht, hkv⟩, hw3⟩
 obtain rfl : w4 = w3 := hw3.symm
 clear hw3
 have Im : (vz.take kv).length = yl.length := by
  refine Wl Cf _ ht.norm (fun x hx => Xl x (List.mem_of_mem_take hx)) _ om ?_ ?_
  ·
   rw [ht.val, HVV.out]; exact Nat.le_trans (Nat.le_mul_of_pos_right _ (Nat.pow_pos om)) (aa Wt)
  ·
   rw [ht.val, HVV.out]; exact aa Qj
 have avi : kv = yl.length := by have := HVL.out; rw [List.length_take] at Im; omega
 subst avi
 have HT := hide ht; have HVN := Lib.hid Im
 have Xo : Below w.heap.size w w4 := Jc.trans ((hb2.mono Jc.size).trans (hb3.mono (Nat.le_trans Jc.size hb2.size)))
 clear ht Im
 obtain ⟨V, hV⟩ : ∃ t, t = m * 2 ^ s := ⟨_, rfl⟩
 have Zp : Wd.val ic (vz.take yl.length) = V := by rw [(aa HT).val, HVV.out, hV]
 have age : V < ic ^ yl.length := by rw [hV]; exact aa Qj
 have Jl : 0 < V := by rw [hV]; exact Nat.mul_pos hm (Nat.pow_pos om)
 have htop : Wd.val ic uz < V * ic ^ lq := by
  rw [Kj.out, hV]
  have h1 := Wd.Cn xl hx.lt
  rw [hx.val] at h1
  have h2 := aa Wt
  have h3 : ic ^ (yl.length - 1) * ic ^ lq = ic ^ xl.length := by rw [← Nat.pow_add, show yl.length - 1 + lq = xl.length by omega]
  have h4 : ic ^ (yl.length - 1) * 2 ^ s * ic ^ lq ≤ m * 2 ^ s * ic ^ lq := Nat.mul_le_mul_right _ h2
  have h5 : n * 2 ^ s < ic ^ xl.length * 2 ^ s := Nat.mul_lt_mul_of_pos_right h1 (Nat.pow_pos om)
  have h6 : ic ^ (yl.length - 1) * 2 ^ s * ic ^ lq = ic ^ xl.length * 2 ^ s := by
   rw [← h3]; simp only [Nat.mul_comm, Nat.mul_left_comm, Nat.mul_assoc]
  omega
 have hstart : Wd.Ba ic V uz uz (List.replicate lq 0) lq := Wd.Ba.start _ _ _ ava (Kq (by rw [iw]; omega) _) (by simp) htop
 have aln : Ws .u32 w4 (bv + 1) (some ⟨bv, 0, none⟩) (vz.take yl.length) := (Rj.Ff _ (Nat.lt_succ_self _)).Pj _
 have hgt : ∀ i, i < yl.length → Wd.g vz i = Wd.g (vz.take yl.length) i := fun i hi => by rw [Wd.vk, Wd.vk, Wd.getD_take _ _ _ hi]
 have hvt := Rj.cell (yl.length - 1) (by have := HVL.out; omega)
 have auz := Rj.cell (yl.length - 2) (by have := HVL.out; omega)
 rw [hgt _ om] at hvt auz
 obtain ⟨top, htp⟩ : ∃ t, t = Wd.g (vz.take yl.length) (yl.length - 1) := ⟨_, rfl⟩
 obtain ⟨next, hnx⟩ : ∃ t, t = Wd.g (vz.take yl.length) (yl.length - 2) := ⟨_, rfl⟩
 rw [← htp] at hvt
 rw [← hnx] at auz
 have Ux : top < ic := by rw [htp]; exact Wd.getD_lt (by rw [iw]; omega) _ (fun x hx => Xl x (List.mem_of_mem_take hx)) _
 have hnB : next < ic := by rw [hnx]; exact Wd.getD_lt (by rw [iw]; omega) _ (fun x hx => Xl x (List.mem_of_mem_take hx)) _
 have et : IntKind.u64.wrap (top : Int) = (top : Int) := kz rfl (by rw [iw] at Ux; rw [jg]; omega)
 have en : IntKind.u64.wrap (next : Int) = (next : Int) := kz rfl (by rw [iw] at hnB; rw [jg]; omega)
 have hv4 : bv < w4.heap.size := Rj.lt
 have hu4 : bu < w4.heap.size := Wo.lt
 have f1 : IntKind.i64.wrap ((yl.length : Int) - 1) = (yl.length : Int) - 1 := IntWalk.i64_in _ om
 have f2 : (0 : Int) ≤ (yl.length : Int) - 1 := by omega
 have f3 : ((yl.length : Int) - 1).toNat = yl.length - 1 := by omega
 have f4 : IntKind.i64.wrap ((yl.length : Int) - 2) = (yl.length : Int) - 2 := IntWalk.i64_in _ om
 have f5 : (0 : Int) ≤ (yl.length : Int) - 2 := by omega
 have f6 : ((yl.length : Int) - 2).toNat = yl.length - 2 := by omega
 have i1 : ¬ (bv = w4.heap.size) := by omega
 have i2 : ¬ (w4.heap.size = bv) := by omega
 have Tz := Lib.hid Zp; have ahf := hide age; have HV0 := hide Jl; have awh := Lib.hid hV; have HST := hide hstart
 have HTP := Lib.hid htp; have HNX := Lib.hid hnx; have Yd := hide (And.intro hv4 hu4)
 have bja : 0 < lq := by omega
 clear Zp age hV hstart htop hyt hy0 htp hnx hgt Ux hnB
 go_wp2_with fail
 go_quiet (fail)
 go_wp2_with fail
 go_loopw [16] (fun iv wr => ∃ (i : Int) (us qs : List Nat), -1 ≤ i ∧ i < lq ∧ iv = .int .i64 i ∧ Hid (Wd.Ba ic V uz us qs (i + 1).toNat) ∧ Hid (qs.length = lq) ∧ ZB .u32 wr bu 156 us ∧ ZB .u32 wr w4.heap.size 156 qs ∧ Ws .u32 wr (bv + 1) (some ⟨bv, 0, none⟩) (vz.take yl.length) ∧ Below w.heap.size w wr ∧ w4.heap.size < wr.heap.size) (fun iv _ => (intOf iv + 1).toNat)
 case atStart =>
  refine ⟨(lq : Int) - 1, uz, List.replicate lq 0, by omega, by omega, rfl, ?_, by show _ = _; simp, (Wo.alloc _).drewN _, ZB.drewN (heap_alloc_new w4 _) _, (aln.alloc om _).drewN _, xy (Xo.alloc Xo.size _) _, by show w4.heap.size < (w4.alloc _).heap.size; simp⟩
  rw [show ((lq : Int) - 1 + 1).toNat = lq by omega]
  exact HST
 case round =>
  clear Wo Rj aln hvt auz
  obtain ⟨i, us, qs, hi1, hi2, rfl, HI, Ml, Oi, hqz, Wn, hbr, ave⟩ := hrel
  obtain ⟨wo, rfl⟩ : ∃ wo : World, wo = wr := ⟨_, rfl⟩
  by_cases h0 : i < 0
  ·
   have e : i = -1 := by omega
   subst e
   obtain ⟨v1, v2⟩ := HI.out.done
   have hS : 0 < 2 ^ s := Nat.pow_pos om
   obtain ⟨sd1, sd2⟩ := Wd.Sd (N := n) (Y := m) (S := 2 ^ s) hS
   rw [Kj.out, awh.out] at v1 v2
   rw [sd1] at v1
   have v3 : Wd.val ic us / 2 ^ s = n % m := by rw [v2]; exact sd2
   have V1 := Lib.hid v1; have V3 := Lib.hid v3
   have Lb : us.length = xl.length + 1 := HI.out.Dg.trans HUL.out
   have awl := hide HI.out.lt; have awk := hide HI.out.ltq
   have Lc := Dp (some ⟨bu, 0, none⟩) us.length us wo.heap.size wo (Oi.Ff _ Oi.lt) (Nat.le_refl _) om
   rw [Lb] at Lc
   have T2 := hide Lc
   have Qt := Lib.hid Lb
   clear v1 v2 sd1 sd2 v3 Lc Lb HI Wn
   go_wp2_with fail
   refine (aa T2).mono ?_
   rintro e w6 ⟨⟨k2, rfl, ht2, bbw⟩, Uw⟩
   obtain rfl : wo = w6 := Uw.symm
   clear Uw
   obtain ⟨rl, hrl⟩ : ∃ l, l = us.take k2 := ⟨_, rfl⟩
   have hrlen : rl.length = k2 := by rw [hrl, List.length_take]; have := Qt.out; omega
   have hrv : Wd.val ic rl = Wd.val ic us := by rw [hrl]; exact ht2.val _
   have bbo : ∀ x ∈ rl, x < ic := fun x hx => (aa awl) x (by rw [hrl] at hx; exact List.mem_of_mem_take hx)
   have hwin : win us 0 rl = us := by
    have := Kr us 0 k2 (by have := Qt.out; omega)
    rw [List.drop_zero, ← hrl] at this
    exact this
   have bul : k2 ≤ us.length := by rw [Qt.out]; exact bbw
   have HRV := Lib.hid hrv; have awi := hide bbo; have bkh := Lib.hid hwin; have aah := Lib.hid hrlen
   have buk : k2 ≤ xl.length + 1 := by have := Qt.out; omega
   have HQZ := hide hqz
   clear hrv bbo hwin hrlen hrl ht2 bbw T2
   go_wp2_with fail
   go_loopw [18] (fun iv wr => ∃ (i : Nat) (zc : List Nat), i ≤ k2 ∧ iv = .int .i64 ((i : Nat) : Int) ∧ Hid (Wd.Er ic (2 ^ s) rl zc i) ∧ Hid (∀ j, i ≤ j → zc.getD j 0 = rl.getD j 0) ∧ ZB .u32 wr bu 156 (win us 0 zc) ∧ Hid (ZB .u32 wr w4.heap.size 156 qs) ∧ Below w.heap.size w wr) (fun iv _ => k2 - (intOf iv).toNat)
   case atStart => exact ⟨0, rl, Nat.zero_le _, rfl, Wd.Er.start _ _ rfl (aa awi), fun _ _ => rfl, by rw [bkh.out]; exact Oi, HQZ, hbr⟩
   case round =>
    clear Oi hqz HQZ hbr
    obtain ⟨i, zc, hi, rfl, HI, Fy, qd, HQZ, hbr⟩ := hrel
    have hzl : zc.length = k2 := HI.out.len.trans aah.out
    by_cases hlt : i < k2
    ·
     have gz : ∀ t, t < k2 → Wd.g (win us 0 zc) t = Wd.g zc t := fun t ht => by
      have := Ll us 0 zc om t om
      rwa [Nat.zero_add] at this
     obtain ⟨x, hx'⟩ : ∃ t, t = Wd.g rl i := ⟨_, rfl⟩
     have Fs := qd.cell i (by rw [win_length _ _ _ om]; omega)
     rw [gz i hlt, show Wd.g zc i = Wd.g rl i from Fy.out i (Nat.le_refl _), ← hx'] at Fs
     have Og := qd.frozen i
     have Aj : x < ic := by rw [hx']; exact Wd.getD_lt (by rw [iw]; omega) _ (aa awi) _
     obtain ⟨v, hv⟩ : ∃ t, t = x / 2 ^ s := ⟨_, rfl⟩
     have hvB : v < ic := Nat.lt_of_le_of_lt (by rw [hv]; exact Nat.div_le_self _ _) Aj
     have m1 : (x : Int) / 2 ^ s = (v : Int) := by rw [hv]; simp
     have m1' : (x : Int) / 2 ^ (min s 32) = (v : Int) := by rw [Nat.min_eq_left om]; exact m1
     have hset : ∀ (W : World) (y : Nat), ZB .u32 W bu 156 (win us 0 zc) → ZB .u32 (W.setCell ⟨bu, i, none⟩ (.int .u32 (y : Int))) bu 156 (win us 0 (zc.set i y)) := fun W y h => by
      have := Hr us 0 zc om i y om
      rw [Nat.zero_add] at this
      rw [← this]
      exact h.Eb _ _
     by_cases hin : i + 1 < k2
     ·
      have d1 : decide ((i : Int) + 1 < (k2 : Int)) = true := decide_eq_true om
      have d1' : decide (i + 1 < k2) = true := decide_eq_true hin
      obtain ⟨x2, afk⟩ : ∃ t, t = Wd.g rl (i + 1) := ⟨_, rfl⟩
      have bim := qd.cell (i + 1) (by rw [win_length _ _ _ om]; omega)
      rw [gz (i + 1) hin, show Wd.g zc (i + 1) = Wd.g rl (i + 1) from Fy.out (i + 1) om, ← afk] at bim
      have auv : x2 < ic := by rw [afk]; exact Wd.getD_lt (by rw [iw]; omega) _ (aa awi) _
      obtain ⟨p, Bn⟩ : ∃ t, t = x2 * 2 ^ (32 - s) := ⟨_, rfl⟩
      obtain ⟨lo, hlo⟩ : ∃ t, t = p % ic := ⟨_, rfl⟩
      obtain ⟨v2, hv2⟩ : ∃ t, t = v + lo := ⟨_, rfl⟩
      have Rl : p < gy := by
       have h1 : 2 ^ (32 - s) ≤ 2 ^ 32 := Nat.pow_le_pow_right om om
       have h2 : x2 * 2 ^ (32 - s) ≤ x2 * 2 ^ 32 := Nat.mul_le_mul_left _ h1
       rw [Bn]; rw [iw] at auv; rw [jg]; omega
      have hlo2 : lo = x2 % 2 ^ s * 2 ^ (32 - s) := by
       rw [hlo, Bn, ← Dq s om, Nat.mul_mod_mul_right]
      have hvT : v < 2 ^ (32 - s) := by
       rw [hv, Nat.div_lt_iff_lt_mul (Nat.pow_pos om), Nat.mul_comm, Dq s om]; exact Aj
      have Jy : lo < ic := by rw [hlo]; exact Nat.mod_lt _ (by rw [iw]; omega)
      have m2 : IntKind.u64.wrap (x2 : Int) = (x2 : Int) := kz rfl (by rw [iw] at auv; rw [jg]; omega)
      have m3 : IntKind.u64.wrap (32 - (s : Int)) = ((32 - s : Nat) : Int) := kz om (by rw [jg]; omega)
      have m4 : IntKind.u64.wrap ((x2 : Int) * 2 ^ (32 - s)) = (p : Int) := kz (by rw [Bn]; simp) Rl
      have m4' : IntKind.u64.wrap ((x2 : Int) * 2 ^ (min (32 - s) 64)) = (p : Int) := by rw [Nat.min_eq_left om]; exact m4
      have m5 : (p : Int) % 4294967296 = (lo : Int) := by rw [hlo, iw]; omega
      have m6 : IntKind.u32.wrap (p : Int) = (lo : Int) := by rw [Ct, hlo]
      have m7 : Go.bits .or .u32 (v : Int) (lo : Int) = (v2 : Int) := by rw [Qg v lo hvB Jy, hv2, hlo2, Nu hvT]
      have hfin : ∀ W, W = (wr.setCell ⟨bu, i, none⟩ (.int .u32 (v : Int))).setCell ⟨bu, i, none⟩ (.int .u32 (v2 : Int)) → Hid (Wd.Er ic (2 ^ s) rl (zc.set i v2) (i + 1)) ∧ Hid (∀ j, i + 1 ≤ j → (zc.set i v2).getD j 0 = rl.getD j 0) ∧ ZB .u32 W bu 156 (win us 0 (zc.set i v2)) ∧ Hid (ZB .u32 W w4.heap.size 156 qs) ∧ Below w.heap.size w W := by
       rintro W rfl
       have hne : w4.heap.size ≠ bu := by have := (aa Yd).2; omega
       have hbw : w.heap.size ≤ bu := Nat.le_trans Jc.size hbu
       refine ⟨?_, fun j hj => ?_, ?_, ?_, ?_⟩
       ·
        have := HI.out.step (Dq s om) (Nat.pow_pos om) (by rw [aah.out]; exact hlt) (by rw [← Wd.vk, ← hx']; exact Aj)
        rw [← Wd.vk, ← Wd.vk, ← hx', ← afk, ← hv, ← hlo2, ← hv2] at this
        exact this
       ·
        simp only [List.getD]
        rw [List.getElem?_set_ne om]
        exact Fy.out j om
       ·
        have h1 := hset wr v qd
        have h2 := Hr us 0 (zc.set i v) (by rw [List.length_set]; omega) i v2 (by rw [List.length_set]; omega)
        rw [Nat.zero_add, List.set_set] at h2
        rw [← h2]
        exact h1.Eb _ _
       ·
        exact (Below.heap_setCell _ _ _ w4.heap.size hne).trans ((Below.heap_setCell _ _ _ w4.heap.size hne).trans (aa HQZ))
       ·
        exact (hbr.setCell (p := ⟨bu, i, none⟩) hbw _).setCell (p := ⟨bu, i, none⟩) hbw _
      have HF := hide hfin
      have auu := hset wr v qd
      have bjh := auu.cell i (by rw [win_length _ _ _ (by rw [List.length_set]; omega)]; omega)
      have bbz : Wd.g (win us 0 (zc.set i v)) i = v := by
       have := Ll us 0 (zc.set i v) (by rw [List.length_set]; omega) i (by rw [List.length_set]; omega)
       rw [Nat.zero_add] at this
       rw [this, Wd.vk, List.getD, List.getElem?_set_self om]; rfl
      rw [bbz] at bjh
      have bbi := auu.frozen i
      have bjg := auu.cell (i + 1) (by rw [win_length _ _ _ (by rw [List.length_set]; omega)]; omega)
      have bby : Wd.g (win us 0 (zc.set i v)) (i + 1) = x2 := by
       have := Ll us 0 (zc.set i v) (by rw [List.length_set]; omega) (i + 1) (by rw [List.length_set]; omega)
       rw [Nat.zero_add] at this
       rw [this, Wd.vk, List.getD, List.getElem?_set_ne om]
       exact (Fy.out (i + 1) om).trans afk.symm
      rw [bby] at bjg
      clear hset hfin hx' afk hv hv2 hlo hlo2 Bn qd gz bbz bby hvT Aj auv hvB Jy Rl hbr
      go_wp2_with fail
      have hii : IntKind.i64.wrap ((i : Int) + 1) = (i : Int) + 1 := IntWalk.i64_in _ om
      have hi1 : (0 : Int) ≤ (i : Int) + 1 := by omega
      have hi2 : ((i : Int) + 1).toNat = i + 1 := by omega
      have hi3 : (i : Int) + 1 < (k2 : Int) := by omega
      go_region
      all_goals
       go_wp2_with fail
       go_roundw
       case rel =>
        obtain ⟨r1, r2, r3, r4, r5⟩ := (aa HF) _ rfl
        exact ⟨i + 1, _, by omega, by go_num, r1, r2, r3, r4, by first | exact r5 | exact r5.drew⟩
       case measure => simp [intOf] <;> omega
     ·
      have d1 : decide ((i : Int) + 1 < (k2 : Int)) = false := decide_eq_false om
      have d1' : decide (i + 1 < k2) = false := decide_eq_false hin
      have hfin : ∀ W, W = wr.setCell ⟨bu, i, none⟩ (.int .u32 (v : Int)) → Hid (Wd.Er ic (2 ^ s) rl (zc.set i v) (i + 1)) ∧ Hid (∀ j, i + 1 ≤ j → (zc.set i v).getD j 0 = rl.getD j 0) ∧ ZB .u32 W bu 156 (win us 0 (zc.set i v)) ∧ Hid (ZB .u32 W w4.heap.size 156 qs) ∧ Below w.heap.size w W := by
       rintro W rfl
       have hne : w4.heap.size ≠ bu := by have := (aa Yd).2; omega
       have hbw : w.heap.size ≤ bu := Nat.le_trans Jc.size hbu
       refine ⟨?_, fun j hj => ?_, hset _ _ qd, ?_, ?_⟩
       ·
        have := HI.out.step (Dq s om) (Nat.pow_pos om) (by rw [aah.out]; exact hlt) (by rw [← Wd.vk, ← hx']; exact Aj)
        have h0 : rl.getD (i + 1) 0 = 0 := by simp only [List.getD]; rw [List.getElem?_eq_none (by rw [aah.out]; omega)]; rfl
        rw [h0, Nat.zero_mod, Nat.zero_mul, Nat.add_zero, ← Wd.vk, ← hx', ← hv] at this
        exact this
       ·
        simp only [List.getD]
        rw [List.getElem?_set_ne om]
        exact Fy.out j om
       ·
        exact (Below.heap_setCell _ _ _ w4.heap.size hne).trans (aa HQZ)
       ·
        exact hbr.setCell (p := ⟨bu, i, none⟩) hbw _
      have HF := hide hfin
      clear hset hfin hx' hv qd gz Aj hvB hbr
      go_wp2_with fail
      go_roundw
      case rel =>
       obtain ⟨r1, r2, r3, r4, r5⟩ := (aa HF) _ rfl
       exact ⟨i + 1, _, by omega, by go_num, r1, r2, r3, r4, r5⟩
      case measure => simp [intOf] <;> omega
    ·
     have e : i = k2 := by omega
     subst e
     have hdn : Wd.val ic zc = n % m := by
      have h1 := HI.out
      rw [← aah.out] at h1
      rw [h1.done (Dq s om) (Nat.pow_pos om), HRV.out, V3.out]
     have hwt : (win us 0 zc).take i = zc := by simp [win, ← hzl]
     have hwz : Ws .u32 wr (bu + 1) (some ⟨bu, 0, none⟩) zc := by
      have := (qd.Ff _ (Nat.lt_succ_self _)).Pj i
      rwa [hwt] at this
     have HDN := Lib.hid hdn; have HWZ := hide hwz
     have hzs : bu < wr.heap.size := qd.lt
     have bbs : ∀ x ∈ zc, x < ic := HI.out.lt
     have bkj := hide bbs
     have hqz := aa HQZ
     have Lc := Dp (some ⟨w4.heap.size, 0, none⟩) qs.length qs wr.heap.size wr (hqz.Ff _ hqz.lt) (Nat.le_refl _) (by rw [Ml.out]; omega)
     rw [Ml.out] at Lc
     have T3 := hide Lc
     clear hdn hwt hwz bbs Lc hqz qd
     go_wp2_with fail
     refine (aa T3).mono ?_
     rintro e w6 ⟨⟨k3, rfl, ht2, hk3⟩, Uw⟩
     obtain rfl : wr = w6 := Uw.symm
     clear Uw
     have q1 := vg.Db (cap := lq) (aa HQZ) (aa awk) ht2 (by rw [Ml.out]; exact hk3) (by rw [Ml.out]; omega) om
     rw [V1.out] at q1
     have Q1 := hide q1
     have bbv : k3 = (qs.take k3).length := by rw [List.length_take, Ml.out]; omega
     have HK3 := Lib.hid bbv
     clear ht2 q1 T3 bbv
     have avb := Dp (some ⟨bu, 0, none⟩) (xl.length + 1) zc (bu + 1) wr (aa HWZ) om om
     rw [hzl] at avb
     have T4 := hide avb
     clear avb
     go_wp2_with fail
     refine (aa T4).mono ?_
     rintro e w6 ⟨⟨k4, rfl, ht4, hk4⟩, Uw⟩
     obtain rfl : wr = w6 := Uw.symm
     clear Uw
     have q2 : vg wr (some ⟨bu, 0, none⟩) (xl.length + 1) (zc.take k4) (n % m) := by
      refine ⟨(((aa HWZ).Pj k4).more om), by rw [List.length_take]; omega, by omega, fun x hx => (aa bkj) x (List.mem_of_mem_take hx), ht4.norm, ?_⟩
      rw [ht4.val, HDN.out]
     have Q2 := hide q2
     have bbu : k4 = (zc.take k4).length := by rw [List.length_take]; omega
     have HK4 := Lib.hid bbu
     clear ht4 q2 T4 bbu
     go_wp2_with fail
     go_ret2
     exact ⟨some ⟨w4.heap.size, 0, none⟩, lq, qs.take k3, some ⟨bu, 0, none⟩, xl.length + 1, zc.take k4, Sg HK3.out HK4.out, aa Q1, aa Q2, hbr⟩
  ·
   obtain ⟨j, rfl⟩ := Int.eq_ofNat_of_zero_le (show 0 ≤ i by omega)
   have hinv : Wd.Ba ic V uz us qs (j + 1) := by have := HI.out; rwa [show ((j : Int) + 1).toNat = j + 1 by omega] at this
   have Lb : us.length = xl.length + 1 := hinv.Dg.trans HUL.out
   have hql := Ml.out
   have hqc := hqz.cell j om
   have hqf := hqz.frozen j
   have Ua := hide hinv; have Qt := Lib.hid Lb
   obtain ⟨wd1, wd2, wd3⟩ := hinv.window Cf (aa ahf)
   have hwl : ((us.drop j).take (yl.length + 1)).length = yl.length + 1 := by rw [List.length_take, List.length_drop]; omega
   have hpre : Jn ((us.drop j).take (yl.length + 1)) (vz.take yl.length) yl.length := by
    refine ⟨hn2, HVN.out, hwl, fun x hx => hinv.lt x (List.mem_of_mem_drop (List.mem_of_mem_take hx)), fun x hx => Xl x (List.mem_of_mem_take hx), ?_, by rw [Tz.out]; exact wd2⟩
    rcases (aa HT).norm with h | h
    ·
     have := HVN.out; rw [h] at this; simp at this; omega
    ·
     rwa [HVN.out] at h
   have hds := ajn bu j (xl.length + 1 - j) 156 yl.length us ((us.drop j).take (yl.length + 1)) (vz.take yl.length) (some ⟨bv, 0, none⟩) (yl.length + 1) (bv + 1) top next wo Oi om (by rw [hwl]) om om Wn (fun b o e => by injection e with e; injection e with e; omega) (by have := (aa Yd).1; omega) (by simp; omega) om hpre HTP.out HNX.out
   have HDS := hide hds
   clear hds
   have hfin : ∀ (W : World) (zr : List Nat) (q : Nat), StepT ((us.drop j).take (yl.length + 1)) (vz.take yl.length) zr q → Hid (Wd.Ba ic V uz (win us j zr) (qs.set j q) j) := fun W zr q hok => by
    have hzl : zr.length = yl.length + 1 := hok.len.trans hwl
    refine hinv.step (n := yl.length) Cf (aa ahf) (aa HV0) om ?_ ?_ ?_ ?_ ?_
    ·
     rw [hok.quo, Tz.out]
    ·
     have e1 : (win us j zr).drop j = zr ++ us.drop (j + zr.length) := by
      simp only [win, List.append_assoc]
      rw [List.drop_append_of_le_length (by simp; omega), List.drop_of_length_le (by simp; omega), List.nil_append]
     have e2 : Wd.val ic (us.drop (j + zr.length)) = 0 := by
      have h1 := Wd.Ph ic (us.drop j) (yl.length + 1)
      rw [wd3, List.drop_drop] at h1
      have h2 : 0 < ic ^ min (yl.length + 1) (us.drop j).length := Nat.pow_pos (by rw [iw]; omega)
      rw [hzl]
      rcases Nat.eq_zero_or_pos (Wd.val ic (us.drop (j + (yl.length + 1)))) with h | h
      ·
       exact h
      ·
       have := Nat.mul_pos h2 h; omega
     rw [e1, Wd.val_append, e2, Nat.mul_zero, Nat.add_zero, hok.rem, Tz.out]
    ·
     rw [win_length _ _ _ om]
    ·
     intro x hx
     simp only [win, List.append_assoc, List.mem_append] at hx
     rcases hx with h | h | h
     ·
      exact hinv.lt x (List.mem_of_mem_take h)
     ·
      exact hok.lt x h
     ·
      exact hinv.lt x (List.mem_of_mem_drop h)
    ·
     intro t ht
     simp only [win, List.append_assoc, List.getD]
     rw [List.getElem?_append_left (by simp; omega), List.getElem?_take, if_pos ht]
   have Je := hide hfin
   clear hinv Lb hql HI wd1 wd2 wd3 hfin hpre
   go_wp2_with fail
   rw [show j + yl.length + 1 - j = yl.length + 1 by omega]
   refine (aa HDS).mono ?_
   rintro e w5 ⟨zr, q, rfl, hok, Na, afm, hg5⟩
   have alx := (aa Je) w5 zr q hok
   have Td := hqz.grown hg5 (by intro h; injection h with h; have := (aa Yd).2; omega)
   have bir := Td.cell j (by have := Ml.out; omega)
   have biq := Td.frozen j
   have hv5 : Ws .u32 w5 (bv + 1) (some ⟨bv, 0, none⟩) (vz.take yl.length) := fun hl => by
    obtain ⟨b, o, e, hb, hc⟩ := Wn hl
    injection e with e; injection e with e1 e2
    subst e1 e2
    exact ⟨bv, 0, rfl, hb, fun t ht => (World.cell?_of_block (hg5.block bv (by have := (aa Yd).1; omega) (fun e => by injection e with e; omega))).trans (hc t ht)⟩
   have hb5 : Below w.heap.size w w5 := hbr.grown hg5 hbr.size (fun g e => by injection e with e; subst e; exact Nat.le_trans Jc.size hbu)
   have hs5 : w4.heap.size < w5.heap.size := Nat.lt_of_lt_of_le ave hg5.size
   have auw : w.heap.size ≤ w4.heap.size := Xo.size
   have Zt : ∀ W, W = w5.setCell ⟨w4.heap.size, j, none⟩ (.int .u32 (q : Int)) → ZB .u32 W bu 156 (win us j zr) ∧ ZB .u32 W w4.heap.size 156 (qs.set j q) ∧ Ws .u32 W (bv + 1) (some ⟨bv, 0, none⟩) (vz.take yl.length) ∧ Below w.heap.size w W ∧ w4.heap.size < W.heap.size := by
    rintro W rfl
    exact ⟨(Below.heap_setCell w5 _ _ bu (by show bu ≠ w4.heap.size; have := (aa Yd).2; omega)).trans afm, Td.Eb _ _, hv5.setCell (p := ⟨w4.heap.size, j, none⟩) (by show bv + 1 ≤ w4.heap.size; have := (aa Yd).1; omega) _, hb5.setCell (p := ⟨w4.heap.size, j, none⟩) auw _, by simp [World.setCell]; omega⟩
   have HF2 := hide Zt
   clear hok hg5 Zt afm Td hv5 hb5
   go_wp2_with fail
   go_roundw
   case rel =>
    obtain ⟨f1, f2, f3, f4, f5⟩ := (aa HF2) _ rfl
    exact ⟨(j : Int) - 1, win us j zr, qs.set j q, by omega, by omega, by go_num, by rw [show ((j : Int) - 1 + 1).toNat = j by omega]; exact alx, by show _ = _; rw [List.length_set]; exact Ml.out, f1, f2, f3, f4, f5⟩
   case measure => simp [intOf] <;> omega
end Go.Proofs.YtfbcdfoohpkfeaaGreatDoor
namespace Go.Proofs.YtfbcdfoohpkfeaaGreatDoor
open Go.RowKit

theorem Gb (Ax Ay : Option Addr) (cx cy : Nat) (xl yl : List Nat) (n m : Nat) (w : World) (hx : vg w Ax cx xl n) (hy : vg w Ay cy yl m) (hm : 0 < m) (hk : xl.length + 1 ≤ 35184372088832) (hk2 : yl.length + 1 ≤ 35184372088832) :
  Calls Tryz.prog 158 #[.slice Ax xl.length cx, .slice Ay yl.length cy] w fun e w' => aae w (n / m) (n % m) e w' := by
 by_cases hlt : n < m
 ·
  exact aia Ax Ay cx cy xl yl n m w hx hy hlt
 ·
  by_cases h1 : yl.length = 1
  ·
   exact aom Ax Ay cx cy xl yl n m w hx hy hlt h1 om
  ·
   refine akz Ax Ay cx cy xl yl n m w hx hy hlt hk hk2 ?_
   rcases Nat.eq_zero_or_pos yl.length with h | h
   ·
    exfalso
    have := hy.val
    rw [List.length_eq_zero_iff.1 h] at this
    simp [Wd.val] at this; omega
   ·
    omega

def memNum (w : World) : Value → Nat
 | .slice (some p) n _ => Wd.val ic ((List.range n).map fun i => match w.cell? ⟨p.block, p.off + i, none⟩ with | some (.int _ z) => z.toNat | _ => 0)
 | _ => 0
theorem acd {w : World} {A : Option Addr} {cap : Nat} {l : List Nat} {n : Nat} (h : vg w A cap l n) : memNum w (.slice A l.length cap) = n := by
 rcases Nat.eq_zero_or_pos l.length with h0 | h0
 ·
  have hv := h.val
  have hl := List.length_eq_zero_iff.1 h0
  subst hl
  rw [← hv]
  cases A <;> simp [memNum, Wd.val]
 ·
  obtain ⟨b, o, rfl, _, hc⟩ := h.ws h0
  show Wd.val ic _ = n
  rw [← h.val]
  congr 1
  apply List.ext_getElem (by simp)
  intro i h1 h2
  simp only [List.getElem_map, List.getElem_range]
  rw [hc i h2, Wd.vk]
  simp [List.getD, h2]

set_option maxHeartbeats 1000000 in
theorem aid (Ax Ay : Option Addr) (cx cy : Nat) (xl yl : List Nat) (n m K : Nat) (w : World) (hx : vg w Ax cx xl n) (hy : vg w Ay cy yl m) (hn : n < ic ^ K) (hm : m < ic ^ K) (hK : K + 1 ≤ 35184372088832) :
  Calls Tryz.prog 157 #[.slice Ax xl.length cx, .slice Ay yl.length cy] w fun e w' => awg w (n.gcd m) e w' := by
 go_enter Tryz.func157, Tryz.ntmps157
 go_wp2_with fail
 have HK := hide hK
 clear hK
 go_loopw [0, 1] (fun av bv wr => ∃ Aa ca la na Ab cb lb nb, av = .slice Aa la.length ca ∧ bv = .slice Ab lb.length cb ∧ vg wr Aa ca la na ∧ vg wr Ab cb lb nb ∧ na < ic ^ K ∧ nb < ic ^ K ∧ Hid (na.gcd nb = n.gcd m) ∧ Below w.heap.size w wr) (fun _ bv wr => memNum wr bv)
 case atStart => exact ⟨Ax, cx, xl, n, Ay, cy, yl, m, rfl, rfl, hx, hy, hn, hm, rfl, Below.refl _ _⟩
 case round =>
  clear hx hy hn hm
  obtain ⟨Aa, ca, la, na, Ab, cb, lb, nb, rfl, rfl, ha, hb, hna, hnb, HG, hbl⟩ := hrel
  have ha1 := ha.wh; have ha2 := ha.cap2; have hb1 := hb.wh; have hb2 := hb.cap2
  have la1 : la.length ≤ K := ha.len hna
  have lb1 : lb.length ≤ K := hb.len hnb
  by_cases h0 : lb.length = 0
  ·
   have e : nb = 0 := by rw [← hb.val, List.length_eq_zero_iff.1 h0]; rfl
   have hg := HG.out
   rw [e, Nat.gcd_zero_right] at hg
   have HGG := Lib.hid hg
   have HA := hide ha
   clear hg ha hb hna hnb e HG
   go_wp2_with fail
   go_ret
   exact ⟨Aa, ca, la, rfl, by rw [← HGG.out]; exact aa HA, hbl⟩
  ·
   have bbr : 0 < nb := by
    rcases Nat.eq_zero_or_pos nb with h | h
    ·
     exfalso
     have := hb.len (k := 0) (by rw [h]; simp)
     omega
    ·
     exact h
   have hp := Gb Aa Ab ca cb la lb na nb wr ha hb bbr (by have := aa HK; omega) (by have := aa HK; omega)
   have hg : nb.gcd (na % nb) = n.gcd m := by
    rw [← HG.out, Nat.gcd_comm nb (na % nb), ← Nat.gcd_rec nb na, Nat.gcd_comm]
   have hlt := Nat.mod_lt na bbr
   have hmem := acd hb
   have HP := hide hp; have HGG := Lib.hid hg; have HB := hide hb; have HNB := hide hnb
   have zu := hide hlt; have HM := Lib.hid hmem
   clear hp hg ha hb hna hnb HG hlt hmem
   go_wp2_with fail
   refine (aa HP).mono ?_
   rintro e w' ⟨A5, c5, l5, A6, c6, l6, rfl, h5, h6, avk⟩
   have hb' := (aa HB).below avk
   have bjj : Below w.heap.size w w' := hbl.trans (avk.mono hbl.size)
   have HB2 := hide hb'; have H6 := hide h6
   clear hb' h5 h6 avk hbl
   go_wp2_with fail
   go_roundw
   case rel => exact ⟨Ab, cb, lb, nb, A6, c6, l6, na % nb, rfl, rfl, aa HB2, aa H6, aa HNB, Nat.lt_trans (aa zu) (aa HNB), HGG, bjj⟩
   case measure =>
    have := acd (aa H6)
    have h2 := HM.out
    have h3 := aa zu
    simp_all
end Go.Proofs.YtfbcdfoohpkfeaaGreatDoor
namespace Go.Proofs.YtfbcdfoohpkfeaaGreatDoor
open Go.RowKit

def Ya (cs : Array Value) : Prop := ∀ (i : Nat) (n : Int), cs[i]? ≠ some (Value.int .u32 n)
theorem Di (A : Option Addr) (n c : Nat) (b : Bool) : Ya #[.slice A n c, .bool b] := by
 intro i n h
 match i, h with
 | 0, h => simp at h
 | 1, h => simp at h
 | i + 2, h => simp at h
theorem Bb (A : Option Addr) (n c : Nat) (b : Bool) (A' : Option Addr) (n' c' : Nat) (b' : Bool) : Ya #[.slice A n c, .bool b, .slice A' n' c', .bool b'] := by
 intro i n h
 match i, h with
 | 0, h => simp at h
 | 1, h => simp at h
 | 2, h => simp at h
 | 3, h => simp at h
 | i + 4, h => simp at h
theorem Ws.bae {w w' : World} {B g : Nat} {A : Option Addr} {l : List Nat} {T : TypeId} {cs : Array Value} (h : Ws .u32 w B A l) (hg : w.heap[g]? = some (.cells cs T (0, 0))) (hn : Ya cs) (hgr : w.grownBy w' (some g)) (hB : B ≤ w.heap.size) : Ws .u32 w' B A l := fun hl => by
 obtain ⟨b, off, rfl, hb, hc⟩ := h hl
 have hne : b ≠ g := by
  rintro rfl
  have := hc 0 hl
  simp only [World.cell?, hg, Option.isSome_none, Bool.false_eq_true, if_false] at this
  exact hn _ _ this
 exact ⟨b, off, rfl, hb, fun j hj => (World.cell?_of_block (hgr.block b om (fun e => hne (by injection e)))).trans (hc j hj)⟩
theorem vg.upto {w w' : World} {g : Nat} {A : Option Addr} {cap : Nat} {l : List Nat} {n : Nat} {T : TypeId} {cs : Array Value} (h : vg w A cap l n) (hg : w.heap[g]? = some (.cells cs T (0, 0))) (hn : Ya cs) (hgr : w.grownBy w' (some g)) : vg w' A cap l n :=
 ⟨(h.ws.bae hg hn hgr (Nat.le_refl _)).more hgr.size, h.wh, h.cap2, h.lt, h.norm, h.val⟩
theorem qp (w : World) (g : Nat) (u0 u1 u2 u3 : Value) : w.grownBy ((((w.setCell ⟨g, 0, none⟩ u0).setCell ⟨g, 1, none⟩ u1).setCell ⟨g, 2, none⟩ u2).setCell ⟨g, 3, none⟩ u3) (some g) :=
 qm (qm (qm (qm (yu _ _) _ _) _ _) _ _) _ _

structure jc (w : World) (A : Option Addr) (cap : Nat) (l : List Nat) (m : Bool) (z : Int) : Prop where
 nat : vg w A cap l z.natAbs
 sign : m = decide (z < 0)
theorem jc.below {w w' : World} {A : Option Addr} {cap : Nat} {l : List Nat} {m : Bool} {z : Int} (h : jc w A cap l m z) (hb : Below w.heap.size w w') : jc w' A cap l m z := ⟨h.nat.below hb, h.sign⟩
theorem jc.upto {w w' : World} {g : Nat} {A : Option Addr} {cap : Nat} {l : List Nat} {m : Bool} {z : Int} {T : TypeId} {cs : Array Value} (h : jc w A cap l m z) (hg : w.heap[g]? = some (.cells cs T (0, 0))) (hn : Ya cs) (hgr : w.grownBy w' (some g)) : jc w' A cap l m z := ⟨h.nat.upto hg hn hgr, h.sign⟩

def Al (w : World) (z : Int) (e : Ending) (w' : World) : Prop := ∃ A cap l m, e = .returned (.agg #[.slice A l.length cap, .bool m]) ∧ jc w' A cap l m z ∧ Below w.heap.size w w'

theorem vg.Ha {w : World} {A : Option Addr} {cap : Nat} {l : List Nat} {n : Nat} (h : vg w A cap l n) : n = 0 ↔ l.length = 0 := by
 constructor
 ·
  intro e
  have := h.len (k := 0) (by rw [e]; simp)
  omega
 ·
  intro e
  rw [← h.val, List.length_eq_zero_iff.1 e]; rfl

set_option maxHeartbeats 1000000 in
theorem Cu (A : Option Addr) (cap : Nat) (l : List Nat) (n : Nat) (s : Bool) (w : World) (h : vg w A cap l n) :
  Calls Tryz.prog 159 #[.slice A l.length cap, .bool s] w fun e w' => Al w (if s then -(n : Int) else (n : Int)) e w' := by
 have hc1 := h.wh; have hc2 := h.cap2
 have hz := h.Ha
 have hab : (if s then -(n : Int) else (n : Int)).natAbs = n := by cases s <;> simp
 have hsg : s = true → decide (0 < l.length) = decide ((if s then -(n : Int) else (n : Int)) < 0) := by
  rintro rfl
  simp only [if_true]
  exact decide_eq_decide.2 om
 have avf : ¬ s = true → false = decide ((if s then -(n : Int) else (n : Int)) < 0) := by
  intro hs
  rw [Bool.not_eq_true] at hs
  subst hs
  exact (decide_eq_false (by simp)).symm
 obtain ⟨z, hzz⟩ : ∃ z, z = if s then -(n : Int) else (n : Int) := ⟨_, rfl⟩
 rw [← hzz] at hab hsg avf ⊢
 have HF : Hid (∀ W, Below w.heap.size w W → vg W A cap l z.natAbs) := fun W hW => by rw [hab]; exact h.below hW
 have uo := hide hsg; have HS2 := hide avf
 clear h hz hab hsg avf hzz
 go_enter Tryz.func159, Tryz.ntmps159
 go_wp2_with fail
 ·
  have hs : s = true := by assumption
  exact bodyPost_ret (v := .agg #[.slice A l.length cap, .bool (decide (0 < l.length))]) (by simp [results, Tryz.results159, go_sem]) rfl ⟨A, cap, l, _, rfl, ⟨(aa HF) _ ((Below.refl _ _).alloc (Nat.le_refl _) _), (aa uo) hs⟩, (Below.refl _ _).alloc (Nat.le_refl _) _⟩
 ·
  have hs : ¬ s = true := by assumption
  exact bodyPost_ret (v := .agg #[.slice A l.length cap, .bool false]) (by simp [results, Tryz.results159, go_sem]) rfl ⟨A, cap, l, _, rfl, ⟨(aa HF) _ ((Below.refl _ _).alloc (Nat.le_refl _) _), (aa HS2) hs⟩, (Below.refl _ _).alloc (Nat.le_refl _) _⟩

set_option maxHeartbeats 1000000 in
theorem Wx (A : Option Addr) (cap n : Nat) (s : Bool) (w : World) :
  Calls Tryz.prog 122 #[.agg #[.slice A n cap, .bool s]] w fun e w' => e = .returned (.bool (decide (n = 0))) ∧ Below w.heap.size w w' := by
 by_cases h : n = 0
 ·
  subst h
  go_enter Tryz.func122, Tryz.ntmps122
  go_wp2_with fail
  all_goals first | go_ret | skip
  all_goals exact ⟨rfl, (Below.refl _ _).alloc (Nat.le_refl _) _⟩
 ·
  have hb : ((n : Int) == 0) = false := beq_eq_false_iff_ne.2 om
  have hd : decide (n = 0) = false := decide_eq_false h
  rw [hd]
  clear hd
  go_enter Tryz.func122, Tryz.ntmps122
  go_wp2_with fail
  all_goals first | go_ret | skip
  all_goals exact ⟨rfl, (Below.refl _ _).alloc (Nat.le_refl _) _⟩

set_option maxHeartbeats 1000000 in
theorem Yn (A : Option Addr) (cap : Nat) (l : List Nat) (m : Bool) (z : Int) (w : World) (h : jc w A cap l m z) :
  Calls Tryz.prog 118 #[.agg #[.slice A l.length cap, .bool m]] w fun e w' => e = .returned (.bool (decide (z = 1))) ∧ Below w.heap.size w w' := by
 have hc1 := h.nat.wh; have hc2 := h.nat.cap2
 by_cases h1 : l.length = 1
 ·
  have hb : ((l.length : Int) == 1) = true := by rw [h1]; rfl
  obtain ⟨b, o, rfl, hbb, hc⟩ := h.nat.ws om
  have hc0 := ((Below.refl w.heap.size w).alloc (Nat.le_refl _) (.cells #[.slice (some ⟨b, o, none⟩) l.length cap, .bool m] 61)).cell (p := ⟨b, o + 0, none⟩) hbb |>.trans (hc 0 om)
  rw [Nat.add_zero] at hc0
  have hv : Wd.g l 0 = z.natAbs := by rw [Sq ic l h1]; exact h.nat.val
  have hs := h.sign
  rw [hv] at hc0
  have hres : decide (z = 1) = ((z.natAbs : Int) == 1 && !m) := by
   rw [hs]
   by_cases hz : z = 1
   ·
    subst hz; rfl
   ·
    rw [decide_eq_false hz]
    by_cases h2 : z = -1
    ·
     subst h2; rfl
    ·
     have : ((z.natAbs : Int) == 1) = false := beq_eq_false_iff_ne.2 om
     rw [this]; rfl
  have hl0 : 0 < l.length := by omega
  have HR := Lib.hid hres
  clear hc hv hs h hres h1
  cases m
  all_goals
   by_cases hv : ((z.natAbs : Nat) : Int) = 1
   ·
    have hv1 : (((z.natAbs : Nat) : Int) == 1) = true := by rw [hv]; rfl
    have HV := Lib.hid hv1
    rw [hv] at hc0
    clear hv hv1
    go_enter Tryz.func118, Tryz.ntmps118
    go_wp2_with fail
    all_goals first | go_ret | skip
    all_goals exact ⟨by rw [HR.out, HV.out]; rfl, (Below.refl _ _).alloc (Nat.le_refl _) _⟩
   ·
    have hv1 : (((z.natAbs : Nat) : Int) == 1) = false := beq_eq_false_iff_ne.2 hv
    have hv0 := hv1
    have HV := Lib.hid hv0
    clear hv0
    obtain ⟨t, ht⟩ : ∃ t, t = z.natAbs := ⟨_, rfl⟩
    rw [← ht] at hc0 hv hv1
    clear ht
    go_enter Tryz.func118, Tryz.ntmps118
    go_wp2_with fail
    all_goals first | go_ret | skip
    all_goals exact ⟨by rw [HR.out, HV.out]; rfl, (Below.refl _ _).alloc (Nat.le_refl _) _⟩
 ·
  have hb : ((l.length : Int) == 1) = false := beq_eq_false_iff_ne.2 om
  have hd : decide (z = 1) = false := decide_eq_false (by
   rintro rfl
   apply h1
   have h0 := h.nat.len (k := 1) (by simp [iw])
   have h3 : ¬ l.length = 0 := fun e => by have := h.nat.Ha.2 e; simp at this
   omega)
  rw [hd]
  clear hd h
  go_enter Tryz.func118, Tryz.ntmps118
  go_wp2_with fail
  all_goals first | go_ret | skip
  all_goals exact ⟨rfl, (Below.refl _ _).alloc (Nat.le_refl _) _⟩

set_option maxHeartbeats 1000000 in
theorem Ww (A : Option Addr) (cap : Nat) (l : List Nat) (m : Bool) (z : Int) (w : World) (h : jc w A cap l m z) :
  Calls Tryz.prog 156 #[.agg #[.slice A l.length cap, .bool m]] w fun e w' => Al w (-z) e w' := by
 have hv : (if (!m) then -(z.natAbs : Int) else (z.natAbs : Int)) = -z := by
  rw [h.sign]
  by_cases hz : z < 0
  ·
   rw [decide_eq_true hz]; simp; omega
  ·
   rw [decide_eq_false hz]; simp; omega
 have HS := hide (fun W (hW : Below w.heap.size w W) => Cu A cap l z.natAbs (!m) W (h.nat.below hW))
 rw [hv] at HS
 clear h hv
 go_enter Tryz.func156, Tryz.ntmps156
 go_wp2_with fail
 obtain ⟨n0, n1, hsz, hw0⟩ := xk w (.cells #[.slice A l.length cap, .bool m] 61) (.cells #[.slice none 0 0, .bool false] 61)
 generalize ((w.alloc (.cells #[.slice A l.length cap, .bool m] 61)).alloc (.cells #[.slice none 0 0, .bool false] 61)) = W0 at *
 have q1 : w.heap.size + 1 < W0.heap.size := by omega
 have qb : W0.cell? ⟨w.heap.size + 1, 0, none⟩ = some (.slice none 0 0) := ae n1 0
 have qa : W0.cell? ⟨w.heap.size + 1, 1, none⟩ = some (.bool false) := ae n1 1
 have Ms := bz n1 0
 have Mr := bz n1 1
 have NR := Lib.hid n1
 clear n0 n1
 refine ((aa HS) _ hw0).mono ?_
 rintro e w' ⟨A5, c5, l5, m5, rfl, tq, hb⟩
 obtain ⟨hc, hfz⟩ := gp hb
 have hblk : w'.heap[w.heap.size + 1]? = some (.cells #[.slice none 0 0, .bool false] 61 (0, 0)) := (hb.block _ q1).trans NR.out
 have mo := Lib.hid hblk
 have ky : Below w.heap.size w w' := ek hw0 hb
 clear hblk
 go_wp2_with fail
 exact bodyPost_ret (v := .agg #[.slice A5 l5.length c5, .bool m5]) (by simp [results, Tryz.results156, go_sem, hc, qb, qa, q1]) rfl
  ⟨A5, c5, l5, m5, rfl, tq.upto mo.out (Di _ _ _ _) (oh _ _ _ _), ky.grown (oh _ _ _ _) ky.size (fun k hk => by injection hk with hk; omega)⟩

end Go.Proofs.YtfbcdfoohpkfeaaGreatDoor
namespace Go.Proofs.YtfbcdfoohpkfeaaGreatDoor
open Go.RowKit

theorem ams {w : World} {b : Nat} {T : TypeId} {lo hi : Nat} (h : w.heap[b]? = some (.cells #[.int .u32 (lo : Int), .int .u32 (hi : Int)] T (0, 0))) : ZB .u32 w b T [lo, hi] := h

set_option maxHeartbeats 1000000 in
theorem Ym (x : Int) (w : World) (hx : -9223372036854775808 ≤ x) (hx2 : x ≤ 9223372036854775807) :
  Calls Tryz.prog 116 #[.int .i64 x] w fun e w' => Al w x e w' ∧ ∃ (A : Option Addr) (cap : Nat) (l : List Nat) (m : Bool), e = .returned (.agg #[.slice A l.length cap, .bool m]) ∧ l.length ≤ 2 := by
 obtain ⟨a, ha⟩ : ∃ a, a = x.natAbs := ⟨_, rfl⟩
 obtain ⟨lo, hlo⟩ : ∃ t, t = a % ic := ⟨_, rfl⟩
 obtain ⟨hi, hhi⟩ : ∃ t, t = a / ic := ⟨_, rfl⟩
 have ha2 : a ≤ 9223372036854775808 := by omega
 have e2 : (a : Int) % 4294967296 = (lo : Int) := by rw [hlo, iw]; omega
 have e3 : (a : Int) / 4294967296 = (hi : Int) := by rw [hhi, iw]; omega
 have e4 : (hi : Int) % 4294967296 = (hi : Int) := by rw [hhi, iw]; omega
 have e5 : IntKind.u32.wrap (a : Int) = (lo : Int) := by rw [IntKind.wrap_u32]; exact e2
 have e6 : IntKind.u32.wrap (hi : Int) = (hi : Int) := by rw [IntKind.wrap_u32]; exact e4
 have hlB : ∀ t ∈ [lo, hi], t < ic := by
  intro t ht
  simp only [List.mem_cons, List.not_mem_nil, or_false] at ht
  rcases ht with rfl | rfl
  ·
   rw [hlo]; exact Nat.mod_lt _ (by rw [iw]; omega)
  ·
   rw [hhi, iw]; omega
 have hval : Wd.val ic [lo, hi] = x.natAbs := by
  rw [← ha]
  simp only [Wd.val, Nat.mul_zero, Nat.add_zero]
  rw [hlo, hhi]
  exact Nat.mod_add_div _ _
 have HLB := hide hlB; have abt := Lib.hid hval
 by_cases hn : x < 0
 ·
  have d1 : decide (x < 0) = true := decide_eq_true hn
  have e1 : IntKind.u64.wrap (-IntKind.u64.wrap x) = (a : Int) := by
   rw [IntKind.wrap_u64, IntKind.wrap_u64]; omega
  clear hx hx2 ha hlo hhi ha2 hlB hval
  go_enter Tryz.func116, Tryz.ntmps116
  go_wp2_with fail
  obtain ⟨n0, n1, hsz, hw0⟩ := xk w (.cells #[.slice none 0 0, .bool false] 61) (.cells #[.int .u32 (lo : Int), .int .u32 (hi : Int)] 156)
  generalize ((w.alloc (.cells #[.slice none 0 0, .bool false] 61)).alloc (.cells #[.int .u32 (lo : Int), .int .u32 (hi : Int)] 156)) = W0 at *
  have k0 : W0.cell? ⟨w.heap.size, 0, none⟩ = some (.slice none 0 0) := ae n0 0
  have k1 : W0.cell? ⟨w.heap.size, 1, none⟩ = some (.bool false) := ae n0 1
  have f0 := bz n0 0
  have f1 := bz n0 1
  have q0 : w.heap.size < W0.heap.size := by omega
  have hzb := ams n1
  have NR := Lib.hid n0
  have htr := Dp (some ⟨w.heap.size + 1, 0, none⟩) 2 [lo, hi] W0.heap.size W0 (hzb.Ff _ hzb.lt) (by simp) om
  have HZB := hide hzb
  clear n0 n1 hzb
  refine htr.mono ?_
  rintro e w' ⟨⟨k, rfl, ht, hk⟩, hw'⟩
  obtain rfl : W0 = w' := hw'.symm
  clear hw'
  have Bc := vg.Db (cap := 2) (aa HZB) (aa HLB) ht hk (by simp) om
  rw [abt.out] at Bc
  have hkl : k = ([lo, hi].take k).length := by rw [List.length_take]; omega
  have hl2 : ([lo, hi].take k).length ≤ 2 := by rw [List.length_take]; exact Nat.min_le_right _ _
  generalize [lo, hi].take k = l5 at *
  subst hkl
  have tq : jc W0 (some ⟨w.heap.size + 1, 0, none⟩) 2 l5 true x := ⟨Bc, d1.symm⟩
  have HF5 := hide tq
  clear Bc tq ht
  go_wp2_with fail
  exact bodyPost_ret (v := .agg #[.slice (some ⟨w.heap.size + 1, 0, none⟩) l5.length 2, .bool true]) (by simp [results, Tryz.results116, go_sem, k0, k1, q0]) rfl
   ⟨⟨_, 2, l5, true, rfl, (aa HF5).upto NR.out (Di _ _ _ _) (oh _ _ _ _), hw0.grown (oh _ _ _ _) hw0.size (fun k hk => by injection hk with hk; omega)⟩, _, _, l5, true, rfl, hl2⟩
 ·
  have d1 : decide (x < 0) = false := decide_eq_false hn
  have e1 : IntKind.u64.wrap x = (a : Int) := by
   rw [IntKind.wrap_u64]; omega
  clear hx hx2 ha hlo hhi ha2 hlB hval
  go_enter Tryz.func116, Tryz.ntmps116
  go_wp2_with fail
  obtain ⟨n0, n1, hsz, hw0⟩ := xk w (.cells #[.slice none 0 0, .bool false] 61) (.cells #[.int .u32 (lo : Int), .int .u32 (hi : Int)] 156)
  generalize ((w.alloc (.cells #[.slice none 0 0, .bool false] 61)).alloc (.cells #[.int .u32 (lo : Int), .int .u32 (hi : Int)] 156)) = W0 at *
  have k0 : W0.cell? ⟨w.heap.size, 0, none⟩ = some (.slice none 0 0) := ae n0 0
  have k1 : W0.cell? ⟨w.heap.size, 1, none⟩ = some (.bool false) := ae n0 1
  have f0 := bz n0 0
  have f1 := bz n0 1
  have q0 : w.heap.size < W0.heap.size := by omega
  have hzb := ams n1
  have NR := Lib.hid n0
  have htr := Dp (some ⟨w.heap.size + 1, 0, none⟩) 2 [lo, hi] W0.heap.size W0 (hzb.Ff _ hzb.lt) (by simp) om
  have HZB := hide hzb
  clear n0 n1 hzb
  refine htr.mono ?_
  rintro e w' ⟨⟨k, rfl, ht, hk⟩, hw'⟩
  obtain rfl : W0 = w' := hw'.symm
  clear hw'
  have Bc := vg.Db (cap := 2) (aa HZB) (aa HLB) ht hk (by simp) om
  rw [abt.out] at Bc
  have hkl : k = ([lo, hi].take k).length := by rw [List.length_take]; omega
  have hl2 : ([lo, hi].take k).length ≤ 2 := by rw [List.length_take]; exact Nat.min_le_right _ _
  generalize [lo, hi].take k = l5 at *
  subst hkl
  have tq : jc W0 (some ⟨w.heap.size + 1, 0, none⟩) 2 l5 false x := ⟨Bc, d1.symm⟩
  have HF5 := hide tq
  clear Bc tq ht
  go_wp2_with fail
  exact bodyPost_ret (v := .agg #[.slice (some ⟨w.heap.size + 1, 0, none⟩) l5.length 2, .bool false]) (by simp [results, Tryz.results116, go_sem, k0, k1, q0]) rfl
   ⟨⟨_, 2, l5, false, rfl, (aa HF5).upto NR.out (Di _ _ _ _) (oh _ _ _ _), hw0.grown (oh _ _ _ _) hw0.size (fun k hk => by injection hk with hk; omega)⟩, _, _, l5, false, rfl, hl2⟩

theorem ajf {B : Nat} {w w1 w' : World} (h : Below B w w1) (e : ∃ k, w' = w1.drewN k) : Below B w w' := by
 obtain ⟨k, rfl⟩ := e; exact xy h k

set_option maxHeartbeats 1000000 in
theorem ata (A1 : Option Addr) (c1 : Nat) (l1 : List Nat) (m1 : Bool) (z1 : Int) (A2 : Option Addr) (c2 : Nat) (l2 : List Nat) (m2 : Bool) (z2 : Int) (w : World) (h1 : jc w A1 c1 l1 m1 z1) (h2 : jc w A2 c2 l2 m2 z2) :
  Calls Tryz.prog 140 #[.agg #[.slice A1 l1.length c1, .bool m1], .agg #[.slice A2 l2.length c2, .bool m2]] w fun e w' => e = .returned (.int .i64 (ja (z1 - z2))) ∧ Below w.heap.size w w' := by
 have ho : yo z1.natAbs z2.natAbs = -1 ∨ yo z1.natAbs z2.natAbs = 0 ∨ yo z1.natAbs z2.natAbs = 1 := by unfold yo; (repeat' split) <;> simp
 have hO := hide (fun W (hW : Below w.heap.size w W) => Ng A1 A2 c1 c2 l1 l2 z1.natAbs z2.natAbs W (h1.nat.below hW) (h2.nat.below hW))
 have s1 := h1.sign; have s2 := h2.sign
 have Bn : m1 = false → m2 = false → yo z1.natAbs z2.natAbs = ja (z1 - z2) := by
  rintro rfl rfl
  have a1 := of_decide_eq_false s1.symm; have a2 := of_decide_eq_false s2.symm
  unfold yo ja; (repeat' split) <;> omega
 have hnn : m1 = true → m2 = true → -yo z1.natAbs z2.natAbs = ja (z1 - z2) := by
  rintro rfl rfl
  have a1 := of_decide_eq_true s1.symm; have a2 := of_decide_eq_true s2.symm
  unfold yo ja; (repeat' split) <;> omega
 have hnp : m1 = true → m2 = false → -1 = ja (z1 - z2) := by
  rintro rfl rfl
  have a1 := of_decide_eq_true s1.symm; have a2 := of_decide_eq_false s2.symm
  unfold ja; (repeat' split) <;> omega
 have hpn : m1 = false → m2 = true → 1 = ja (z1 - z2) := by
  rintro rfl rfl
  have a1 := of_decide_eq_false s1.symm; have a2 := of_decide_eq_true s2.symm
  unfold ja; (repeat' split) <;> omega
 obtain ⟨o, hoo⟩ : ∃ o, o = yo z1.natAbs z2.natAbs := ⟨_, rfl⟩
 obtain ⟨g, hg⟩ : ∃ g, g = ja (z1 - z2) := ⟨_, rfl⟩
 rw [← hoo] at ho hO Bn hnn
 rw [← hg] at Bn hnn hnp hpn ⊢
 have e1 : IntKind.i64.wrap (-o) = -o := IntWalk.i64_in _ om
 have hw0 := (xk w (.cells #[.slice A1 l1.length c1, .bool m1] 61) (.cells #[.slice A2 l2.length c2, .bool m2] 61)).2.2.2
 clear h1 h2 s1 s2 hoo hg ho
 cases m1 <;> cases m2
 ·
  have hh := Lib.hid (Bn rfl rfl)
  clear Bn hnn hnp hpn
  go_enter Tryz.func140, Tryz.ntmps140
  go_wp2_with fail
  refine ((aa hO) _ hw0).mono ?_
  rintro e w' ⟨rfl, hw'⟩
  have ky := ajf hw0 hw'
  clear hw'
  go_wp2_with fail
  all_goals first | go_ret | skip
  exact ⟨by rw [hh.out]; rfl, ky⟩
 ·
  have hh := Lib.hid (hpn rfl rfl)
  clear Bn hnn hnp hpn
  go_enter Tryz.func140, Tryz.ntmps140
  go_wp2_with fail
  all_goals first | (go_quiet (fail); go_wp2_with fail) | skip
  all_goals first | go_ret | skip
  exact ⟨by rw [← hh.out]; rfl, by first | exact hw0 | exact hw0.drew | exact xy hw0 _⟩
 ·
  have hh := Lib.hid (hnp rfl rfl)
  clear Bn hnn hnp hpn
  go_enter Tryz.func140, Tryz.ntmps140
  go_wp2_with fail
  all_goals first | (go_quiet (fail); go_wp2_with fail) | skip
  all_goals first | go_ret | skip
  exact ⟨by rw [← hh.out]; rfl, by first | exact hw0 | exact hw0.drew | exact xy hw0 _⟩
 ·
  have hh := Lib.hid (hnn rfl rfl)
  clear Bn hnn hnp hpn
  go_enter Tryz.func140, Tryz.ntmps140
  go_wp2_with fail
  refine ((aa hO) _ hw0).mono ?_
  rintro e w' ⟨rfl, hw'⟩
  have ky := ajf hw0 hw'
  clear hw'
  go_wp2_with fail
  all_goals first | go_ret | skip
  exact ⟨by rw [← hh.out]; rfl, ky⟩
end Go.Proofs.YtfbcdfoohpkfeaaGreatDoor
namespace Go.Proofs.YtfbcdfoohpkfeaaGreatDoor
open Go.RowKit

set_option maxHeartbeats 8000000 in
theorem aeg (A1 : Option Addr) (c1 : Nat) (l1 : List Nat) (m1 : Bool) (z1 : Int) (A2 : Option Addr) (c2 : Nat) (l2 : List Nat) (m2 : Bool) (z2 : Int) (w : World) (h1 : jc w A1 c1 l1 m1 z1) (h2 : jc w A2 c2 l2 m2 z2) (hk : l1.length + l2.length ≤ 35184372088832) :
  Calls Tryz.prog 120 #[.agg #[.slice A1 l1.length c1, .bool m1], .agg #[.slice A2 l2.length c2, .bool m2]] w fun e w' => Al w (z1 * z2) e w' := by
 have hv : (if (m1 != m2) then -((z1.natAbs * z2.natAbs : Nat) : Int) else ((z1.natAbs * z2.natAbs : Nat) : Int)) = z1 * z2 := by
  rw [h1.sign, h2.sign, ← Int.natAbs_mul]
  by_cases a : z1 < 0 <;> by_cases b : z2 < 0
  ·
   have := Int.mul_pos_of_neg_of_neg a b
   simp [a, b]; omega
  ·
   have : z1 * z2 ≤ 0 := Int.mul_nonpos_of_nonpos_of_nonneg om om
   simp [a, b]; omega
  ·
   have : z1 * z2 ≤ 0 := Int.mul_nonpos_of_nonneg_of_nonpos om om
   simp [a, b]; omega
  ·
   have : 0 ≤ z1 * z2 := Int.mul_nonneg om om
   simp [a, b]; omega
 have HT := hide (fun W (hW : Below w.heap.size w W) => akn A1 A2 c1 c2 l1 l2 z1.natAbs z2.natAbs W (h1.nat.below hW) (h2.nat.below hW) hk)
 obtain ⟨p, hp⟩ : ∃ p, p = z1.natAbs * z2.natAbs := ⟨_, rfl⟩
 obtain ⟨z, hz⟩ : ∃ z, z = z1 * z2 := ⟨_, rfl⟩
 rw [← hp] at HT hv
 rw [← hz] at hv ⊢
 obtain ⟨sg, hsg⟩ : ∃ s, s = (m1 != m2) := ⟨_, rfl⟩
 rw [← hsg] at hv
 have HV := Lib.hid hv
 have SG : (!(m1 == m2)) = sg := hsg.symm
 clear h1 h2 hk hp hz hv hsg
 go_enter Tryz.func120, Tryz.ntmps120
 go_wp2_with fail
 obtain ⟨n0, n1, n2, hsz, hw0⟩ := qg w (.cells #[.slice A1 l1.length c1, .bool m1] 61) (.cells #[.slice A2 l2.length c2, .bool m2] 61) (.cells #[.slice none 0 0, .bool false] 61)
 generalize (((w.alloc (.cells #[.slice A1 l1.length c1, .bool m1] 61)).alloc (.cells #[.slice A2 l2.length c2, .bool m2] 61)).alloc (.cells #[.slice none 0 0, .bool false] 61)) = W0 at *
 have k0 : W0.cell? ⟨w.heap.size, 0, none⟩ = some (.slice A1 l1.length c1) := ae n0 0
 have k1 : W0.cell? ⟨w.heap.size, 1, none⟩ = some (.bool m1) := ae n0 1
 have k2 : W0.cell? ⟨w.heap.size + 1, 0, none⟩ = some (.slice A2 l2.length c2) := ae n1 0
 have k3 : W0.cell? ⟨w.heap.size + 1, 1, none⟩ = some (.bool m2) := ae n1 1
 have q0 : w.heap.size < W0.heap.size := by omega
 have q1 : w.heap.size + 1 < W0.heap.size := by omega
 have q2 : w.heap.size + 1 + 1 < W0.heap.size := by omega
 have r0 : W0.cell? ⟨w.heap.size + 1 + 1, 0, none⟩ = some (.slice none 0 0) := ae n2 0
 have r1 : W0.cell? ⟨w.heap.size + 1 + 1, 1, none⟩ = some (.bool false) := ae n2 1
 have f0 := bz n2 0
 have f1 := bz n2 1
 have NR := Lib.hid n2
 clear n0 n1 n2 hsz
 go_region_held3 (fun w' => w'.cell? ⟨w.heap.size, 0, none⟩ = some (.slice A1 l1.length c1) ∧ w'.cell? ⟨w.heap.size, 1, none⟩ = some (.bool m1) ∧ w'.cell? ⟨w.heap.size + 1, 0, none⟩ = some (.slice A2 l2.length c2) ∧ w'.cell? ⟨w.heap.size + 1, 1, none⟩ = some (.bool m2)) ((first | with_reducible exact ⟨k0, k1, k2, k3⟩ | with_reducible exact ⟨(hc _ _ q0).trans k0, (hc _ _ q0).trans k1, (hc _ _ q1).trans k2, (hc _ _ q1).trans k3⟩ | with_reducible exact ⟨(Qd _ _ _ _ om).trans ((hc _ _ q0).trans k0), (Qd _ _ _ _ om).trans ((hc _ _ q0).trans k1), (Qd _ _ _ _ om).trans ((hc _ _ q1).trans k2), (Qd _ _ _ _ om).trans ((hc _ _ q1).trans k3)⟩ | exact ⟨k0, k1, k2, k3⟩ | exact ⟨(hc _ _ q0).trans k0, (hc _ _ q0).trans k1, (hc _ _ q1).trans k2, (hc _ _ q1).trans k3⟩)) (first | (go_at_call 164; refine ((aa HT) _ (ek hw0 (by (first | with_reducible assumption | (repeat (first | with_reducible exact Below.refl _ _ | with_reducible assumption | refine Below.drew ?_ | (refine Below.alloc ?_ (by simp <;> omega) _))))))).mono ?_; rintro e w' ⟨A5, c5, l5, rfl, Bc, hb⟩; have hbw := fo (w := W0) bem hb; obtain ⟨hc, hfz⟩ := gp hbw) | (go_at_call 159; refine (Cu A5 c5 l5 p sg _ (by exact Bc)).mono ?_; rw [HV.out]; rintro e w' ⟨A6, c6, l6, m6, rfl, xm, hb⟩; have hbw := fo (w := W0) bem hb; obtain ⟨hc, hfz⟩ := gp hbw))
 all_goals
  have hblk : w'.heap[w.heap.size + 1 + 1]? = some (.cells #[.slice none 0 0, .bool false] 61 (0, 0)) := (hbw.block _ q2).trans NR.out
  have mo := Lib.hid hblk
  have ky : Below w.heap.size w w' := ek hw0 hbw
  clear hblk
  go_wp2_with fail
  exact bodyPost_ret (v := .agg #[.slice A6 l6.length c6, .bool m6]) (by simp [results, Tryz.results120, go_sem, hc, r0, r1, q2]) rfl
   ⟨A6, c6, l6, m6, rfl, xm.upto mo.out (Di _ _ _ _) (oh _ _ _ _), ky.grown (oh _ _ _ _) ky.size (fun k hk => by injection hk with hk; omega)⟩
end Go.Proofs.YtfbcdfoohpkfeaaGreatDoor
namespace Go.Proofs.YtfbcdfoohpkfeaaGreatDoor
open Go.RowKit

set_option maxHeartbeats 1000000 in
theorem asz (A1 : Option Addr) (c1 : Nat) (l1 : List Nat) (m1 : Bool) (A2 : Option Addr) (c2 : Nat) (l2 : List Nat) (m2 : Bool) (d : Int) (w : World) (h2 : jc w A2 c2 l2 m2 d) (hd : d ≠ 0) :
  Calls Tryz.prog 117 #[.agg #[.slice A1 l1.length c1, .bool m1, .slice A2 l2.length c2, .bool m2]] w fun e w' => e = .returned (.agg #[.slice A2 l2.length c2, .bool m2]) ∧ Below w.heap.size w w' := by
 have hl : ¬ l2.length = 0 := fun e => by have := h2.nat.Ha.2 e; omega
 have HI := hide (fun W => Wx A2 c2 l2.length m2 W)
 rw [decide_eq_false hl] at HI
 clear h2 hd
 go_enter Tryz.func117, Tryz.ntmps117
 go_wp2_with fail
 obtain ⟨n0, n1, hsz, hw0⟩ := xk w (.cells #[.slice A1 l1.length c1, .bool m1, .slice A2 l2.length c2, .bool m2] 63) (.cells #[.slice none 0 0, .bool false] 61)
 generalize ((w.alloc (.cells #[.slice A1 l1.length c1, .bool m1, .slice A2 l2.length c2, .bool m2] 63)).alloc (.cells #[.slice none 0 0, .bool false] 61)) = W0 at *
 have k2 : W0.cell? ⟨w.heap.size, 2, none⟩ = some (.slice A2 l2.length c2) := ae n0 2
 have k3 : W0.cell? ⟨w.heap.size, 3, none⟩ = some (.bool m2) := ae n0 3
 have q0 : w.heap.size < W0.heap.size := by omega
 have q1 : w.heap.size + 1 < W0.heap.size := by omega
 have r0 : W0.cell? ⟨w.heap.size + 1, 0, none⟩ = some (.slice none 0 0) := ae n1 0
 have r1 : W0.cell? ⟨w.heap.size + 1, 1, none⟩ = some (.bool false) := ae n1 1
 have f0 := bz n1 0
 have f1 := bz n1 1
 clear n0 n1 hsz
 refine ((aa HI) _).mono ?_
 rintro e w' ⟨rfl, hb⟩
 obtain ⟨hc, hfz⟩ := gp hb
 have ky : Below w.heap.size w w' := ek hw0 hb
 go_wp2_with fail
 exact bodyPost_ret (v := .agg #[.slice A2 l2.length c2, .bool m2]) (by simp [results, Tryz.results117, go_sem, hc, k2, k3, r0, r1, q1]) rfl
  ⟨rfl, ky.grown (oh _ _ _ _) ky.size (fun k hk => by injection hk with hk; omega)⟩

def bdx (w : World) (z : Int) (e : Ending) (w' : World) : Prop := ∃ (v : Int) (ok : Bool), e = .returned (.tuple #[.int .i64 v, .bool ok]) ∧ ok = decide (-9223372036854775808 ≤ z ∧ z ≤ 9223372036854775807) ∧ (ok = true → v = z) ∧ Below w.heap.size w w'

theorem Ui (l : List Nat) (h : 0 < l.length) : Wd.val ic (l.take 1) = Wd.g l 0 := by
 cases l with
 | nil => simp at h
 | cons a l => simp [Wd.val, Wd.vk, List.getD]
theorem aeb (l : List Nat) (h : 1 < l.length) : Wd.val ic (l.take 2) = Wd.g l 0 + Wd.g l 1 * 2 ^ 32 := by
 cases l with
 | nil => simp at h
 | cons a l => cases l with
  | nil => simp at h
  | cons b l => simp [Wd.val, Wd.vk, List.getD, iw]; omega

set_option maxHeartbeats 1000000 in
theorem Yk (A : Option Addr) (cap : Nat) (l : List Nat) (m : Bool) (z : Int) (w : World) (h : jc w A cap l m z) :
  Calls Tryz.prog 130 #[.agg #[.slice A l.length cap, .bool m]] w fun e w' => bdx w z e w' := by
 have hc1 := h.nat.wh; have hc2 := h.nat.cap2
 have hba : Below w.heap.size w (w.alloc (.cells #[.slice A l.length cap, .bool m] 61)) := (Below.refl _ _).alloc (Nat.le_refl _) _
 by_cases hl : l.length ≤ 2
 ·
  have d1 : decide ((2 : Int) < (l.length : Int)) = false := decide_eq_false om
  have hsg := h.sign
  have hn := (h.nat.below hba)
  have hbl := h.nat.Od
  obtain ⟨n0, hsz, hw0⟩ := air w (.cells #[.slice A l.length cap, .bool m] 61)
  have HN := hide hn; have HBL := hide hbl; have Ig := Lib.hid hsg; have HW0 := hide hw0
  clear hba hn hbl hsg h hw0
  go_enter Tryz.func130, Tryz.ntmps130
  go_wp2_with fail
  all_goals first | omega | skip
  generalize (w.alloc (.cells #[.slice A l.length cap, .bool m] 61)) = W0 at *
  have k0 : W0.cell? ⟨w.heap.size, 0, none⟩ = some (.slice A l.length cap) := ae n0 0
  have k1 : W0.cell? ⟨w.heap.size, 1, none⟩ = some (.bool m) := ae n0 1
  clear n0 hsz
  go_loop [4, 5] (fun uv iv => ∃ i : Nat, i ≤ l.length ∧ iv = .int .i64 ((i : Nat) : Int) ∧ uv = .int .u64 ((Wd.val ic (l.take i) : Nat) : Int)) (fun _ iv => l.length - (intOf iv).toNat)
  case atStart => exact ⟨0, Nat.zero_le _, rfl, rfl⟩
  case round =>
   obtain ⟨i, hi, rfl, rfl⟩ := hrel
   by_cases hlt : i < l.length
   ·
    obtain ⟨b, o, rfl, hbb, hcell⟩ := (aa HN).ws om
    have hx := hcell i hlt
    clear hcell
    obtain ⟨x, Il⟩ : ∃ x, x = Wd.g l i := ⟨_, rfl⟩
    rw [← Il] at hx
    have Aj : x < ic := by rw [Il]; exact Wd.getD_lt (by rw [iw]; omega) _ (aa HN).lt i
    have e0 : IntKind.u64.wrap (x : Int) = (x : Int) := kz rfl (by rw [iw] at Aj; rw [jg]; omega)
    have hi2 : i = 0 ∨ i = 1 := by omega
    rcases hi2 with rfl | rfl
    ·
     have hv : Wd.val ic (l.take 1) = x := by rw [Ui l hlt, Il]
     have hv0 : Wd.val ic (l.take 0) = 0 := rfl
     rw [Nat.add_zero] at hx
     rw [hv0]
     have g1 : Go.bits .or .u64 0 (x : Int) = (x : Int) := by
      have := bits_or_u64_nat 0 x om (by rw [iw] at Aj; omega)
      simpa using this
     have HV := Lib.hid hv
     clear hv Il hv0
     go_wp2_with fail
     go_round
     case rel => exact ⟨1, by omega, rfl, by rw [HV.out]⟩
     case measure => simp [intOf] <;> omega
    ·
     have hv : Wd.val ic (l.take 2) = Wd.g l 0 + x * 2 ^ 32 := by rw [aeb l hlt, Il]
     have hv0 : Wd.val ic (l.take 1) = Wd.g l 0 := Ui l om
     have Dw : Wd.g l 0 < ic := Wd.getD_lt (by rw [iw]; omega) _ (aa HN).lt 0
     obtain ⟨y, Uv⟩ : ∃ x, x = Wd.g l 0 := ⟨_, rfl⟩
     rw [← Uv] at hv hv0 Dw
     rw [hv0]
     obtain ⟨p, hp⟩ : ∃ p, p = x * 2 ^ 32 := ⟨_, rfl⟩
     obtain ⟨s, hs⟩ : ∃ s, s = y + p := ⟨_, rfl⟩
     have g0 : IntKind.u64.wrap ((x : Int) * 2 ^ 32) = (p : Int) := kz (by rw [hp]; simp) (by rw [hp]; rw [iw] at Aj; rw [jg]; omega)
     have g0' : IntKind.u64.wrap ((x : Int) * 4294967296) = (p : Int) := kz (by rw [hp]; simp) (by rw [hp]; rw [iw] at Aj; rw [jg]; omega)
     have g1 : Go.bits .or .u64 (y : Int) (p : Int) = (s : Int) := by
      rw [bits_or_u64_nat y p (by rw [iw] at Dw; omega) (by rw [hp]; rw [iw] at Aj; omega), hs, hp, Nu (by rw [iw] at Dw; omega)]
     rw [← hp, ← hs] at hv
     have HV := Lib.hid hv
     clear hv Il hv0 Uv hp hs
     go_wp2_with fail
     go_round
     case rel => exact ⟨2, by omega, rfl, by rw [HV.out]⟩
     case measure => simp [intOf] <;> omega
   ·
    have e : i = l.length := by omega
    subst e
    have hv : Wd.val ic (l.take l.length) = z.natAbs := by rw [List.take_length]; exact (aa HN).val
    rw [hv]
    obtain ⟨a, ha⟩ : ∃ a, a = z.natAbs := ⟨_, rfl⟩
    have haB : a < gy := by
     have := aa HBL
     have h2 : ic ^ l.length ≤ ic ^ 2 := Nat.pow_le_pow_right (by rw [iw]; omega) hl
     rw [← ha] at this; rw [jg]; rw [iw] at *; omega
    rw [← ha]
    clear hv hlt
    go_wp2_with fail
    ·
     have hm : m = true := by assumption
     have hz : z < 0 := of_decide_eq_true (Ig.out.symm.trans hm)
     go_ret2
     refine ⟨_, _, rfl, decide_eq_decide.2 om, fun h => ?_, aa HW0⟩
     have h2 := of_decide_eq_true h
     simp only [wrap64, IntKind.wrap_u64]
     omega
    ·
     have hm : ¬ m = true := by rw [show m = false by assumption]; exact Bool.false_ne_true
     have hz : ¬ z < 0 := fun h => hm (Ig.out.trans (decide_eq_true h))
     go_ret2
     refine ⟨_, _, rfl, decide_eq_decide.2 om, fun h => ?_, aa HW0⟩
     have h2 := of_decide_eq_true h
     rw [IntWalk.wrap64_in _ om]
     omega
 ·
  have d1 : decide ((2 : Int) < (l.length : Int)) = true := decide_eq_true om
  have hnot : ¬ (-9223372036854775808 ≤ z ∧ z ≤ 9223372036854775807) := by
   intro hz
   have := h.nat.len (k := 2) (by rw [iw]; omega)
   omega
  have HNO := hide hnot
  clear h hnot
  go_enter Tryz.func130, Tryz.ntmps130
  go_wp2_with fail
  all_goals first | omega | skip
  go_ret2
  exact ⟨0, false, rfl, (decide_eq_false (aa HNO)).symm, (fun h => Bool.noConfusion h), hba⟩
end Go.Proofs.YtfbcdfoohpkfeaaGreatDoor
namespace Go.Proofs.YtfbcdfoohpkfeaaGreatDoor
open Go.RowKit

set_option maxHeartbeats 16000000 in
theorem alb {w : World} {x y v q : Rat} (g1 : Xz w 79 y v) (g2 : Oy w 111 x v q) : Oy w 113 x y q := by
 intro s1 fu A1 c1 l1 s2 fw A2 c2 l2 s3 uq A3 c3 l3 s4 uk A4 c4 l4 W hW f1 f2 f3 f4
 replace g1 := g1.mono hW
 replace g2 := g2.mono hW
 clear hW w
 revert W
 intro w f1 f2 f3 f4 g1 g2
 have H1 := hide f1
 have H2 := hide f2
 have H3 := hide f3
 have H4 := hide f4
 clear f1 f2 f3 f4
 have Fa := hide g1
 have HG2 := hide g2
 clear g1 g2
 go_enter Tryz.func113, Tryz.ntmps113
 go_upto_region 1 with fail
 obtain ⟨n0, n1, n2, hsz, hw0⟩ := qg w (.cells #[.int .i64 s1, .bool fu, .slice A1 l1.length c1, .int .i64 s2, .bool fw, .slice A2 l2.length c2] 74) (.cells #[.int .i64 s3, .bool uq, .slice A3 l3.length c3, .int .i64 s4, .bool uk, .slice A4 l4.length c4] 74) (.cells #[.int .i64 0, .bool false, .slice none 0 0, .int .i64 0, .bool false, .slice none 0 0] 74)
 generalize (((w.alloc (.cells #[.int .i64 s1, .bool fu, .slice A1 l1.length c1, .int .i64 s2, .bool fw, .slice A2 l2.length c2] 74)).alloc (.cells #[.int .i64 s3, .bool uq, .slice A3 l3.length c3, .int .i64 s4, .bool uk, .slice A4 l4.length c4] 74)).alloc (.cells #[.int .i64 0, .bool false, .slice none 0 0, .int .i64 0, .bool false, .slice none 0 0] 74)) = W0 at *
 have oz : W0.cell? ⟨w.heap.size, 0, none⟩ = some (.int .i64 s1) := ae n0 0
 have ou : W0.cell? ⟨w.heap.size, 1, none⟩ = some (.bool fu) := ae n0 1
 have qh : W0.cell? ⟨w.heap.size, 2, none⟩ = some (.slice A1 l1.length c1) := ae n0 2
 have qz : W0.cell? ⟨w.heap.size, 3, none⟩ = some (.int .i64 s2) := ae n0 3
 have zf : W0.cell? ⟨w.heap.size, 4, none⟩ = some (.bool fw) := ae n0 4
 have ze : W0.cell? ⟨w.heap.size, 5, none⟩ = some (.slice A2 l2.length c2) := ae n0 5
 have q0 : w.heap.size < W0.heap.size := by omega
 have qb : W0.cell? ⟨w.heap.size + 1, 0, none⟩ = some (.int .i64 s3) := ae n1 0
 have qa : W0.cell? ⟨w.heap.size + 1, 1, none⟩ = some (.bool uq) := ae n1 1
 have rz : W0.cell? ⟨w.heap.size + 1, 2, none⟩ = some (.slice A3 l3.length c3) := ae n1 2
 have uj : W0.cell? ⟨w.heap.size + 1, 3, none⟩ = some (.int .i64 s4) := ae n1 3
 have Bp : W0.cell? ⟨w.heap.size + 1, 4, none⟩ = some (.bool uk) := ae n1 4
 have Bo : W0.cell? ⟨w.heap.size + 1, 5, none⟩ = some (.slice A4 l4.length c4) := ae n1 5
 have q1 : w.heap.size + 1 < W0.heap.size := by omega
 have za : W0.cell? ⟨w.heap.size + 1 + 1, 0, none⟩ = some (.int .i64 0) := ae n2 0
 have yz : W0.cell? ⟨w.heap.size + 1 + 1, 1, none⟩ = some (.bool false) := ae n2 1
 have yx : W0.cell? ⟨w.heap.size + 1 + 1, 2, none⟩ = some (.slice none 0 0) := ae n2 2
 have yw : W0.cell? ⟨w.heap.size + 1 + 1, 3, none⟩ = some (.int .i64 0) := ae n2 3
 have Ey : W0.cell? ⟨w.heap.size + 1 + 1, 4, none⟩ = some (.bool false) := ae n2 4
 have Ex : W0.cell? ⟨w.heap.size + 1 + 1, 5, none⟩ = some (.slice none 0 0) := ae n2 5
 have q2 : w.heap.size + 1 + 1 < W0.heap.size := by omega
 have Ae := bz n2 0
 have Ad := bz n2 1
 have Ac := bz n2 2
 have zz := bz n2 3
 have Gw := bz n2 4
 have Gv := bz n2 5
 have NR := Lib.hid n2
 clear hsz n0 n1 n2
 replace H1 := hide ((aa H1).below hw0)
 replace H2 := hide ((aa H2).below hw0)
 replace H3 := hide ((aa H3).below hw0)
 replace H4 := hide ((aa H4).below hw0)
 have KEEP := hide (show ∀ X, Below W0.heap.size W0 X → X.cell? ⟨w.heap.size, 0, none⟩ = some (.int .i64 s1) ∧ X.cell? ⟨w.heap.size, 1, none⟩ = some (.bool fu) ∧ X.cell? ⟨w.heap.size, 2, none⟩ = some (.slice A1 l1.length c1) ∧ X.cell? ⟨w.heap.size, 3, none⟩ = some (.int .i64 s2) ∧ X.cell? ⟨w.heap.size, 4, none⟩ = some (.bool fw) ∧ X.cell? ⟨w.heap.size, 5, none⟩ = some (.slice A2 l2.length c2) ∧ X.cell? ⟨w.heap.size + 1, 0, none⟩ = some (.int .i64 s3) ∧ X.cell? ⟨w.heap.size + 1, 1, none⟩ = some (.bool uq) ∧ X.cell? ⟨w.heap.size + 1, 2, none⟩ = some (.slice A3 l3.length c3) ∧ X.cell? ⟨w.heap.size + 1, 3, none⟩ = some (.int .i64 s4) ∧ X.cell? ⟨w.heap.size + 1, 4, none⟩ = some (.bool uk) ∧ X.cell? ⟨w.heap.size + 1, 5, none⟩ = some (.slice A4 l4.length c4) from fun X hB => ⟨au hB q0 oz, au hB q0 ou, au hB q0 qh, au hB q0 qz, au hB q0 zf, au hB q0 ze, au hB q1 qb, au hB q1 qa, au hB q1 rz, au hB q1 uj, au hB q1 Bp, au hB q1 Bo⟩)
 go_region_held3 (fun w' => w'.cell? ⟨w.heap.size, 0, none⟩ = some (.int .i64 s1) ∧ w'.cell? ⟨w.heap.size, 1, none⟩ = some (.bool fu) ∧ w'.cell? ⟨w.heap.size, 2, none⟩ = some (.slice A1 l1.length c1) ∧ w'.cell? ⟨w.heap.size, 3, none⟩ = some (.int .i64 s2) ∧ w'.cell? ⟨w.heap.size, 4, none⟩ = some (.bool fw) ∧ w'.cell? ⟨w.heap.size, 5, none⟩ = some (.slice A2 l2.length c2) ∧ w'.cell? ⟨w.heap.size + 1, 0, none⟩ = some (.int .i64 s3) ∧ w'.cell? ⟨w.heap.size + 1, 1, none⟩ = some (.bool uq) ∧ w'.cell? ⟨w.heap.size + 1, 2, none⟩ = some (.slice A3 l3.length c3) ∧ w'.cell? ⟨w.heap.size + 1, 3, none⟩ = some (.int .i64 s4) ∧ w'.cell? ⟨w.heap.size + 1, 4, none⟩ = some (.bool uk) ∧ w'.cell? ⟨w.heap.size + 1, 5, none⟩ = some (.slice A4 l4.length c4)) (first | with_reducible exact ⟨(jd _ _ _ _ _ _ _ _ om).trans (au hbw q0 oz), (jd _ _ _ _ _ _ _ _ om).trans (au hbw q0 ou), (jd _ _ _ _ _ _ _ _ om).trans (au hbw q0 qh), (jd _ _ _ _ _ _ _ _ om).trans (au hbw q0 qz), (jd _ _ _ _ _ _ _ _ om).trans (au hbw q0 zf), (jd _ _ _ _ _ _ _ _ om).trans (au hbw q0 ze), (jd _ _ _ _ _ _ _ _ om).trans (au hbw q1 qb), (jd _ _ _ _ _ _ _ _ om).trans (au hbw q1 qa), (jd _ _ _ _ _ _ _ _ om).trans (au hbw q1 rz), (jd _ _ _ _ _ _ _ _ om).trans (au hbw q1 uj), (jd _ _ _ _ _ _ _ _ om).trans (au hbw q1 Bp), (jd _ _ _ _ _ _ _ _ om).trans (au hbw q1 Bo)⟩ | with_reducible exact (aa KEEP) _ bel) (first | (go_at_call_of 79 (Value.agg #[.int .i64 s3, .bool uq, .slice A3 l3.length c3, .int .i64 s4, .bool uk, .slice A4 l4.length c4]); refine ((aa Fa) s3 uq A3 c3 l3 s4 uk A4 c4 l4 _ (ek hw0 bel) (ig.below (aa H3) bel) (ig.below (aa H4) bel)).mono ?_; rintro e w' ⟨s5, yf, A5, c5, l5, s6, Bw, A6, c6, l6, rfl, tq, xm, hb5⟩; have hbw := fo (w := W0) bel hb5; have hsw := hbw.size; obtain ⟨hc, hfz⟩ := gp hbw) | (go_at_call_of 111 (Value.agg #[.int .i64 s1, .bool fu, .slice A1 l1.length c1, .int .i64 s2, .bool fw, .slice A2 l2.length c2]); refine ((aa HG2) s1 fu A1 c1 l1 s2 fw A2 c2 l2 s5 yf A5 c5 l5 s6 Bw A6 c6 l6 _ (ek hw0 bel) (ig.below (aa H1) bel) (ig.below (aa H2) bel) (ig.below tq bel) (ig.below xm bel)).mono ?_; rintro e w' ⟨s7, Gh, A7, c7, l7, s8, Ky, A8, c8, l8, rfl, Fu, Ep, Eg⟩; have hbw := fo (w := W0) bel Eg; have hsw := hbw.size; obtain ⟨hc, hfz⟩ := gp hbw))
 have hblk : w'.heap[w.heap.size + 1 + 1]? = some (.cells #[.int .i64 0, .bool false, .slice none 0 0, .int .i64 0, .bool false, .slice none 0 0] 74 (0, 0)) := (hbw.block _ q2).trans NR.out
 have mo := Lib.hid hblk
 have ky : Below w.heap.size w w' := ek hw0 hbw
 clear hblk
 go_wp2_with fail
 exact bodyPost_ret (v := (Value.agg #[.int .i64 s7, .bool Gh, .slice A7 l7.length c7, .int .i64 s8, .bool Ky, .slice A8 l8.length c8])) (by simp [results, Tryz.results113, go_sem, hc, za, yz, yx, yw, Ey, Ex, q2]) rfl
  ⟨s7, Gh, A7, c7, l7, s8, Ky, A8, c8, l8, rfl, (Fu).upto mo.out (Ao _ _ _ _ _ _ _ _ _ _) (qy _ _ _ _ _ _ _ _), (Ep).upto mo.out (Ao _ _ _ _ _ _ _ _ _ _) (qy _ _ _ _ _ _ _ _), ky.grown (qy _ _ _ _ _ _ _ _) ky.size (fun k hk => by injection hk with hk; omega)⟩
theorem azc {w : World} {K : Nat} (hT : xg w) (x y : Rat) (hx : Dc K x) (hy : Dc K y) (hK : K + K + 1 ≤ lim) (h0 : y.num ≠ 0) : Oy w 113 x y (x / y) ∧ Dc (K + K) (x / y) := by
 obtain ⟨a, b⟩ := aau hT x (y⁻¹) hx (hy.inv h0) hK
 rw [Rat.div_def]
 exact ⟨alb (aze w y h0) a, b⟩

end Go.Proofs.YtfbcdfoohpkfeaaGreatDoor
namespace Go.Proofs.YtfbcdfoohpkfeaaGreatDoor
open Go.RowKit

def Mm (n d : Int) : Int := if Wd.wm n d then 0 else 1

set_option maxHeartbeats 2000000 in
theorem ard (n d : Int) (h1 : d < 1) (w : World) :
  Calls Tryz.prog 56 #[.agg #[.int .i64 n, .int .i64 d]] w fun e w' => e = .returned (.int .i64 1) ∧ Below w.heap.size w w' := by
 have d1 : decide (d < 1) = true := decide_eq_true om
 clear h1
 go_enter Tryz.func56, Tryz.ntmps56
 go_wp2
 go_ret
 exact ⟨rfl, (Below.refl _ _).alloc (Nat.le_refl _) _⟩
set_option maxHeartbeats 2000000 in
theorem arc (n d : Int) (h1 : ¬ d < 1) (h2 : 1000000000000 < d) (w : World) :
  Calls Tryz.prog 56 #[.agg #[.int .i64 n, .int .i64 d]] w fun e w' => e = .returned (.int .i64 1) ∧ Below w.heap.size w w' := by
 have d1 : decide (d < 1) = false := decide_eq_false om
 have d2 : decide (1000000000000 < d) = true := decide_eq_true om
 clear h1 h2
 go_enter Tryz.func56, Tryz.ntmps56
 go_wp2
 go_ret
 exact ⟨rfl, (Below.refl _ _).alloc (Nat.le_refl _) _⟩
set_option maxHeartbeats 2000000 in
theorem arb (n d : Int) (h1 : ¬ d < 1) (h2 : ¬ 1000000000000 < d) (h3 : n < -1000000000000) (w : World) :
  Calls Tryz.prog 56 #[.agg #[.int .i64 n, .int .i64 d]] w fun e w' => e = .returned (.int .i64 1) ∧ Below w.heap.size w w' := by
 have d1 : decide (d < 1) = false := decide_eq_false om
 have d2 : decide (1000000000000 < d) = false := decide_eq_false om
 have d3 : decide (n < -1000000000000) = true := decide_eq_true om
 clear h1 h2 h3
 go_enter Tryz.func56, Tryz.ntmps56
 go_wp2
 go_ret
 exact ⟨rfl, (Below.refl _ _).alloc (Nat.le_refl _) _⟩
set_option maxHeartbeats 2000000 in
theorem ara (n d : Int) (h1 : ¬ d < 1) (h2 : ¬ 1000000000000 < d) (h3 : ¬ n < -1000000000000) (h4 : 1000000000000 < n) (w : World) :
  Calls Tryz.prog 56 #[.agg #[.int .i64 n, .int .i64 d]] w fun e w' => e = .returned (.int .i64 1) ∧ Below w.heap.size w w' := by
 have d1 : decide (d < 1) = false := decide_eq_false om
 have d2 : decide (1000000000000 < d) = false := decide_eq_false om
 have d3 : decide (n < -1000000000000) = false := decide_eq_false om
 have d4 : decide (1000000000000 < n) = true := decide_eq_true om
 clear h1 h2 h3 h4
 go_enter Tryz.func56, Tryz.ntmps56
 go_wp2
 go_ret
 exact ⟨rfl, (Below.refl _ _).alloc (Nat.le_refl _) _⟩
set_option maxHeartbeats 2000000 in
theorem val_ok (n d : Int) (h1 : ¬ d < 1) (h2 : ¬ 1000000000000 < d) (h3 : ¬ n < -1000000000000) (h4 : ¬ 1000000000000 < n) (h5 : n.natAbs.gcd d.natAbs = 1) (w : World) (hT : xg w) :
  Calls Tryz.prog 56 #[.agg #[.int .i64 n, .int .i64 d]] w fun e w' => e = .returned (.int .i64 0) ∧ Below w.heap.size w w' := by
 have d1 : decide (d < 1) = false := decide_eq_false om
 have d2 : decide (1000000000000 < d) = false := decide_eq_false om
 have d3 : decide (n < -1000000000000) = false := decide_eq_false om
 have d4 : decide (1000000000000 < n) = false := decide_eq_false om
 have e1 : wrap64 (-n) = -n := IntWalk.wrap64_in _ om
 have e1' : IntKind.i64.wrap (-n) = -n := IntWalk.i64_in _ om
 obtain ⟨a, ha⟩ : ∃ a, a = n.natAbs := ⟨_, rfl⟩
 obtain ⟨b, hb⟩ : ∃ b, b = d.natAbs := ⟨_, rfl⟩
 have e2 : max n (-n) = ((a : Nat) : Int) := by omega
 have e3 : IntKind.u64.wrap ((a : Nat) : Int) = ((a : Nat) : Int) := by rw [IntKind.wrap_u64]; omega
 have e4 : IntKind.u64.wrap d = ((b : Nat) : Int) := by rw [IntKind.wrap_u64]; omega
 rw [← ha, ← hb] at h5
 have HG := hide (fun W (hW : xg W) => Qc a b (by rw [jg]; omega) (by rw [jg]; omega) W hW)
 have HT := hide hT
 obtain ⟨g, hg⟩ : ∃ g, g = a.gcd b := ⟨_, rfl⟩
 rw [← hg] at h5 HG
 have d5 : ((g : Int) == 1) = true := beq_iff_eq.2 om
 have d6 : ((g : Int) != 1) = false := by simp [bne, d5]
 clear h1 h2 h3 h4 h5 ha hb hg hT
 go_enter Tryz.func56, Tryz.ntmps56
 go_wp2_with fail
 refine ((aa HG) _ ((aa HT).alloc _)).mono ?_
 rintro e w' ⟨rfl, rfl⟩
 go_wp2
 go_ret
 exact ⟨rfl, (Below.refl _ _).alloc (Nat.le_refl _) _⟩
set_option maxHeartbeats 2000000 in
theorem aqz (n d : Int) (h1 : ¬ d < 1) (h2 : ¬ 1000000000000 < d) (h3 : ¬ n < -1000000000000) (h4 : ¬ 1000000000000 < n) (h5 : ¬ n.natAbs.gcd d.natAbs = 1) (w : World) (hT : xg w) :
  Calls Tryz.prog 56 #[.agg #[.int .i64 n, .int .i64 d]] w fun e w' => e = .returned (.int .i64 1) ∧ Below w.heap.size w w' := by
 have d1 : decide (d < 1) = false := decide_eq_false om
 have d2 : decide (1000000000000 < d) = false := decide_eq_false om
 have d3 : decide (n < -1000000000000) = false := decide_eq_false om
 have d4 : decide (1000000000000 < n) = false := decide_eq_false om
 have e1 : wrap64 (-n) = -n := IntWalk.wrap64_in _ om
 have e1' : IntKind.i64.wrap (-n) = -n := IntWalk.i64_in _ om
 obtain ⟨a, ha⟩ : ∃ a, a = n.natAbs := ⟨_, rfl⟩
 obtain ⟨b, hb⟩ : ∃ b, b = d.natAbs := ⟨_, rfl⟩
 have e2 : max n (-n) = ((a : Nat) : Int) := by omega
 have e3 : IntKind.u64.wrap ((a : Nat) : Int) = ((a : Nat) : Int) := by rw [IntKind.wrap_u64]; omega
 have e4 : IntKind.u64.wrap d = ((b : Nat) : Int) := by rw [IntKind.wrap_u64]; omega
 rw [← ha, ← hb] at h5
 have HG := hide (fun W (hW : xg W) => Qc a b (by rw [jg]; omega) (by rw [jg]; omega) W hW)
 have HT := hide hT
 obtain ⟨g, hg⟩ : ∃ g, g = a.gcd b := ⟨_, rfl⟩
 rw [← hg] at h5 HG
 have d5 : ((g : Int) == 1) = false := beq_eq_false_iff_ne.2 om
 have d6 : ((g : Int) != 1) = true := by simp [bne, d5]
 clear h1 h2 h3 h4 h5 ha hb hg hT
 go_enter Tryz.func56, Tryz.ntmps56
 go_wp2_with fail
 refine ((aa HG) _ ((aa HT).alloc _)).mono ?_
 rintro e w' ⟨rfl, rfl⟩
 go_wp2
 go_ret
 exact ⟨rfl, (Below.refl _ _).alloc (Nat.le_refl _) _⟩
theorem aan (n d : Int) (w : World) (hT : xg w) :
  Calls Tryz.prog 56 #[.agg #[.int .i64 n, .int .i64 d]] w fun e w' => e = .returned (.int .i64 (Mm n d)) ∧ Below w.heap.size w w' := by
 unfold Mm
 by_cases h1 : d < 1
 ·
  rw [if_neg (by unfold Wd.wm; omega)]; exact ard n d h1 w
 by_cases h2 : 1000000000000 < d
 ·
  rw [if_neg (by unfold Wd.wm; omega)]; exact arc n d h1 h2 w
 by_cases h3 : n < -1000000000000
 ·
  rw [if_neg (by unfold Wd.wm; omega)]; exact arb n d h1 h2 h3 w
 by_cases h4 : 1000000000000 < n
 ·
  rw [if_neg (by unfold Wd.wm; omega)]; exact ara n d h1 h2 h3 h4 w
 by_cases h5 : n.natAbs.gcd d.natAbs = 1
 ·
  rw [if_pos (by unfold Wd.wm; omega)]; exact val_ok n d h1 h2 h3 h4 h5 w hT
 ·
  rw [if_neg (by unfold Wd.wm; omega)]; exact aqz n d h1 h2 h3 h4 h5 w hT
end Go.Proofs.YtfbcdfoohpkfeaaGreatDoor
namespace Go.Proofs.YtfbcdfoohpkfeaaGreatDoor
open Go.RowKit

set_option maxHeartbeats 1000000 in
theorem ayg (n d : Int) (w : World) :
  Calls Tryz.prog 60 #[.agg #[.int .i64 n, .int .i64 d]] w fun e w' => e = .returned (.bool (decide (Wd.wm n d))) ∧ Below w.heap.size w w' := by
 have hba : Below w.heap.size w (w.alloc (.cells #[.int .i64 n, .int .i64 d] 23)) := (Below.refl _ _).alloc (Nat.le_refl _) _
 have HB := hide hba
 by_cases hr : 1 ≤ d ∧ d ≤ 1000000000000 ∧ -1000000000000 ≤ n ∧ n ≤ 1000000000000
 ·
  obtain ⟨r1, r2, r3, r4⟩ := hr
  have hok : decide (n.natAbs.gcd d.natAbs = 1) = decide (Wd.wm n d) := decide_eq_decide.2 (by
   unfold Wd.wm
   constructor
   ·
    intro h; refine ⟨?_, ?_, ?_, ?_, ?_⟩ <;> first | omega | exact h
   ·
    rintro ⟨_, _, _, _, h⟩; exact h)
  rw [← hok]
  obtain ⟨rb, hrb⟩ : ∃ b, b = decide (n.natAbs.gcd d.natAbs = 1) := ⟨_, rfl⟩
  rw [← hrb]
  have HRB := Lib.hid hrb
  clear hok hba hrb
  have d1 : decide (d < 1) = false := decide_eq_false om
  have d2 : decide (1000000000000 < d) = false := decide_eq_false om
  have d3 : decide (n < -1000000000000) = false := decide_eq_false om
  have d4 : decide (1000000000000 < n) = false := decide_eq_false om
  have en : IntKind.i64.wrap (-n) = -n := IntWalk.i64_in _ om
  obtain ⟨a, ha⟩ : ∃ a, a = n.natAbs := ⟨_, rfl⟩
  obtain ⟨b, hb⟩ : ∃ b, b = d.natAbs := ⟨_, rfl⟩
  go_enter Tryz.func60, Tryz.ntmps60
  go_wp2_with fail
  all_goals first | omega | skip
  all_goals go_quiet (fail)
  all_goals go_wp2_with fail
  all_goals
   have HRR := hide (And.intro r1 (And.intro r2 (And.intro r3 r4)))
   go_loopw [3, 4] (fun av bv wr => ∃ (a b : Nat), av = .int .i64 ((a : Nat) : Int) ∧ bv = .int .i64 ((b : Nat) : Int) ∧ a ≤ 1000000000000 ∧ b ≤ 1000000000000 ∧ Hid (a.gcd b = n.natAbs.gcd d.natAbs) ∧ Below w.heap.size w wr) (fun _ bv _ => (intOf bv).toNat)
   case atStart =>
    refine ⟨n.natAbs, d.natAbs, ?_, ?_, by omega, by omega, rfl, by first | exact aa HB | exact (aa HB).drew | exact xy (aa HB) _⟩
    ·
     show Value.int .i64 _ = Value.int .i64 _
     congr 1; omega
    ·
     show Value.int .i64 _ = Value.int .i64 _
     congr 1; omega
   case round =>
    obtain ⟨a, b, rfl, rfl, ha, hb, HG, hbl⟩ := hrel
    by_cases h0 : b = 0
    ·
     subst h0
     have hg := HG.out
     rw [Nat.gcd_zero_right] at hg
     have hres : ((a : Int) == 1) = rb := by
      rw [HRB.out]
      by_cases h : a = 1
      ·
       exact (show ((a : Int) == 1) = true by rw [h]; rfl).trans (decide_eq_true (hg.symm.trans h)).symm
      ·
       exact (show ((a : Int) == 1) = false from beq_eq_false_iff_ne.2 om).trans (decide_eq_false (fun e => h (hg.trans e))).symm
     have bki := Lib.hid hres
     clear hg hres
     go_wp2_with fail
     all_goals first | omega | skip
     go_ret
     exact ⟨by rw [← bki.out]; rfl, hbl⟩
    ·
     have dp : decide ((0 : Int) < (b : Int)) = true := decide_eq_true om
     have dp' : decide (0 < b) = true := decide_eq_true om
     have e1 : ((a : Int)).tmod (b : Int) = ((a % b : Nat) : Int) := (Int.ofNat_tmod _ _).symm
     have e2 : ((b : Int) == 0) = false := beq_eq_false_iff_ne.2 om
     have e3 : ¬ ((b : Int) = 0) := by omega
     have hm := Nat.mod_lt a (Nat.pos_of_ne_zero h0)
     obtain ⟨r, hr⟩ : ∃ r, r = a % b := ⟨_, rfl⟩
     rw [← hr] at e1 hm
     have e4 : IntKind.i64.wrap (r : Int) = (r : Int) := IntWalk.i64_in _ om
     have hgg : b.gcd r = n.natAbs.gcd d.natAbs := by
      rw [← HG.out, hr, Nat.gcd_comm b (a % b), ← Nat.gcd_rec b a, Nat.gcd_comm]
     have HGG := Lib.hid hgg
     clear hgg hr HG
     go_wp2_with fail
     all_goals first | omega | skip
     go_quiet (fail)
     go_wp2_with fail
     go_roundw
     case rel => exact ⟨b, r, by go_num, by go_num, by omega, by omega, HGG, by first | exact hbl | exact hbl.drew | exact xy hbl _⟩
     case measure => simp [intOf] <;> omega
 ·
  have hok : decide (Wd.wm n d) = false := decide_eq_false (by
   unfold Wd.wm
   rintro ⟨a1, a2, a3, a4, _⟩
   exact hr ⟨by omega, by omega, by omega, by omega⟩)
  rw [hok]
  clear hok hba
  go_enter Tryz.func60, Tryz.ntmps60
  go_wp2_with fail
  all_goals first | omega | skip
  all_goals
   go_ret
   exact ⟨rfl, aa HB⟩
end Go.Proofs.YtfbcdfoohpkfeaaGreatDoor
namespace Go.Proofs.YtfbcdfoohpkfeaaGreatDoor
open Go.RowKit

def Qr (n1 d1 n2 d2 : Int) : Int := if Wd.wm n1 d1 ∧ Wd.wm n2 d2 then 0 else 1

set_option maxHeartbeats 2000000 in
theorem apk (n1 d1 n2 d2 : Int) (g : Nat) (w : World) (hT : xg w) (hg : g < w.heap.size)
  (k0 : w.cell? ⟨g, 0, none⟩ = some (.int .i64 n1)) (k1 : w.cell? ⟨g, 1, none⟩ = some (.int .i64 d1)) (k2 : w.cell? ⟨g, 2, none⟩ = some (.int .i64 n2)) (k3 : w.cell? ⟨g, 3, none⟩ = some (.int .i64 d2)) :
  Calls Tryz.prog 112 #[.slice (some ⟨g, 0, none⟩) 2 2] w fun e w' => e = .returned (.int .i64 (Qr n1 d1 n2 d2)) ∧ Below w.heap.size w w' := by
 have HT := hide hT
 have HK := hide (And.intro k0 (And.intro k1 (And.intro k2 k3)))
 obtain ⟨r, hr⟩ : ∃ r, r = Qr n1 d1 n2 d2 := ⟨_, rfl⟩
 rw [← hr]
 have HR := Lib.hid hr
 have Wt := hide (fun W (hW : xg W) => aan n1 d1 W hW)
 have Qj := hide (fun W (hW : xg W) => aan n2 d2 W hW)
 clear hT hr k0 k1 k2 k3
 go_enter Tryz.func112, Tryz.ntmps112
 go_wp2
 go_loopw [8] (fun iv wr => ∃ i : Nat, i ≤ 2 ∧ iv = .int .i64 ((i : Nat) : Int) ∧ Hid (0 < i → Wd.wm n1 d1) ∧ Hid (1 < i → Wd.wm n2 d2) ∧ Below w.heap.size w wr) (fun iv _ => 2 - (intOf iv).toNat)
 case atStart => exact ⟨0, by omega, rfl, fun h => by omega, fun h => by omega, Below.refl _ _⟩
 case round =>
  obtain ⟨i, hi, rfl, h1, h2, hb⟩ := hrel
  have hTr : xg wr := (aa HT).below hb
  have kk : ∀ o v, w.cell? ⟨g, o, none⟩ = some v → wr.cell? ⟨g, o, none⟩ = some v := fun o v hv => (hb.cell (p := ⟨g, o, none⟩) hg).trans hv
  have k0 := kk _ _ (aa HK).1
  have k1 := kk _ _ (aa HK).2.1
  have k2 := kk _ _ (aa HK).2.2.1
  have k3 := kk _ _ (aa HK).2.2.2
  have Ug := hide hTr
  clear kk hTr hg
  by_cases i2 : i = 2
  ·
   subst i2
   have hr : r = 0 := by rw [HR.out]; unfold Qr; rw [if_pos ⟨(aa h1) om, (aa h2) om⟩]
   subst hr
   go_wp2
   go_ret
   exact ⟨rfl, hb⟩
  by_cases i1 : i = 1
  ·
   subst i1
   by_cases ok : Wd.wm n2 d2
   ·
    have hv : Mm n2 d2 = 0 := if_pos ok
    rw [hv] at Qj
    clear i2 hi hv
    go_wp2_with fail
    refine ((aa Qj) _ (by first | exact (aa Ug).alloc _ | exact ((aa Ug).alloc _).alloc _ | exact (aa Ug).drew.alloc _)).mono ?_
    rintro e w' ⟨rfl, hb2⟩
    have hb3 : Below w.heap.size w w' := ek (hb.alloc hb.size _) hb2
    go_wp2
    go_roundw
    case rel => exact ⟨2, by omega, by go_num, fun _ => (aa h1) om, fun _ => ok, hb3⟩
    case measure => simp [intOf]
   ·
    have hv : Mm n2 d2 = 1 := if_neg ok
    have hr : r = 1 := by rw [HR.out]; unfold Qr; rw [if_neg (fun h => ok h.2)]
    subst hr
    rw [hv] at Qj
    clear i2 hi hv
    go_wp2_with fail
    refine ((aa Qj) _ (by first | exact (aa Ug).alloc _ | exact ((aa Ug).alloc _).alloc _ | exact (aa Ug).drew.alloc _)).mono ?_
    rintro e w' ⟨rfl, hb2⟩
    have hb3 : Below w.heap.size w w' := ek (hb.alloc hb.size _) hb2
    go_wp2
    go_ret
    exact ⟨rfl, hb3⟩
  ·
   have i0 : i = 0 := by omega
   subst i0
   by_cases ok : Wd.wm n1 d1
   ·
    have hv : Mm n1 d1 = 0 := if_pos ok
    rw [hv] at Wt
    clear i1 i2 hi hv
    go_wp2_with fail
    refine ((aa Wt) _ (by first | exact (aa Ug).alloc _ | exact ((aa Ug).alloc _).alloc _ | exact (aa Ug).drew.alloc _)).mono ?_
    rintro e w' ⟨rfl, hb2⟩
    have hb3 : Below w.heap.size w w' := ek (hb.alloc hb.size _) hb2
    go_wp2
    go_roundw
    case rel => exact ⟨1, by omega, by go_num, fun _ => ok, fun h => by omega, hb3⟩
    case measure => simp [intOf]
   ·
    have hv : Mm n1 d1 = 1 := if_neg ok
    have hr : r = 1 := by rw [HR.out]; unfold Qr; rw [if_neg (fun h => ok h.1)]
    subst hr
    rw [hv] at Wt
    clear i1 i2 hi hv
    go_wp2_with fail
    refine ((aa Wt) _ (by first | exact (aa Ug).alloc _ | exact ((aa Ug).alloc _).alloc _ | exact (aa Ug).drew.alloc _)).mono ?_
    rintro e w' ⟨rfl, hb2⟩
    have hb3 : Below w.heap.size w w' := ek (hb.alloc hb.size _) hb2
    go_wp2
    go_ret
    exact ⟨rfl, hb3⟩
end Go.Proofs.YtfbcdfoohpkfeaaGreatDoor
namespace Go.Proofs.YtfbcdfoohpkfeaaGreatDoor
open Go.RowKit

end Go.Proofs.YtfbcdfoohpkfeaaGreatDoor
namespace Go.Proofs.YtfbcdfoohpkfeaaGreatDoor
open Go.RowKit

set_option maxHeartbeats 8000000 in
theorem aas (n d : Int) (w : World) (b1 : -9223372036854775808 ≤ n) (b2 : n ≤ 9223372036854775807) (b3 : -9223372036854775808 ≤ d) (b4 : d ≤ 9223372036854775807) :
  Calls Tryz.prog 57 #[(.agg #[.int .i64 n, .int .i64 d])] w fun e w' => Ia w n d e w' := by
 have HN1 := hide (fun W => Ju n b1 b2 W)
 have HN2 := hide (fun W => Ju d b3 b4 W)
 clear b1 b2 b3 b4
 go_enter Tryz.func57, Tryz.ntmps57
 go_wp2_with fail
 obtain ⟨n0, n1, hsz, hw0⟩ := xk w (.cells #[.int .i64 n, .int .i64 d] 23) (.cells #[.int .i64 0, .bool false, .slice none 0 0, .int .i64 0, .bool false, .slice none 0 0] 74)
 generalize ((w.alloc (.cells #[.int .i64 n, .int .i64 d] 23)).alloc (.cells #[.int .i64 0, .bool false, .slice none 0 0, .int .i64 0, .bool false, .slice none 0 0] 74)) = W0 at *
 have oz : W0.cell? ⟨w.heap.size, 0, none⟩ = some (.int .i64 n) := ae n0 0
 have ou : W0.cell? ⟨w.heap.size, 1, none⟩ = some (.int .i64 d) := ae n0 1
 have q0 : w.heap.size < W0.heap.size := by omega
 have qb : W0.cell? ⟨w.heap.size + 1, 0, none⟩ = some (.int .i64 0) := ae n1 0
 have qa : W0.cell? ⟨w.heap.size + 1, 1, none⟩ = some (.bool false) := ae n1 1
 have rz : W0.cell? ⟨w.heap.size + 1, 2, none⟩ = some (.slice none 0 0) := ae n1 2
 have uj : W0.cell? ⟨w.heap.size + 1, 3, none⟩ = some (.int .i64 0) := ae n1 3
 have Bp : W0.cell? ⟨w.heap.size + 1, 4, none⟩ = some (.bool false) := ae n1 4
 have Bo : W0.cell? ⟨w.heap.size + 1, 5, none⟩ = some (.slice none 0 0) := ae n1 5
 have q1 : w.heap.size + 1 < W0.heap.size := by omega
 have Ms := bz n1 0
 have Mr := bz n1 1
 have agl := bz n1 2
 have agk := bz n1 3
 have avp := bz n1 4
 have avo := bz n1 5
 have NR := Lib.hid n1
 clear n0 n1
 go_region_held3 (fun w' => w'.cell? ⟨w.heap.size, 0, none⟩ = some (.int .i64 n) ∧ w'.cell? ⟨w.heap.size, 1, none⟩ = some (.int .i64 d)) ((first | with_reducible exact ⟨(hc _ _ q0).trans oz, (hc _ _ q0).trans ou⟩ | with_reducible exact ⟨oz, ou⟩ | with_reducible exact ⟨(jd _ _ _ _ _ _ _ _ om).trans ((hc _ _ q0).trans oz), (jd _ _ _ _ _ _ _ _ om).trans ((hc _ _ q0).trans ou)⟩ | exact ⟨(hc _ _ q0).trans oz, (hc _ _ q0).trans ou⟩ | exact ⟨oz, ou⟩ | exact ⟨(jd _ _ _ _ _ _ _ _ om).trans ((hc _ _ q0).trans oz), (jd _ _ _ _ _ _ _ _ om).trans ((hc _ _ q0).trans ou)⟩)) (first | (go_at_call 124; refine ((aa HN1) _).mono ?_; clear HN1; rintro e w' ⟨s5, yf, A5, c5, l5, rfl, tq, hb⟩; have hbw := fo (w := W0) bem hb; obtain ⟨hc, hfz⟩ := gp hbw) | (go_at_call 124; refine ((aa HN2) _).mono ?_; rintro e w' ⟨s6, Bw, A6, c6, l6, rfl, xm, hb⟩; have tq := tq.below hb; have hbw := fo (w := W0) bem hb; obtain ⟨hc, hfz⟩ := gp hbw))
 have hblk : w'.heap[w.heap.size + 1]? = some (.cells #[.int .i64 0, .bool false, .slice none 0 0, .int .i64 0, .bool false, .slice none 0 0] 74 (0, 0)) := (hbw.block _ q1).trans NR.out
 have mo := Lib.hid hblk
 have ky : Below w.heap.size w w' := ek hw0 hbw
 clear hblk
 go_wp2_with fail
 exact bodyPost_ret (v := (Value.agg #[.int .i64 s5, .bool yf, .slice A5 l5.length c5, .int .i64 s6, .bool Bw, .slice A6 l6.length c6])) (by simp [results, Tryz.results57, go_sem, hc, qb, qa, rz, uj, Bp, Bo, q1]) rfl
  ⟨s5, yf, A5, c5, l5, s6, Bw, A6, c6, l6, rfl, (tq).upto mo.out (Ao _ _ _ _ _ _ _ _ _ _) (qy _ _ _ _ _ _ _ _), (xm).upto mo.out (Ao _ _ _ _ _ _ _ _ _ _) (qy _ _ _ _ _ _ _ _), ky.grown (qy _ _ _ _ _ _ _ _) ky.size (fun k hk => by injection hk with hk; omega)⟩

end Go.Proofs.YtfbcdfoohpkfeaaGreatDoor
namespace Go.Proofs.YtfbcdfoohpkfeaaGreatDoor
open Go.RowKit

end Go.Proofs.YtfbcdfoohpkfeaaGreatDoor
namespace Go.Proofs.YtfbcdfoohpkfeaaGreatDoor
open Go.RowKit

end Go.Proofs.YtfbcdfoohpkfeaaGreatDoor
namespace Go.Proofs.YtfbcdfoohpkfeaaGreatDoor
open Go.RowKit

end Go.Proofs.YtfbcdfoohpkfeaaGreatDoor
