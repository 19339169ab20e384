/- Texts beneath a law of layer 1. -/
import Derived.Test.YtfgeaakhlcaibaaGreatDoorDa8
import Derived.Deep.DeepCutAuto
set_option maxRecDepth 100000
set_option maxHeartbeats 16000000
namespace Go.Proofs.YtfgeaakhlcaibaaGreatDoor
open Go.RowKit

theorem ara (y : Nat) (hy : y < dw) (h0 : 0 < y) (w : World) : ∃ s : Nat, s < 32 ∧ 2147483648 ≤ y * 2 ^ s ∧ y * 2 ^ s < dw ∧
  ∀ w : World, Calls Tryz.prog 211 #[.int .u32 ((y : Nat) : Int)] w fun e w' => e = .returned (.int .i64 ((s : Nat) : Int)) ∧ w' = w := by
 obtain ⟨h1, h2⟩ := Pz 64 y (by rw [fo] at hy; omega)
 have h3 := (h2 om).1
 change y < 2 ^ Lib.bitLen y at h1
 change 2 ^ (Lib.bitLen y - 1) ≤ y at h3
 have hle := Lib.bitLen_le y 32 om (by rw [fo] at hy; omega)
 have hpos : 0 < Lib.bitLen y := by
  apply Classical.byContradiction
  intro h
  rw [show Lib.bitLen y = 0 by omega] at h1
  simp at h1; omega
 have e1 : 2 ^ (Lib.bitLen y - 1) * 2 ^ (32 - Lib.bitLen y) = 2147483648 := by
  rw [← Nat.pow_add, show Lib.bitLen y - 1 + (32 - Lib.bitLen y) = 31 by omega]
 have e2 : 2 ^ Lib.bitLen y * 2 ^ (32 - Lib.bitLen y) = dw := by
  rw [← Nat.pow_add, show Lib.bitLen y + (32 - Lib.bitLen y) = 32 by omega]; rfl
 refine ⟨32 - Lib.bitLen y, by omega, ?_, ?_, fun w => ?_⟩
 ·
  rw [← e1]; exact Nat.mul_le_mul_right _ h3
 ·
  rw [← e2]; exact Nat.mul_lt_mul_of_pos_right h1 (Nat.pow_pos om)
 ·
  refine (Tryz.bits_LeadingZeros32 (y : Int) w om (by rw [fo] at hy; omega)).mono ?_
  rintro e w' ⟨rfl, rfl⟩
  refine ⟨wm ?_, rfl⟩
  rw [Int.toNat_natCast]; omega

theorem aay (yl : List Nat) (m s : Nat) (avy : s ≤ 32) (hn : 1 ≤ yl.length) (hlt : ∀ x ∈ yl, x < dw) (hv : Wd.val dw yl = m) (hs1 : yl.getD (yl.length - 1) 0 * 2 ^ s < dw) (ht : yl.getD (yl.length - 1) 0 ≠ 0) :
  dw ^ (yl.length - 1) * 2 ^ s ≤ m * 2 ^ s ∧ m * 2 ^ s < dw ^ yl.length := by
 have h2 := Wd.mq dw yl (yl.length - 1) om
 rw [show yl.length - 1 + 1 = yl.length by omega, Wd.iy _ _ _ (Nat.le_refl _), hv] at h2
 have h3 := Wd.za (B := dw) (yl.take (yl.length - 1)) (fun x hx => hlt x (List.mem_of_mem_take hx))
 rw [List.length_take, Nat.min_eq_left om] at h3
 have e : dw ^ yl.length = dw ^ (yl.length - 1) * dw := by rw [← Nat.pow_succ, show (yl.length - 1).succ = yl.length by omega]
 rw [e]
 generalize hP : dw ^ (yl.length - 1) = P at *
 generalize yl.getD (yl.length - 1) 0 = t at *
 have hS : 0 < 2 ^ s := Nat.pow_pos om
 have hsp := Aq s avy
 generalize 2 ^ s = S at *
 generalize 2 ^ (32 - s) = T at *
 have h6 : t * S + S ≤ dw := by
  rw [← hsp, Nat.mul_comm S] at hs1 ⊢
  have := Nat.lt_of_mul_lt_mul_right hs1
  have h7 : (t + 1) * S ≤ T * S := Nat.mul_le_mul_right _ this
  rwa [Nat.add_mul, Nat.one_mul] at h7
 constructor
 ·
  refine Nat.mul_le_mul_right _ ?_
  have : P * 1 ≤ P * t := Nat.mul_le_mul_left _ om
  omega
 ·
  have h4 : m + 1 ≤ P * (t + 1) := by rw [Nat.mul_add, Nat.mul_one]; omega
  have h5 : (m + 1) * S ≤ P * (t + 1) * S := Nat.mul_le_mul_right _ h4
  rw [Nat.add_mul, Nat.one_mul, Nat.mul_assoc, Nat.add_mul, Nat.one_mul] at h5
  have : P * (t * S + S) ≤ P * dw := Nat.mul_le_mul_left _ h6
  omega

theorem aeu (Ax : Option Addr) (cx : Nat) (xl : List Nat) (n s : Nat) (w : World) (hx : qd w Ax cx xl n) (hs : s < 32) (hk : xl.length + 1 ≤ 35184372088832) :
  Calls Tryz.prog 212 #[.slice Ax xl.length cx, .int .u64 ((s : Nat) : Int)] w fun e w' =>
   ∃ b zr, e = .returned (.slice (some ⟨b, 0, none⟩) (xl.length + 1) (xl.length + 1)) ∧ w.heap.size ≤ b ∧ zr.length = xl.length + 1 ∧ (∀ x ∈ zr, x < dw) ∧ Wd.val dw zr = n * 2 ^ s ∧ ZB .u32 w' b 187 zr ∧ Below w.heap.size w w' :=
 (aiw Ax cx xl n s w hx hs hk).mono fun e w' ⟨zr, h1, h2, h3, h4, h5, h6⟩ => ⟨w.heap.size, zr, h1, Nat.le_refl _, h2, h3, h4, h5, h6⟩

theorem amq (Ax Ay : Option Addr) (cx cy : Nat) (xl yl : List Nat) (n m : Nat) (w : World) (hx : qd w Ax cx xl n) (hy : qd w Ay cy yl m) (hge : ¬ n < m) (hk : xl.length + 1 ≤ 35184372088832) (hk2 : yl.length + 1 ≤ 35184372088832) (hn2 : 2 ≤ yl.length) :
  Calls Tryz.prog 178 #[.slice Ax xl.length cx, .slice Ay yl.length cy] w fun e w' => aaj w (n / m) (n % m) e w' := by
 have hx1 := hx.qp; have hx2 := hx.cap2; have hy1 := hy.qp; have hy2 := hy.cap2
 have hny : yl.length ≤ xl.length := by
  rcases Nat.lt_or_ge xl.length yl.length with h | h
  ·
   exfalso; apply hge; rw [← hx.val, ← hy.val]; exact Wd.uj Ct xl yl hx.lt hy.norm h
  ·
   exact h
 have hc := Qn Ax Ay cx cy xl yl n m w hx hy
 obtain ⟨o3, ho3⟩ : ∃ o, o = xu n m := ⟨_, rfl⟩
 rw [← ho3] at hc
 have ho : decide (o3 < 0) = false := decide_eq_false (by rw [ho3]; unfold xu; rw [if_neg hge]; split <;> omega)
 have HC := hide hc
 have hb1 : ((yl.length : Int) == 1) = false := by simp; omega
 obtain ⟨by', oy, hA, hby, hcy⟩ := hy.ws om
 subst hA
 have hyt := hcy (yl.length - 1) om
 obtain ⟨yt, Fg⟩ : ∃ t, t = Wd.g yl (yl.length - 1) := ⟨_, rfl⟩
 rw [← Fg] at hyt
 have Ig : yt < dw := by rw [Fg]; exact Wd.getD_lt (by rw [fo]; omega) _ hy.lt _
 have hy0 : yt ≠ 0 := by
  rw [Fg]
  rcases hy.norm with h | h
  ·
   rw [h] at hn2; simp at hn2
  ·
   exact h
 have hm : 0 < m := by
  rcases Nat.eq_zero_or_pos m with h | h
  ·
   exfalso
   have h1 := ato (B := dw) yl yl.length om rfl
   rw [hy.val, h] at h1
   have h2 : 0 < dw ^ (yl.length - 1) := Nat.pow_pos (by rw [fo]; omega)
   have h3 := Nat.mul_pos (Nat.pos_of_ne_zero (show yl.getD (yl.length - 1) 0 ≠ 0 by rw [← Wd.qa, ← Fg]; exact hy0)) h2
   omega
  ·
   exact h
 obtain ⟨s, hs, hs1, hs2, hlz⟩ := ara yt Ig om w
 obtain ⟨vb1, vb2⟩ := aay yl m s om om hy.lt hy.val (by rw [← Wd.qa, ← Fg]; exact hs2) (by rw [← Wd.qa, ← Fg]; exact hy0)
 obtain ⟨lq, hlq⟩ : ∃ t, t = xl.length + 1 - yl.length := ⟨_, rfl⟩
 have Xt : ((lq : Nat) : Int) = (xl.length : Int) + 1 - (yl.length : Int) := by omega
 have hmk := Zf lq om
 rw [Xt] at hmk
 have bnz : lq + yl.length = xl.length + 1 := by omega
 have es : IntKind.u64.wrap (s : Int) = (s : Int) := iw rfl (by rw [gm]; omega)
 have HLZ := hide hlz
 have HLQ := Lib.hid Xt
 have HYT := Lib.hid Fg
 have HV1 := hide vb1; have HV2 := hide vb2
 clear hlz Fg hcy vb1 vb2 hs1 hs2 Xt hlq hc ho3 hge
 go_enter Tryz.func178, Tryz.ntmps178
 go_wp2_with fail
 refine (aa HC).mono ?_
 rintro e w' ⟨rfl, k, rfl⟩
 go_wp2_with fail
 refine ((aa HLZ) _).mono ?_
 rintro e w1 ⟨rfl, hw1⟩
 have Gq : Below w.heap.size w w1 := by rw [hw1]; exact mi (Below.refl _ _) k
 clear hw1
 go_wp2_with fail
 refine (aeu Ax cx xl n s w1 (hx.below Gq) hs hk).mono ?_
 rintro e w2 ⟨bu, uz, rfl, hbu, Kn, avs, huv, Wn, hb2⟩
 have bno := (hy.below Gq).below hb2
 have HUL := Lib.hid Kn
 have Ir := Lib.hid huv
 clear Kn huv
 go_wp2_with fail
 refine (aeu _ cy yl m s w2 bno hs hk2).mono ?_
 rintro e w4 ⟨bv, vz, rfl, hbv, hvl, Xr, hvv, Pv, hb3⟩
 have HVL := Lib.hid hvl; have HVV := Lib.hid hvv
 have buv : bu < bv := Nat.lt_of_lt_of_le Wn.lt hbv
 replace Wn := Wn.below hb3 Wn.lt
 clear hvl hvv
 go_wp2_with fail
 have htr := Ee (some ⟨bv, 0, none⟩) vz.length vz w4.heap.size w4 (Pv.Dw _ Pv.lt) (Nat.le_refl _) (by have := HVL.out; omega)
 rw [HVL.out] at htr
 refine htr.mono ?_
 rintro e w3 ⟨⟨kv, rfl, ht, hkv⟩, hw3⟩
 obtain rfl : w4 = w3 := hw3.symm
 clear hw3
 have Em : (vz.take kv).length = yl.length := by
  refine We Ct _ ht.norm (fun x hx => Xr x (List.mem_of_mem_take hx)) _ om ?_ ?_
  ·
   rw [ht.val, HVV.out]; exact Nat.le_trans (Nat.le_mul_of_pos_right _ (Nat.pow_pos om)) (aa HV1)
  ·
   rw [ht.val, HVV.out]; exact aa HV2
 have awe : kv = yl.length := by have := HVL.out; rw [List.length_take] at Em; omega
 subst awe
 have HT := hide ht; have HVN := Lib.hid Em
 have Xw : Below w.heap.size w w4 := Gq.trans ((hb2.mono Gq.size).trans (hb3.mono (Nat.le_trans Gq.size hb2.size)))
 clear ht Em
 obtain ⟨V, hV⟩ : ∃ t, t = m * 2 ^ s := ⟨_, rfl⟩
 have Zu : Wd.val dw (vz.take yl.length) = V := by rw [(aa HT).val, HVV.out, hV]
 have ahf : V < dw ^ yl.length := by rw [hV]; exact aa HV2
 have Ho : 0 < V := by rw [hV]; exact Nat.mul_pos hm (Nat.pow_pos om)
 have htop : Wd.val dw uz < V * dw ^ lq := by
  rw [Ir.out, hV]
  have h1 := Wd.za xl hx.lt
  rw [hx.val] at h1
  have h2 := aa HV1
  have h3 : dw ^ (yl.length - 1) * dw ^ lq = dw ^ xl.length := by rw [← Nat.pow_add, show yl.length - 1 + lq = xl.length by omega]
  have h4 : dw ^ (yl.length - 1) * 2 ^ s * dw ^ lq ≤ m * 2 ^ s * dw ^ lq := Nat.mul_le_mul_right _ h2
  have h5 : n * 2 ^ s < dw ^ xl.length * 2 ^ s := Nat.mul_lt_mul_of_pos_right h1 (Nat.pow_pos om)
  have h6 : dw ^ (yl.length - 1) * 2 ^ s * dw ^ lq = dw ^ xl.length * 2 ^ s := by
   rw [← h3]; simp only [Nat.mul_comm, Nat.mul_left_comm, Nat.mul_assoc]
  omega
 have hstart : Wd.ve dw V uz uz (List.replicate lq 0) lq := Wd.ve.start _ _ _ avs (Jd (by rw [fo]; omega) _) (by simp) htop
 have anc : Ws .u32 w4 (bv + 1) (some ⟨bv, 0, none⟩) (vz.take yl.length) := (Pv.Dw _ (Nat.lt_succ_self _)).Qo _
 have hgt : ∀ i, i < yl.length → Wd.g vz i = Wd.g (vz.take yl.length) i := fun i hi => by rw [Wd.qa, Wd.qa, Wd.getD_take _ _ _ hi]
 have hvt := Pv.cell (yl.length - 1) (by have := HVL.out; omega)
 have avr := Pv.cell (yl.length - 2) (by have := HVL.out; omega)
 rw [hgt _ om] at hvt avr
 obtain ⟨top, htp⟩ : ∃ t, t = Wd.g (vz.take yl.length) (yl.length - 1) := ⟨_, rfl⟩
 obtain ⟨next, hnx⟩ : ∃ t, t = Wd.g (vz.take yl.length) (yl.length - 2) := ⟨_, rfl⟩
 rw [← htp] at hvt
 rw [← hnx] at avr
 have Tx : top < dw := by rw [htp]; exact Wd.getD_lt (by rw [fo]; omega) _ (fun x hx => Xr x (List.mem_of_mem_take hx)) _
 have hnB : next < dw := by rw [hnx]; exact Wd.getD_lt (by rw [fo]; omega) _ (fun x hx => Xr x (List.mem_of_mem_take hx)) _
 have et : IntKind.u64.wrap (top : Int) = (top : Int) := iw rfl (by rw [fo] at Tx; rw [gm]; omega)
 have en : IntKind.u64.wrap (next : Int) = (next : Int) := iw rfl (by rw [fo] at hnB; rw [gm]; omega)
 have hv4 : bv < w4.heap.size := Pv.lt
 have hu4 : bu < w4.heap.size := Wn.lt
 have f1 : IntKind.i64.wrap ((yl.length : Int) - 1) = (yl.length : Int) - 1 := IntWalk.i64_in _ om
 have f2 : (0 : Int) ≤ (yl.length : Int) - 1 := by omega
 have f3 : ((yl.length : Int) - 1).toNat = yl.length - 1 := by omega
 have f4 : IntKind.i64.wrap ((yl.length : Int) - 2) = (yl.length : Int) - 2 := IntWalk.i64_in _ om
 have f5 : (0 : Int) ≤ (yl.length : Int) - 2 := by omega
 have f6 : ((yl.length : Int) - 2).toNat = yl.length - 2 := by omega
 have i1 : ¬ (bv = w4.heap.size) := by omega
 have i2 : ¬ (w4.heap.size = bv) := by omega
 have Ry := Lib.hid Zu; have aih := hide ahf; have HV0 := hide Ho; have axi := Lib.hid hV; have HST := hide hstart
 have HTP := Lib.hid htp; have HNX := Lib.hid hnx; have Yg := hide (And.intro hv4 hu4)
 have boa : 0 < lq := by omega
 clear Zu ahf hV hstart htop hyt hy0 htp hnx hgt Tx hnB
 go_wp2_with fail
 go_quiet (fail)
 go_wp2_with fail
 go_loopw [16] (fun iv wr => ∃ (i : Int) (us qs : List Nat), -1 ≤ i ∧ i < lq ∧ iv = .int .i64 i ∧ Hid (Wd.ve dw V uz us qs (i + 1).toNat) ∧ Hid (qs.length = lq) ∧ ZB .u32 wr bu 187 us ∧ ZB .u32 wr w4.heap.size 187 qs ∧ Ws .u32 wr (bv + 1) (some ⟨bv, 0, none⟩) (vz.take yl.length) ∧ Below w.heap.size w wr ∧ w4.heap.size < wr.heap.size) (fun iv _ => (intOf iv + 1).toNat)
 case atStart =>
  refine ⟨(lq : Int) - 1, uz, List.replicate lq 0, by omega, by omega, rfl, ?_, by show _ = _; simp, (Wn.alloc _).drewN _, ZB.drewN (heap_alloc_new w4 _) _, (anc.alloc om _).drewN _, mi (Xw.alloc Xw.size _) _, by show w4.heap.size < (w4.alloc _).heap.size; simp⟩
  rw [show ((lq : Int) - 1 + 1).toNat = lq by omega]
  exact HST
 case round =>
  clear Wn Pv anc hvt avr
  obtain ⟨i, us, qs, hi1, hi2, rfl, HI, Ku, Mm, hqz, Wm, hbr, avw⟩ := hrel
  obtain ⟨wo, rfl⟩ : ∃ wo : World, wo = wr := ⟨_, rfl⟩
  by_cases h0 : i < 0
  ·
   have e : i = -1 := by omega
   subst e
   obtain ⟨v1, v2⟩ := HI.out.done
   have hS : 0 < 2 ^ s := Nat.pow_pos om
   obtain ⟨sd1, sd2⟩ := Wd.Qu (N := n) (Y := m) (S := 2 ^ s) hS
   rw [Ir.out, axi.out] at v1 v2
   rw [sd1] at v1
   have v3 : Wd.val dw us / 2 ^ s = n % m := by rw [v2]; exact sd2
   have V1 := Lib.hid v1; have V3 := Lib.hid v3
   have Jm : us.length = xl.length + 1 := HI.out.Af.trans HUL.out
   have axo := hide HI.out.lt; have axn := hide HI.out.ltq
   have Jn := Ee (some ⟨bu, 0, none⟩) us.length us wo.heap.size wo (Mm.Dw _ Mm.lt) (Nat.le_refl _) om
   rw [Jm] at Jn
   have T2 := hide Jn
   have Ov := Lib.hid Jm
   clear v1 v2 sd1 sd2 v3 Jn Jm HI Wm
   go_wp2_with fail
   refine (aa T2).mono ?_
   rintro e w6 ⟨⟨k2, rfl, ht2, bgc⟩, Tv⟩
   obtain rfl : wo = w6 := Tv.symm
   clear Tv
   obtain ⟨rl, hrl⟩ : ∃ l, l = us.take k2 := ⟨_, rfl⟩
   have hrlen : rl.length = k2 := by rw [hrl, List.length_take]; have := Ov.out; omega
   have hrv : Wd.val dw rl = Wd.val dw us := by rw [hrl]; exact ht2.val _
   have bfu : ∀ x ∈ rl, x < dw := fun x hx => (aa axo) x (by rw [hrl] at hx; exact List.mem_of_mem_take hx)
   have hwin : win us 0 rl = us := by
    have := Jf us 0 k2 (by have := Ov.out; omega)
    rw [List.drop_zero, ← hrl] at this
    exact this
   have bup : k2 ≤ us.length := by rw [Ov.out]; exact bgc
   have HRV := Lib.hid hrv; have axk := hide bfu; have bpe := Lib.hid hwin; have aan := Lib.hid hrlen
   have buo : k2 ≤ xl.length + 1 := by have := Ov.out; omega
   have HQZ := hide hqz
   clear hrv bfu hwin hrlen hrl ht2 bgc T2
   go_wp2_with fail
   go_loopw [18] (fun iv wr => ∃ (i : Nat) (zc : List Nat), i ≤ k2 ∧ iv = .int .i64 ((i : Nat) : Int) ∧ Hid (Wd.Bz dw (2 ^ s) rl zc i) ∧ Hid (∀ j, i ≤ j → zc.getD j 0 = rl.getD j 0) ∧ ZB .u32 wr bu 187 (win us 0 zc) ∧ Hid (ZB .u32 wr w4.heap.size 187 qs) ∧ Below w.heap.size w wr) (fun iv _ => k2 - (intOf iv).toNat)
   case atStart => exact ⟨0, rl, Nat.zero_le _, rfl, Wd.Bz.start _ _ rfl (aa axk), fun _ _ => rfl, by rw [bpe.out]; exact Mm, HQZ, hbr⟩
   case round =>
    clear Mm hqz HQZ hbr
    obtain ⟨i, zc, hi, rfl, HI, Fe, ko, HQZ, hbr⟩ := hrel
    have hzl : zc.length = k2 := HI.out.len.trans aan.out
    by_cases hlt : i < k2
    ·
     have gz : ∀ t, t < k2 → Wd.g (win us 0 zc) t = Wd.g zc t := fun t ht => by
      have := Jt us 0 zc om t om
      rwa [Nat.zero_add] at this
     obtain ⟨x, hx'⟩ : ∃ t, t = Wd.g rl i := ⟨_, rfl⟩
     have Dg := ko.cell i (by rw [win_length _ _ _ om]; omega)
     rw [gz i hlt, show Wd.g zc i = Wd.g rl i from Fe.out i (Nat.le_refl _), ← hx'] at Dg
     have Mj := ko.frozen i
     have zx : x < dw := by rw [hx']; exact Wd.getD_lt (by rw [fo]; omega) _ (aa axk) _
     obtain ⟨v, hv⟩ : ∃ t, t = x / 2 ^ s := ⟨_, rfl⟩
     have hvB : v < dw := Nat.lt_of_le_of_lt (by rw [hv]; exact Nat.div_le_self _ _) zx
     have m1 : (x : Int) / 2 ^ s = (v : Int) := by rw [hv]; simp
     have m1' : (x : Int) / 2 ^ (min s 32) = (v : Int) := by rw [Nat.min_eq_left om]; exact m1
     have hset : ∀ (W : World) (y : Nat), ZB .u32 W bu 187 (win us 0 zc) → ZB .u32 (W.setCell ⟨bu, i, none⟩ (.int .u32 (y : Int))) bu 187 (win us 0 (zc.set i y)) := fun W y h => by
      have := Ev us 0 zc om i y om
      rw [Nat.zero_add] at this
      rw [← this]
      exact h.Az _ _
     by_cases hin : i + 1 < k2
     ·
      have d1 : decide ((i : Int) + 1 < (k2 : Int)) = true := decide_eq_true om
      have d1' : decide (i + 1 < k2) = true := decide_eq_true hin
      obtain ⟨x2, agm⟩ : ∃ t, t = Wd.g rl (i + 1) := ⟨_, rfl⟩
      have bnp := ko.cell (i + 1) (by rw [win_length _ _ _ om]; omega)
      rw [gz (i + 1) hin, show Wd.g zc (i + 1) = Wd.g rl (i + 1) from Fe.out (i + 1) om, ← agm] at bnp
      have avo : x2 < dw := by rw [agm]; exact Wd.getD_lt (by rw [fo]; omega) _ (aa axk) _
      obtain ⟨p, zy⟩ : ∃ t, t = x2 * 2 ^ (32 - s) := ⟨_, rfl⟩
      obtain ⟨lo, hlo⟩ : ∃ t, t = p % dw := ⟨_, rfl⟩
      obtain ⟨v2, hv2⟩ : ∃ t, t = v + lo := ⟨_, rfl⟩
      have Px : p < dh := by
       have h1 : 2 ^ (32 - s) ≤ 2 ^ 32 := Nat.pow_le_pow_right om om
       have h2 : x2 * 2 ^ (32 - s) ≤ x2 * 2 ^ 32 := Nat.mul_le_mul_left _ h1
       rw [zy]; rw [fo] at avo; rw [gm]; omega
      have hlo2 : lo = x2 % 2 ^ s * 2 ^ (32 - s) := by
       rw [hlo, zy, ← Aq s om, Nat.mul_mod_mul_right]
      have hvT : v < 2 ^ (32 - s) := by
       rw [hv, Nat.div_lt_iff_lt_mul (Nat.pow_pos om), Nat.mul_comm, Aq s om]; exact zx
      have Ii : lo < dw := by rw [hlo]; exact Nat.mod_lt _ (by rw [fo]; omega)
      have m2 : IntKind.u64.wrap (x2 : Int) = (x2 : Int) := iw rfl (by rw [fo] at avo; rw [gm]; omega)
      have m3 : IntKind.u64.wrap (32 - (s : Int)) = ((32 - s : Nat) : Int) := iw om (by rw [gm]; omega)
      have m4 : IntKind.u64.wrap ((x2 : Int) * 2 ^ (32 - s)) = (p : Int) := iw (by rw [zy]; simp) Px
      have m4' : IntKind.u64.wrap ((x2 : Int) * 2 ^ (min (32 - s) 64)) = (p : Int) := by rw [Nat.min_eq_left om]; exact m4
      have m5 : (p : Int) % 4294967296 = (lo : Int) := by rw [hlo, fo]; omega
      have m6 : IntKind.u32.wrap (p : Int) = (lo : Int) := by rw [Ak, hlo]
      have m7 : Go.bits .or .u32 (v : Int) (lo : Int) = (v2 : Int) := by rw [Og v lo hvB Ii, hv2, hlo2, Pm hvT]
      have hfin : ∀ W, W = (wr.setCell ⟨bu, i, none⟩ (.int .u32 (v : Int))).setCell ⟨bu, i, none⟩ (.int .u32 (v2 : Int)) → Hid (Wd.Bz dw (2 ^ s) rl (zc.set i v2) (i + 1)) ∧ Hid (∀ j, i + 1 ≤ j → (zc.set i v2).getD j 0 = rl.getD j 0) ∧ ZB .u32 W bu 187 (win us 0 (zc.set i v2)) ∧ Hid (ZB .u32 W w4.heap.size 187 qs) ∧ Below w.heap.size w W := by
       rintro W rfl
       have hne : w4.heap.size ≠ bu := by have := (aa Yg).2; omega
       have hbw : w.heap.size ≤ bu := Nat.le_trans Gq.size hbu
       refine ⟨?_, fun j hj => ?_, ?_, ?_, ?_⟩
       ·
        have := HI.out.step (Aq s om) (Nat.pow_pos om) (by rw [aan.out]; exact hlt) (by rw [← Wd.qa, ← hx']; exact zx)
        rw [← Wd.qa, ← Wd.qa, ← hx', ← agm, ← hv, ← hlo2, ← hv2] at this
        exact this
       ·
        simp only [List.getD]
        rw [List.getElem?_set_ne om]
        exact Fe.out j om
       ·
        have h1 := hset wr v ko
        have h2 := Ev us 0 (zc.set i v) (by rw [List.length_set]; omega) i v2 (by rw [List.length_set]; omega)
        rw [Nat.zero_add, List.set_set] at h2
        rw [← h2]
        exact h1.Az _ _
       ·
        exact (Below.heap_setCell _ _ _ w4.heap.size hne).trans ((Below.heap_setCell _ _ _ w4.heap.size hne).trans (aa HQZ))
       ·
        exact (hbr.setCell (p := ⟨bu, i, none⟩) hbw _).setCell (p := ⟨bu, i, none⟩) hbw _
      have HF := hide hfin
      have avn := hset wr v ko
      have bog := avn.cell i (by rw [win_length _ _ _ (by rw [List.length_set]; omega)]; omega)
      have bgf : Wd.g (win us 0 (zc.set i v)) i = v := by
       have := Jt us 0 (zc.set i v) (by rw [List.length_set]; omega) i (by rw [List.length_set]; omega)
       rw [Nat.zero_add] at this
       rw [this, Wd.qa, List.getD, List.getElem?_set_self om]; rfl
      rw [bgf] at bog
      have bfm := avn.frozen i
      have bof := avn.cell (i + 1) (by rw [win_length _ _ _ (by rw [List.length_set]; omega)]; omega)
      have bge : Wd.g (win us 0 (zc.set i v)) (i + 1) = x2 := by
       have := Jt us 0 (zc.set i v) (by rw [List.length_set]; omega) (i + 1) (by rw [List.length_set]; omega)
       rw [Nat.zero_add] at this
       rw [this, Wd.qa, List.getD, List.getElem?_set_ne om]
       exact (Fe.out (i + 1) om).trans agm.symm
      rw [bge] at bof
      clear hset hfin hx' agm hv hv2 hlo hlo2 zy ko gz bgf bge hvT zx avo hvB Ii Px hbr
      go_wp2_with fail
      have hii : IntKind.i64.wrap ((i : Int) + 1) = (i : Int) + 1 := IntWalk.i64_in _ om
      have hi1 : (0 : Int) ≤ (i : Int) + 1 := by omega
      have hi2 : ((i : Int) + 1).toNat = i + 1 := by omega
      have hi3 : (i : Int) + 1 < (k2 : Int) := by omega
      go_region
      all_goals
       go_wp2_with fail
       go_roundw
       case rel =>
        obtain ⟨r1, r2, r3, r4, r5⟩ := (aa HF) _ rfl
        exact ⟨i + 1, _, by omega, by go_num, r1, r2, r3, r4, by first | exact r5 | exact r5.drew⟩
       case measure => simp [intOf] <;> omega
     ·
      have d1 : decide ((i : Int) + 1 < (k2 : Int)) = false := decide_eq_false om
      have d1' : decide (i + 1 < k2) = false := decide_eq_false hin
      have hfin : ∀ W, W = wr.setCell ⟨bu, i, none⟩ (.int .u32 (v : Int)) → Hid (Wd.Bz dw (2 ^ s) rl (zc.set i v) (i + 1)) ∧ Hid (∀ j, i + 1 ≤ j → (zc.set i v).getD j 0 = rl.getD j 0) ∧ ZB .u32 W bu 187 (win us 0 (zc.set i v)) ∧ Hid (ZB .u32 W w4.heap.size 187 qs) ∧ Below w.heap.size w W := by
       rintro W rfl
       have hne : w4.heap.size ≠ bu := by have := (aa Yg).2; omega
       have hbw : w.heap.size ≤ bu := Nat.le_trans Gq.size hbu
       refine ⟨?_, fun j hj => ?_, hset _ _ ko, ?_, ?_⟩
       ·
        have := HI.out.step (Aq s om) (Nat.pow_pos om) (by rw [aan.out]; exact hlt) (by rw [← Wd.qa, ← hx']; exact zx)
        have h0 : rl.getD (i + 1) 0 = 0 := by simp only [List.getD]; rw [List.getElem?_eq_none (by rw [aan.out]; omega)]; rfl
        rw [h0, Nat.zero_mod, Nat.zero_mul, Nat.add_zero, ← Wd.qa, ← hx', ← hv] at this
        exact this
       ·
        simp only [List.getD]
        rw [List.getElem?_set_ne om]
        exact Fe.out j om
       ·
        exact (Below.heap_setCell _ _ _ w4.heap.size hne).trans (aa HQZ)
       ·
        exact hbr.setCell (p := ⟨bu, i, none⟩) hbw _
      have HF := hide hfin
      clear hset hfin hx' hv ko gz zx hvB hbr
      go_wp2_with fail
      go_roundw
      case rel =>
       obtain ⟨r1, r2, r3, r4, r5⟩ := (aa HF) _ rfl
       exact ⟨i + 1, _, by omega, by go_num, r1, r2, r3, r4, r5⟩
      case measure => simp [intOf] <;> omega
    ·
     have e : i = k2 := by omega
     subst e
     have hdn : Wd.val dw zc = n % m := by
      have h1 := HI.out
      rw [← aan.out] at h1
      rw [h1.done (Aq s om) (Nat.pow_pos om), HRV.out, V3.out]
     have hwt : (win us 0 zc).take i = zc := by simp [win, ← hzl]
     have hwz : Ws .u32 wr (bu + 1) (some ⟨bu, 0, none⟩) zc := by
      have := (ko.Dw _ (Nat.lt_succ_self _)).Qo i
      rwa [hwt] at this
     have HDN := Lib.hid hdn; have HWZ := hide hwz
     have hzs : bu < wr.heap.size := ko.lt
     have bfz : ∀ x ∈ zc, x < dw := HI.out.lt
     have bph := hide bfz
     have hqz := aa HQZ
     have Jn := Ee (some ⟨w4.heap.size, 0, none⟩) qs.length qs wr.heap.size wr (hqz.Dw _ hqz.lt) (Nat.le_refl _) (by rw [Ku.out]; omega)
     rw [Ku.out] at Jn
     have T3 := hide Jn
     clear hdn hwt hwz bfz Jn hqz ko
     go_wp2_with fail
     refine (aa T3).mono ?_
     rintro e w6 ⟨⟨k3, rfl, ht2, hk3⟩, Tv⟩
     obtain rfl : wr = w6 := Tv.symm
     clear Tv
     have q1 := qd.Bq (cap := lq) (aa HQZ) (aa axn) ht2 (by rw [Ku.out]; exact hk3) (by rw [Ku.out]; omega) om
     rw [V1.out] at q1
     have Q1 := hide q1
     have bgb : k3 = (qs.take k3).length := by rw [List.length_take, Ku.out]; omega
     have HK3 := Lib.hid bgb
     clear ht2 q1 T3 bgb
     have avt := Ee (some ⟨bu, 0, none⟩) (xl.length + 1) zc (bu + 1) wr (aa HWZ) om om
     rw [hzl] at avt
     have T4 := hide avt
     clear avt
     go_wp2_with fail
     refine (aa T4).mono ?_
     rintro e w6 ⟨⟨k4, rfl, ht4, hk4⟩, Tv⟩
     obtain rfl : wr = w6 := Tv.symm
     clear Tv
     have q2 : qd wr (some ⟨bu, 0, none⟩) (xl.length + 1) (zc.take k4) (n % m) := by
      refine ⟨(((aa HWZ).Qo k4).more om), by rw [List.length_take]; omega, by omega, fun x hx => (aa bph) x (List.mem_of_mem_take hx), ht4.norm, ?_⟩
      rw [ht4.val, HDN.out]
     have Q2 := hide q2
     have bga : k4 = (zc.take k4).length := by rw [List.length_take]; omega
     have HK4 := Lib.hid bga
     clear ht4 q2 T4 bga
     go_wp2_with fail
     go_ret2
     exact ⟨some ⟨w4.heap.size, 0, none⟩, lq, qs.take k3, some ⟨bu, 0, none⟩, xl.length + 1, zc.take k4, Qx HK3.out HK4.out, aa Q1, aa Q2, hbr⟩
  ·
   obtain ⟨j, rfl⟩ := Int.eq_ofNat_of_zero_le (show 0 ≤ i by omega)
   have hinv : Wd.ve dw V uz us qs (j + 1) := by have := HI.out; rwa [show ((j : Int) + 1).toNat = j + 1 by omega] at this
   have Jm : us.length = xl.length + 1 := hinv.Af.trans HUL.out
   have hql := Ku.out
   have hqc := hqz.cell j om
   have hqf := hqz.frozen j
   have Rz := hide hinv; have Ov := Lib.hid Jm
   obtain ⟨wd1, wd2, wd3⟩ := hinv.window Ct (aa aih)
   have hwl : ((us.drop j).take (yl.length + 1)).length = yl.length + 1 := by rw [List.length_take, List.length_drop]; omega
   have hpre : Hq ((us.drop j).take (yl.length + 1)) (vz.take yl.length) yl.length := by
    refine ⟨hn2, HVN.out, hwl, fun x hx => hinv.lt x (List.mem_of_mem_drop (List.mem_of_mem_take hx)), fun x hx => Xr x (List.mem_of_mem_take hx), ?_, by rw [Ry.out]; exact wd2⟩
    rcases (aa HT).norm with h | h
    ·
     have := HVN.out; rw [h] at this; simp at this; omega
    ·
     rwa [HVN.out] at h
   have hds := alk bu j (xl.length + 1 - j) 187 yl.length us ((us.drop j).take (yl.length + 1)) (vz.take yl.length) (some ⟨bv, 0, none⟩) (yl.length + 1) (bv + 1) top next wo Mm om (by rw [hwl]) om om Wm (fun b o e => by injection e with e; injection e with e; omega) (by have := (aa Yg).1; omega) (by simp; omega) om hpre HTP.out HNX.out
   have HDS := hide hds
   clear hds
   have hfin : ∀ (W : World) (zr : List Nat) (q : Nat), StepT ((us.drop j).take (yl.length + 1)) (vz.take yl.length) zr q → Hid (Wd.ve dw V uz (win us j zr) (qs.set j q) j) := fun W zr q hok => by
    have hzl : zr.length = yl.length + 1 := hok.len.trans hwl
    refine hinv.step (n := yl.length) Ct (aa aih) (aa HV0) om ?_ ?_ ?_ ?_ ?_
    ·
     rw [hok.quo, Ry.out]
    ·
     have e1 : (win us j zr).drop j = zr ++ us.drop (j + zr.length) := by
      simp only [win, List.append_assoc]
      rw [List.drop_append_of_le_length (by simp; omega), List.drop_of_length_le (by simp; omega), List.nil_append]
     have e2 : Wd.val dw (us.drop (j + zr.length)) = 0 := by
      have h1 := Wd.Nj dw (us.drop j) (yl.length + 1)
      rw [wd3, List.drop_drop] at h1
      have h2 : 0 < dw ^ min (yl.length + 1) (us.drop j).length := Nat.pow_pos (by rw [fo]; omega)
      rw [hzl]
      rcases Nat.eq_zero_or_pos (Wd.val dw (us.drop (j + (yl.length + 1)))) with h | h
      ·
       exact h
      ·
       have := Nat.mul_pos h2 h; omega
     rw [e1, Wd.val_append, e2, Nat.mul_zero, Nat.add_zero, hok.rem, Ry.out]
    ·
     rw [win_length _ _ _ om]
    ·
     intro x hx
     simp only [win, List.append_assoc, List.mem_append] at hx
     rcases hx with h | h | h
     ·
      exact hinv.lt x (List.mem_of_mem_take h)
     ·
      exact hok.lt x h
     ·
      exact hinv.lt x (List.mem_of_mem_drop h)
    ·
     intro t ht
     simp only [win, List.append_assoc, List.getD]
     rw [List.getElem?_append_left (by simp; omega), List.getElem?_take, if_pos ht]
   have Gt := hide hfin
   clear hinv Jm hql HI wd1 wd2 wd3 hfin hpre
   go_wp2_with fail
   rw [show j + yl.length + 1 - j = yl.length + 1 by omega]
   refine (aa HDS).mono ?_
   rintro e w5 ⟨zr, q, rfl, hok, Lb, agq, hg5⟩
   have ann := (aa Gt) w5 zr q hok
   have Rm := hqz.grown hg5 (by intro h; injection h with h; have := (aa Yg).2; omega)
   have bnt := Rm.cell j (by have := Ku.out; omega)
   have bns := Rm.frozen j
   have hv5 : Ws .u32 w5 (bv + 1) (some ⟨bv, 0, none⟩) (vz.take yl.length) := fun hl => by
    obtain ⟨b, o, e, hb, hc⟩ := Wm hl
    injection e with e; injection e with e1 e2
    subst e1 e2
    exact ⟨bv, 0, rfl, hb, fun t ht => (World.cell?_of_block (hg5.block bv (by have := (aa Yg).1; omega) (fun e => by injection e with e; omega))).trans (hc t ht)⟩
   have hb5 : Below w.heap.size w w5 := hbr.grown hg5 hbr.size (fun g e => by injection e with e; subst e; exact Nat.le_trans Gq.size hbu)
   have hs5 : w4.heap.size < w5.heap.size := Nat.lt_of_lt_of_le avw hg5.size
   have avp : w.heap.size ≤ w4.heap.size := Xw.size
   have Zx : ∀ W, W = w5.setCell ⟨w4.heap.size, j, none⟩ (.int .u32 (q : Int)) → ZB .u32 W bu 187 (win us j zr) ∧ ZB .u32 W w4.heap.size 187 (qs.set j q) ∧ Ws .u32 W (bv + 1) (some ⟨bv, 0, none⟩) (vz.take yl.length) ∧ Below w.heap.size w W ∧ w4.heap.size < W.heap.size := by
    rintro W rfl
    exact ⟨(Below.heap_setCell w5 _ _ bu (by show bu ≠ w4.heap.size; have := (aa Yg).2; omega)).trans agq, Rm.Az _ _, hv5.setCell (p := ⟨w4.heap.size, j, none⟩) (by show bv + 1 ≤ w4.heap.size; have := (aa Yg).1; omega) _, hb5.setCell (p := ⟨w4.heap.size, j, none⟩) avp _, by simp [World.setCell]; omega⟩
   have HF2 := hide Zx
   clear hok hg5 Zx agq Rm hv5 hb5
   go_wp2_with fail
   go_roundw
   case rel =>
    obtain ⟨f1, f2, f3, f4, f5⟩ := (aa HF2) _ rfl
    exact ⟨(j : Int) - 1, win us j zr, qs.set j q, by omega, by omega, by go_num, by rw [show ((j : Int) - 1 + 1).toNat = j by omega]; exact ann, by show _ = _; rw [List.length_set]; exact Ku.out, f1, f2, f3, f4, f5⟩
   case measure => simp [intOf] <;> omega

theorem Kh (Ax Ay : Option Addr) (cx cy : Nat) (xl yl : List Nat) (n m : Nat) (w : World) (hx : qd w Ax cx xl n) (hy : qd w Ay cy yl m) (hm : 0 < m) (hk : xl.length + 1 ≤ 35184372088832) (hk2 : yl.length + 1 ≤ 35184372088832) :
  Calls Tryz.prog 178 #[.slice Ax xl.length cx, .slice Ay yl.length cy] w fun e w' => aaj w (n / m) (n % m) e w' := by
 by_cases hlt : n < m
 ·
  exact aja Ax Ay cx cy xl yl n m w hx hy hlt
 ·
  by_cases h1 : yl.length = 1
  ·
   exact aqt Ax Ay cx cy xl yl n m w hx hy hlt h1 om
  ·
   refine amq Ax Ay cx cy xl yl n m w hx hy hlt hk hk2 ?_
   rcases Nat.eq_zero_or_pos yl.length with h | h
   ·
    exfalso
    have := hy.val
    rw [List.length_eq_zero_iff.1 h] at this
    simp [Wd.val] at this; omega
   ·
    omega

def memNum (w : World) : Value → Nat
 | .slice (some p) n _ => Wd.val dw ((List.range n).map fun i => match w.cell? ⟨p.block, p.off + i, none⟩ with | some (.int _ z) => z.toNat | _ => 0)
 | _ => 0
theorem ach {w : World} {A : Option Addr} {cap : Nat} {l : List Nat} {n : Nat} (h : qd w A cap l n) : memNum w (.slice A l.length cap) = n := by
 rcases Nat.eq_zero_or_pos l.length with h0 | h0
 ·
  have hv := h.val
  have hl := List.length_eq_zero_iff.1 h0
  subst hl
  rw [← hv]
  cases A <;> simp [memNum, Wd.val]
 ·
  obtain ⟨b, o, rfl, _, hc⟩ := h.ws h0
  show Wd.val dw _ = n
  rw [← h.val]
  congr 1
  apply List.ext_getElem (by simp)
  intro i h1 h2
  simp only [List.getElem_map, List.getElem_range]
  rw [hc i h2, Wd.qa]
  simp [List.getD, h2]

theorem ajg (Ax Ay : Option Addr) (cx cy : Nat) (xl yl : List Nat) (n m K : Nat) (w : World) (hx : qd w Ax cx xl n) (hy : qd w Ay cy yl m) (hn : n < dw ^ K) (hm : m < dw ^ K) (hK : K + 1 ≤ 35184372088832) :
  Calls Tryz.prog 177 #[.slice Ax xl.length cx, .slice Ay yl.length cy] w fun e w' => bik w (n.gcd m) e w' := by
 go_enter Tryz.func177, Tryz.ntmps177
 go_wp2_with fail
 have HK := hide hK
 clear hK
 go_loopw [0, 1] (fun av bv wr => ∃ Aa ca la na Ab cb lb nb, av = .slice Aa la.length ca ∧ bv = .slice Ab lb.length cb ∧ qd wr Aa ca la na ∧ qd wr Ab cb lb nb ∧ na < dw ^ K ∧ nb < dw ^ K ∧ Hid (na.gcd nb = n.gcd m) ∧ Below w.heap.size w wr) (fun _ bv wr => memNum wr bv)
 case atStart => exact ⟨Ax, cx, xl, n, Ay, cy, yl, m, rfl, rfl, hx, hy, hn, hm, rfl, Below.refl _ _⟩
 case round =>
  clear hx hy hn hm
  obtain ⟨Aa, ca, la, na, Ab, cb, lb, nb, rfl, rfl, ha, hb, hna, hnb, HG, hbl⟩ := hrel
  have ha1 := ha.qp; have ha2 := ha.cap2; have hb1 := hb.qp; have hb2 := hb.cap2
  have la1 : la.length ≤ K := ha.len hna
  have lb1 : lb.length ≤ K := hb.len hnb
  by_cases h0 : lb.length = 0
  ·
   have e : nb = 0 := by rw [← hb.val, List.length_eq_zero_iff.1 h0]; rfl
   have hg := HG.out
   rw [e, Nat.gcd_zero_right] at hg
   have HGG := Lib.hid hg
   have HA := hide ha
   clear hg ha hb hna hnb e HG
   go_wp2_with fail
   go_ret
   exact ⟨Aa, ca, la, rfl, by rw [← HGG.out]; exact aa HA, hbl⟩
  ·
   have bfy : 0 < nb := by
    rcases Nat.eq_zero_or_pos nb with h | h
    ·
     exfalso
     have := hb.len (k := 0) (by rw [h]; simp)
     omega
    ·
     exact h
   have hp := Kh Aa Ab ca cb la lb na nb wr ha hb bfy (by have := aa HK; omega) (by have := aa HK; omega)
   have hg : nb.gcd (na % nb) = n.gcd m := by
    rw [← HG.out, Nat.gcd_comm nb (na % nb), ← Nat.gcd_rec nb na, Nat.gcd_comm]
   have hlt := Nat.mod_lt na bfy
   have hmem := ach hb
   have HP := hide hp; have HGG := Lib.hid hg; have HB := hide hb; have Ld := hide hnb
   have rq := hide hlt; have HM := Lib.hid hmem
   clear hp hg ha hb hna hnb HG hlt hmem
   go_wp2_with fail
   refine (aa HP).mono ?_
   rintro e w' ⟨A5, c5, l5, A6, c6, l6, rfl, h5, h6, awg⟩
   have hb' := (aa HB).below awg
   have boh : Below w.heap.size w w' := hbl.trans (awg.mono hbl.size)
   have HB2 := hide hb'; have H6 := hide h6
   clear hb' h5 h6 awg hbl
   go_wp2_with fail
   go_roundw
   case rel => exact ⟨Ab, cb, lb, nb, A6, c6, l6, na % nb, rfl, rfl, aa HB2, aa H6, aa Ld, Nat.lt_trans (aa rq) (aa Ld), HGG, boh⟩
   case measure =>
    have := ach (aa H6)
    have h2 := HM.out
    have h3 := aa rq
    simp_all

def Ye (cs : Array Value) : Prop := ∀ (i : Nat) (n : Int), cs[i]? ≠ some (Value.int .u32 n)
theorem Pp (A : Option Addr) (n c : Nat) (b : Bool) : Ye #[.slice A n c, .bool b] := by
 intro i n h
 match i, h with
 | 0, h => simp at h
 | 1, h => simp at h
 | i + 2, h => simp at h
theorem Fs (A : Option Addr) (n c : Nat) (b : Bool) (A' : Option Addr) (n' c' : Nat) (b' : Bool) : Ye #[.slice A n c, .bool b, .slice A' n' c', .bool b'] := by
 intro i n h
 match i, h with
 | 0, h => simp at h
 | 1, h => simp at h
 | 2, h => simp at h
 | 3, h => simp at h
 | i + 4, h => simp at h
theorem Ws.bdj {w w' : World} {B g : Nat} {A : Option Addr} {l : List Nat} {T : TypeId} {cs : Array Value} (h : Ws .u32 w B A l) (hg : w.heap[g]? = some (.cells cs T (0, 0))) (hn : Ye cs) (hgr : w.grownBy w' (some g)) (hB : B ≤ w.heap.size) : Ws .u32 w' B A l := fun hl => by
 obtain ⟨b, off, rfl, hb, hc⟩ := h hl
 have hne : b ≠ g := by
  rintro rfl
  have := hc 0 hl
  simp only [World.cell?, hg, Option.isSome_none, Bool.false_eq_true, if_false] at this
  exact hn _ _ this
 exact ⟨b, off, rfl, hb, fun j hj => (World.cell?_of_block (hgr.block b om (fun e => hne (by injection e)))).trans (hc j hj)⟩
theorem qd.upto {w w' : World} {g : Nat} {A : Option Addr} {cap : Nat} {l : List Nat} {n : Nat} {T : TypeId} {cs : Array Value} (h : qd w A cap l n) (hg : w.heap[g]? = some (.cells cs T (0, 0))) (hn : Ye cs) (hgr : w.grownBy w' (some g)) : qd w' A cap l n :=
 ⟨(h.ws.bdj hg hn hgr (Nat.le_refl _)).more hgr.size, h.qp, h.cap2, h.lt, h.norm, h.val⟩
theorem uw (w : World) (g : Nat) (u0 u1 u2 u3 : Value) : w.grownBy ((((w.setCell ⟨g, 0, none⟩ u0).setCell ⟨g, 1, none⟩ u1).setCell ⟨g, 2, none⟩ u2).setCell ⟨g, 3, none⟩ u3) (some g) :=
 kz (kz (kz (kz (qb _ _) _ _) _ _) _ _) _ _

structure ku (w : World) (A : Option Addr) (cap : Nat) (l : List Nat) (m : Bool) (z : Int) : Prop where
 nat : qd w A cap l z.natAbs
 sign : m = decide (z < 0)
theorem ku.below {w w' : World} {A : Option Addr} {cap : Nat} {l : List Nat} {m : Bool} {z : Int} (h : ku w A cap l m z) (hb : Below w.heap.size w w') : ku w' A cap l m z := ⟨h.nat.below hb, h.sign⟩
theorem ku.upto {w w' : World} {g : Nat} {A : Option Addr} {cap : Nat} {l : List Nat} {m : Bool} {z : Int} {T : TypeId} {cs : Array Value} (h : ku w A cap l m z) (hg : w.heap[g]? = some (.cells cs T (0, 0))) (hn : Ye cs) (hgr : w.grownBy w' (some g)) : ku w' A cap l m z := ⟨h.nat.upto hg hn hgr, h.sign⟩

def Io (w : World) (z : Int) (e : Ending) (w' : World) : Prop := ∃ A cap l m, e = .returned (.agg #[.slice A l.length cap, .bool m]) ∧ ku w' A cap l m z ∧ Below w.heap.size w w'

theorem qd.Lx {w : World} {A : Option Addr} {cap : Nat} {l : List Nat} {n : Nat} (h : qd w A cap l n) : n = 0 ↔ l.length = 0 := by
 constructor
 ·
  intro e
  have := h.len (k := 0) (by rw [e]; simp)
  omega
 ·
  intro e
  rw [← h.val, List.length_eq_zero_iff.1 e]; rfl

theorem Dp (A : Option Addr) (cap : Nat) (l : List Nat) (n : Nat) (s : Bool) (w : World) (h : qd w A cap l n) :
  Calls Tryz.prog 179 #[.slice A l.length cap, .bool s] w fun e w' => Io w (if s then -(n : Int) else (n : Int)) e w' := by
 have hc1 := h.qp; have hc2 := h.cap2
 have hz := h.Lx
 have hab : (if s then -(n : Int) else (n : Int)).natAbs = n := by cases s <;> simp
 have hsg : s = true → decide (0 < l.length) = decide ((if s then -(n : Int) else (n : Int)) < 0) := by
  rintro rfl
  simp only [if_true]
  exact decide_eq_decide.2 om
 have avx : ¬ s = true → false = decide ((if s then -(n : Int) else (n : Int)) < 0) := by
  intro hs
  rw [Bool.not_eq_true] at hs
  subst hs
  exact (decide_eq_false (by simp)).symm
 obtain ⟨z, hzz⟩ : ∃ z, z = if s then -(n : Int) else (n : Int) := ⟨_, rfl⟩
 rw [← hzz] at hab hsg avx ⊢
 have HF : Hid (∀ W, Below w.heap.size w W → qd W A cap l z.natAbs) := fun W hW => by rw [hab]; exact h.below hW
 have nz := hide hsg; have HS2 := hide avx
 clear h hz hab hsg avx hzz
 go_enter Tryz.func179, Tryz.ntmps179
 go_wp2_with fail
 ·
  have hs : s = true := by assumption
  exact bodyPost_ret (v := .agg #[.slice A l.length cap, .bool (decide (0 < l.length))]) (by simp [results, Tryz.results179, go_sem]) rfl ⟨A, cap, l, _, rfl, ⟨(aa HF) _ ((Below.refl _ _).alloc (Nat.le_refl _) _), (aa nz) hs⟩, (Below.refl _ _).alloc (Nat.le_refl _) _⟩
 ·
  have hs : ¬ s = true := by assumption
  exact bodyPost_ret (v := .agg #[.slice A l.length cap, .bool false]) (by simp [results, Tryz.results179, go_sem]) rfl ⟨A, cap, l, _, rfl, ⟨(aa HF) _ ((Below.refl _ _).alloc (Nat.le_refl _) _), (aa HS2) hs⟩, (Below.refl _ _).alloc (Nat.le_refl _) _⟩

theorem Wz (A : Option Addr) (cap n : Nat) (s : Bool) (w : World) :
  Calls Tryz.prog 135 #[.agg #[.slice A n cap, .bool s]] w fun e w' => e = .returned (.bool (decide (n = 0))) ∧ Below w.heap.size w w' := by
 by_cases h : n = 0
 ·
  subst h
  go_enter Tryz.func135, Tryz.ntmps135
  go_wp2_with fail
  all_goals first | go_ret | skip
  all_goals exact ⟨rfl, (Below.refl _ _).alloc (Nat.le_refl _) _⟩
 ·
  have hb : ((n : Int) == 0) = false := beq_eq_false_iff_ne.2 om
  have hd : decide (n = 0) = false := decide_eq_false h
  rw [hd]
  clear hd
  go_enter Tryz.func135, Tryz.ntmps135
  go_wp2_with fail
  all_goals first | go_ret | skip
  all_goals exact ⟨rfl, (Below.refl _ _).alloc (Nat.le_refl _) _⟩

theorem Ym (A : Option Addr) (cap : Nat) (l : List Nat) (m : Bool) (z : Int) (w : World) (h : ku w A cap l m z) :
  Calls Tryz.prog 131 #[.agg #[.slice A l.length cap, .bool m]] w fun e w' => e = .returned (.bool (decide (z = 1))) ∧ Below w.heap.size w w' := by
 have hc1 := h.nat.qp; have hc2 := h.nat.cap2
 by_cases h1 : l.length = 1
 ·
  have hb : ((l.length : Int) == 1) = true := by rw [h1]; rfl
  obtain ⟨b, o, rfl, hbb, hc⟩ := h.nat.ws om
  have hc0 := ((Below.refl w.heap.size w).alloc (Nat.le_refl _) (.cells #[.slice (some ⟨b, o, none⟩) l.length cap, .bool m] 66)).cell (p := ⟨b, o + 0, none⟩) hbb |>.trans (hc 0 om)
  rw [Nat.add_zero] at hc0
  have hv : Wd.g l 0 = z.natAbs := by rw [Rb dw l h1]; exact h.nat.val
  have hs := h.sign
  rw [hv] at hc0
  have hres : decide (z = 1) = ((z.natAbs : Int) == 1 && !m) := by
   rw [hs]
   by_cases hz : z = 1
   ·
    subst hz; rfl
   ·
    rw [decide_eq_false hz]
    by_cases h2 : z = -1
    ·
     subst h2; rfl
    ·
     have : ((z.natAbs : Int) == 1) = false := beq_eq_false_iff_ne.2 om
     rw [this]; rfl
  have hl0 : 0 < l.length := by omega
  have HR := Lib.hid hres
  clear hc hv hs h hres h1
  cases m
  all_goals
   by_cases hv : ((z.natAbs : Nat) : Int) = 1
   ·
    have hv1 : (((z.natAbs : Nat) : Int) == 1) = true := by rw [hv]; rfl
    have HV := Lib.hid hv1
    rw [hv] at hc0
    clear hv hv1
    go_enter Tryz.func131, Tryz.ntmps131
    go_wp2_with fail
    all_goals first | go_ret | skip
    all_goals exact ⟨by rw [HR.out, HV.out]; rfl, (Below.refl _ _).alloc (Nat.le_refl _) _⟩
   ·
    have hv1 : (((z.natAbs : Nat) : Int) == 1) = false := beq_eq_false_iff_ne.2 hv
    have hv0 := hv1
    have HV := Lib.hid hv0
    clear hv0
    obtain ⟨t, ht⟩ : ∃ t, t = z.natAbs := ⟨_, rfl⟩
    rw [← ht] at hc0 hv hv1
    clear ht
    go_enter Tryz.func131, Tryz.ntmps131
    go_wp2_with fail
    all_goals first | go_ret | skip
    all_goals exact ⟨by rw [HR.out, HV.out]; rfl, (Below.refl _ _).alloc (Nat.le_refl _) _⟩
 ·
  have hb : ((l.length : Int) == 1) = false := beq_eq_false_iff_ne.2 om
  have hd : decide (z = 1) = false := decide_eq_false (by
   rintro rfl
   apply h1
   have h0 := h.nat.len (k := 1) (by simp [fo])
   have h3 : ¬ l.length = 0 := fun e => by have := h.nat.Lx.2 e; simp at this
   omega)
  rw [hd]
  clear hd h
  go_enter Tryz.func131, Tryz.ntmps131
  go_wp2_with fail
  all_goals first | go_ret | skip
  all_goals exact ⟨rfl, (Below.refl _ _).alloc (Nat.le_refl _) _⟩

theorem aei (A : Option Addr) (cap : Nat) (l : List Nat) (m : Bool) (z : Int) (w : World) (h : ku w A cap l m z) :
  Calls Tryz.prog 176 #[.agg #[.slice A l.length cap, .bool m]] w fun e w' => Io w (-z) e w' := by
 have hv : (if (!m) then -(z.natAbs : Int) else (z.natAbs : Int)) = -z := by
  rw [h.sign]
  by_cases hz : z < 0
  ·
   rw [decide_eq_true hz]; simp; omega
  ·
   rw [decide_eq_false hz]; simp; omega
 have HS := hide (fun W (hW : Below w.heap.size w W) => Dp A cap l z.natAbs (!m) W (h.nat.below hW))
 rw [hv] at HS
 clear h hv
 go_enter Tryz.func176, Tryz.ntmps176
 go_wp2_with fail
 obtain ⟨n0, n1, hsz, hw0⟩ := yh w (.cells #[.slice A l.length cap, .bool m] 66) (.cells #[.slice none 0 0, .bool false] 66)
 generalize ((w.alloc (.cells #[.slice A l.length cap, .bool m] 66)).alloc (.cells #[.slice none 0 0, .bool false] 66)) = W0 at *
 have q1 : w.heap.size + 1 < W0.heap.size := by omega
 have yg : W0.cell? ⟨w.heap.size + 1, 0, none⟩ = some (.slice none 0 0) := ag n1 0
 have yf : W0.cell? ⟨w.heap.size + 1, 1, none⟩ = some (.bool false) := ag n1 1
 have Oo := ai n1 0
 have Om := ai n1 1
 have NR := Lib.hid n1
 clear n0 n1
 refine ((aa HS) _ hw0).mono ?_
 rintro e w' ⟨A5, c5, l5, m5, rfl, Bc, hb⟩
 obtain ⟨hc, hfz⟩ := fe hb
 have hblk : w'.heap[w.heap.size + 1]? = some (.cells #[.slice none 0 0, .bool false] 66 (0, 0)) := (hb.block _ q1).trans NR.out
 have ky := Lib.hid hblk
 have jq : Below w.heap.size w w' := ay hw0 hb
 clear hblk
 go_wp2_with fail
 exact bodyPost_ret (v := .agg #[.slice A5 l5.length c5, .bool m5]) (by simp [results, Tryz.results176, go_sem, hc, yg, yf, q1]) rfl
  ⟨A5, c5, l5, m5, rfl, Bc.upto ky.out (Pp _ _ _ _) (mo _ _ _ _), jq.grown (mo _ _ _ _) jq.size (fun k hk => by injection hk with hk; omega)⟩



theorem atp (A1 : Option Addr) (c1 : Nat) (l1 : List Nat) (m1 : Bool) (z1 : Int) (A2 : Option Addr) (c2 : Nat) (l2 : List Nat) (m2 : Bool) (z2 : Int) (w : World) (h1 : ku w A1 c1 l1 m1 z1) (h2 : ku w A2 c2 l2 m2 z2) (hk : l1.length + l2.length ≤ 35184372088832) :
  Calls Tryz.prog 133 #[.agg #[.slice A1 l1.length c1, .bool m1], .agg #[.slice A2 l2.length c2, .bool m2]] w fun e w' => Io w (z1 * z2) e w' := by
 have hv : (if (m1 != m2) then -((z1.natAbs * z2.natAbs : Nat) : Int) else ((z1.natAbs * z2.natAbs : Nat) : Int)) = z1 * z2 := by
  rw [h1.sign, h2.sign, ← Int.natAbs_mul]
  by_cases a : z1 < 0 <;> by_cases b : z2 < 0
  ·
   have := Int.mul_pos_of_neg_of_neg a b
   simp [a, b]; omega
  ·
   have : z1 * z2 ≤ 0 := Int.mul_nonpos_of_nonpos_of_nonneg om om
   simp [a, b]; omega
  ·
   have : z1 * z2 ≤ 0 := Int.mul_nonpos_of_nonneg_of_nonpos om om
   simp [a, b]; omega
  ·
   have : 0 ≤ z1 * z2 := Int.mul_nonneg om om
   simp [a, b]; omega
 have HT := hide (fun W (hW : Below w.heap.size w W) => alq A1 A2 c1 c2 l1 l2 z1.natAbs z2.natAbs W (h1.nat.below hW) (h2.nat.below hW) hk)
 obtain ⟨p, hp⟩ : ∃ p, p = z1.natAbs * z2.natAbs := ⟨_, rfl⟩
 obtain ⟨z, hz⟩ : ∃ z, z = z1 * z2 := ⟨_, rfl⟩
 rw [← hp] at HT hv
 rw [← hz] at hv ⊢
 obtain ⟨sg, hsg⟩ : ∃ s, s = (m1 != m2) := ⟨_, rfl⟩
 rw [← hsg] at hv
 have HV := Lib.hid hv
 have SG : (!(m1 == m2)) = sg := hsg.symm
 clear h1 h2 hk hp hz hv hsg
 go_enter Tryz.func133, Tryz.ntmps133
 go_wp2_with fail
 obtain ⟨n0, n1, n2, hsz, hw0⟩ := ni w (.cells #[.slice A1 l1.length c1, .bool m1] 66) (.cells #[.slice A2 l2.length c2, .bool m2] 66) (.cells #[.slice none 0 0, .bool false] 66)
 generalize (((w.alloc (.cells #[.slice A1 l1.length c1, .bool m1] 66)).alloc (.cells #[.slice A2 l2.length c2, .bool m2] 66)).alloc (.cells #[.slice none 0 0, .bool false] 66)) = W0 at *
 have k0 : W0.cell? ⟨w.heap.size, 0, none⟩ = some (.slice A1 l1.length c1) := ag n0 0
 have k1 : W0.cell? ⟨w.heap.size, 1, none⟩ = some (.bool m1) := ag n0 1
 have k2 : W0.cell? ⟨w.heap.size + 1, 0, none⟩ = some (.slice A2 l2.length c2) := ag n1 0
 have k3 : W0.cell? ⟨w.heap.size + 1, 1, none⟩ = some (.bool m2) := ag n1 1
 have q0 : w.heap.size < W0.heap.size := by omega
 have q1 : w.heap.size + 1 < W0.heap.size := by omega
 have q2 : w.heap.size + 1 + 1 < W0.heap.size := by omega
 have r0 : W0.cell? ⟨w.heap.size + 1 + 1, 0, none⟩ = some (.slice none 0 0) := ag n2 0
 have r1 : W0.cell? ⟨w.heap.size + 1 + 1, 1, none⟩ = some (.bool false) := ag n2 1
 have f0 := ai n2 0
 have f1 := ai n2 1
 have NR := Lib.hid n2
 clear n0 n1 n2 hsz
 go_region_held3 (fun w' => w'.cell? ⟨w.heap.size, 0, none⟩ = some (.slice A1 l1.length c1) ∧ w'.cell? ⟨w.heap.size, 1, none⟩ = some (.bool m1) ∧ w'.cell? ⟨w.heap.size + 1, 0, none⟩ = some (.slice A2 l2.length c2) ∧ w'.cell? ⟨w.heap.size + 1, 1, none⟩ = some (.bool m2)) ((first | with_reducible exact ⟨k0, k1, k2, k3⟩ | with_reducible exact ⟨(hc _ _ q0).trans k0, (hc _ _ q0).trans k1, (hc _ _ q1).trans k2, (hc _ _ q1).trans k3⟩ | with_reducible exact ⟨(Od _ _ _ _ om).trans ((hc _ _ q0).trans k0), (Od _ _ _ _ om).trans ((hc _ _ q0).trans k1), (Od _ _ _ _ om).trans ((hc _ _ q1).trans k2), (Od _ _ _ _ om).trans ((hc _ _ q1).trans k3)⟩ | exact ⟨k0, k1, k2, k3⟩ | exact ⟨(hc _ _ q0).trans k0, (hc _ _ q0).trans k1, (hc _ _ q1).trans k2, (hc _ _ q1).trans k3⟩)) (first | (go_at_call 184; refine ((aa HT) _ (ay hw0 (by (first | with_reducible assumption | (repeat (first | with_reducible exact Below.refl _ _ | with_reducible assumption | refine Below.drew ?_ | (refine Below.alloc ?_ (by simp <;> omega) _))))))).mono ?_; rintro e w' ⟨A5, c5, l5, rfl, Ah, hb⟩; have hbw := bz (w := W0) bem hb; obtain ⟨hc, hfz⟩ := fe hbw) | (go_at_call 179; refine (Dp A5 c5 l5 p sg _ (by exact Ah)).mono ?_; rw [HV.out]; rintro e w' ⟨A6, c6, l6, m6, rfl, Ij, hb⟩; have hbw := bz (w := W0) bem hb; obtain ⟨hc, hfz⟩ := fe hbw))
 all_goals
  have hblk : w'.heap[w.heap.size + 1 + 1]? = some (.cells #[.slice none 0 0, .bool false] 66 (0, 0)) := (hbw.block _ q2).trans NR.out
  have ky := Lib.hid hblk
  have jq : Below w.heap.size w w' := ay hw0 hbw
  clear hblk
  go_wp2_with fail
  exact bodyPost_ret (v := .agg #[.slice A6 l6.length c6, .bool m6]) (by simp [results, Tryz.results133, go_sem, hc, r0, r1, q2]) rfl
   ⟨A6, c6, l6, m6, rfl, Ij.upto ky.out (Pp _ _ _ _) (mo _ _ _ _), jq.grown (mo _ _ _ _) jq.size (fun k hk => by injection hk with hk; omega)⟩

theorem atr (A1 : Option Addr) (c1 : Nat) (l1 : List Nat) (m1 : Bool) (A2 : Option Addr) (c2 : Nat) (l2 : List Nat) (m2 : Bool) (d : Int) (w : World) (h2 : ku w A2 c2 l2 m2 d) (hd : d ≠ 0) :
  Calls Tryz.prog 130 #[.agg #[.slice A1 l1.length c1, .bool m1, .slice A2 l2.length c2, .bool m2]] w fun e w' => e = .returned (.agg #[.slice A2 l2.length c2, .bool m2]) ∧ Below w.heap.size w w' := by
 have hl : ¬ l2.length = 0 := fun e => by have := h2.nat.Lx.2 e; omega
 have HI := hide (fun W => Wz A2 c2 l2.length m2 W)
 rw [decide_eq_false hl] at HI
 clear h2 hd
 go_enter Tryz.func130, Tryz.ntmps130
 go_wp2_with fail
 obtain ⟨n0, n1, hsz, hw0⟩ := yh w (.cells #[.slice A1 l1.length c1, .bool m1, .slice A2 l2.length c2, .bool m2] 68) (.cells #[.slice none 0 0, .bool false] 66)
 generalize ((w.alloc (.cells #[.slice A1 l1.length c1, .bool m1, .slice A2 l2.length c2, .bool m2] 68)).alloc (.cells #[.slice none 0 0, .bool false] 66)) = W0 at *
 have k2 : W0.cell? ⟨w.heap.size, 2, none⟩ = some (.slice A2 l2.length c2) := ag n0 2
 have k3 : W0.cell? ⟨w.heap.size, 3, none⟩ = some (.bool m2) := ag n0 3
 have q0 : w.heap.size < W0.heap.size := by omega
 have q1 : w.heap.size + 1 < W0.heap.size := by omega
 have r0 : W0.cell? ⟨w.heap.size + 1, 0, none⟩ = some (.slice none 0 0) := ag n1 0
 have r1 : W0.cell? ⟨w.heap.size + 1, 1, none⟩ = some (.bool false) := ag n1 1
 have f0 := ai n1 0
 have f1 := ai n1 1
 clear n0 n1 hsz
 refine ((aa HI) _).mono ?_
 rintro e w' ⟨rfl, hb⟩
 obtain ⟨hc, hfz⟩ := fe hb
 have jq : Below w.heap.size w w' := ay hw0 hb
 go_wp2_with fail
 exact bodyPost_ret (v := .agg #[.slice A2 l2.length c2, .bool m2]) (by simp [results, Tryz.results130, go_sem, hc, k2, k3, r0, r1, q1]) rfl
  ⟨rfl, jq.grown (mo _ _ _ _) jq.size (fun k hk => by injection hk with hk; omega)⟩


def Sq (n d : Int) : Int := if Wd.qm n d then 0 else 1

theorem atn (n d : Int) (h1 : d < 1) (w : World) :
  Calls Tryz.prog 66 #[.agg #[.int .i64 n, .int .i64 d]] w fun e w' => e = .returned (.int .i64 1) ∧ Below w.heap.size w w' := by
 have d1 : decide (d < 1) = true := decide_eq_true om
 clear h1
 go_enter Tryz.func66, Tryz.ntmps66
 go_wp2
 go_ret
 exact ⟨rfl, (Below.refl _ _).alloc (Nat.le_refl _) _⟩
theorem atm (n d : Int) (h1 : ¬ d < 1) (h2 : 1000000000000 < d) (w : World) :
  Calls Tryz.prog 66 #[.agg #[.int .i64 n, .int .i64 d]] w fun e w' => e = .returned (.int .i64 1) ∧ Below w.heap.size w w' := by
 have d1 : decide (d < 1) = false := decide_eq_false om
 have d2 : decide (1000000000000 < d) = true := decide_eq_true om
 clear h1 h2
 go_enter Tryz.func66, Tryz.ntmps66
 go_wp2
 go_ret
 exact ⟨rfl, (Below.refl _ _).alloc (Nat.le_refl _) _⟩
theorem atl (n d : Int) (h1 : ¬ d < 1) (h2 : ¬ 1000000000000 < d) (h3 : n < -1000000000000) (w : World) :
  Calls Tryz.prog 66 #[.agg #[.int .i64 n, .int .i64 d]] w fun e w' => e = .returned (.int .i64 1) ∧ Below w.heap.size w w' := by
 have d1 : decide (d < 1) = false := decide_eq_false om
 have d2 : decide (1000000000000 < d) = false := decide_eq_false om
 have d3 : decide (n < -1000000000000) = true := decide_eq_true om
 clear h1 h2 h3
 go_enter Tryz.func66, Tryz.ntmps66
 go_wp2
 go_ret
 exact ⟨rfl, (Below.refl _ _).alloc (Nat.le_refl _) _⟩
theorem atj (n d : Int) (h1 : ¬ d < 1) (h2 : ¬ 1000000000000 < d) (h3 : ¬ n < -1000000000000) (h4 : 1000000000000 < n) (w : World) :
  Calls Tryz.prog 66 #[.agg #[.int .i64 n, .int .i64 d]] w fun e w' => e = .returned (.int .i64 1) ∧ Below w.heap.size w w' := by
 have d1 : decide (d < 1) = false := decide_eq_false om
 have d2 : decide (1000000000000 < d) = false := decide_eq_false om
 have d3 : decide (n < -1000000000000) = false := decide_eq_false om
 have d4 : decide (1000000000000 < n) = true := decide_eq_true om
 clear h1 h2 h3 h4
 go_enter Tryz.func66, Tryz.ntmps66
 go_wp2
 go_ret
 exact ⟨rfl, (Below.refl _ _).alloc (Nat.le_refl _) _⟩
theorem val_ok (n d : Int) (h1 : ¬ d < 1) (h2 : ¬ 1000000000000 < d) (h3 : ¬ n < -1000000000000) (h4 : ¬ 1000000000000 < n) (h5 : n.natAbs.gcd d.natAbs = 1) (w : World) (hT : og w) :
  Calls Tryz.prog 66 #[.agg #[.int .i64 n, .int .i64 d]] w fun e w' => e = .returned (.int .i64 0) ∧ Below w.heap.size w w' := by
 have d1 : decide (d < 1) = false := decide_eq_false om
 have d2 : decide (1000000000000 < d) = false := decide_eq_false om
 have d3 : decide (n < -1000000000000) = false := decide_eq_false om
 have d4 : decide (1000000000000 < n) = false := decide_eq_false om
 have e1 : wrap64 (-n) = -n := IntWalk.wrap64_in _ om
 have e1' : IntKind.i64.wrap (-n) = -n := IntWalk.i64_in _ om
 obtain ⟨a, ha⟩ : ∃ a, a = n.natAbs := ⟨_, rfl⟩
 obtain ⟨b, hb⟩ : ∃ b, b = d.natAbs := ⟨_, rfl⟩
 have e2 : max n (-n) = ((a : Nat) : Int) := by omega
 have e3 : IntKind.u64.wrap ((a : Nat) : Int) = ((a : Nat) : Int) := by rw [IntKind.wrap_u64]; omega
 have e4 : IntKind.u64.wrap d = ((b : Nat) : Int) := by rw [IntKind.wrap_u64]; omega
 rw [← ha, ← hb] at h5
 have HG := hide (fun W (hW : og W) => Nz a b (by rw [gm]; omega) (by rw [gm]; omega) W hW)
 have HT := hide hT
 obtain ⟨g, hg⟩ : ∃ g, g = a.gcd b := ⟨_, rfl⟩
 rw [← hg] at h5 HG
 have d5 : ((g : Int) == 1) = true := beq_iff_eq.2 om
 have d6 : ((g : Int) != 1) = false := by simp [bne, d5]
 clear h1 h2 h3 h4 h5 ha hb hg hT
 go_enter Tryz.func66, Tryz.ntmps66
 go_wp2_with fail
 refine ((aa HG) _ ((aa HT).alloc _)).mono ?_
 rintro e w' ⟨rfl, rfl⟩
 go_wp2
 go_ret
 exact ⟨rfl, (Below.refl _ _).alloc (Nat.le_refl _) _⟩
theorem ati (n d : Int) (h1 : ¬ d < 1) (h2 : ¬ 1000000000000 < d) (h3 : ¬ n < -1000000000000) (h4 : ¬ 1000000000000 < n) (h5 : ¬ n.natAbs.gcd d.natAbs = 1) (w : World) (hT : og w) :
  Calls Tryz.prog 66 #[.agg #[.int .i64 n, .int .i64 d]] w fun e w' => e = .returned (.int .i64 1) ∧ Below w.heap.size w w' := by
 have d1 : decide (d < 1) = false := decide_eq_false om
 have d2 : decide (1000000000000 < d) = false := decide_eq_false om
 have d3 : decide (n < -1000000000000) = false := decide_eq_false om
 have d4 : decide (1000000000000 < n) = false := decide_eq_false om
 have e1 : wrap64 (-n) = -n := IntWalk.wrap64_in _ om
 have e1' : IntKind.i64.wrap (-n) = -n := IntWalk.i64_in _ om
 obtain ⟨a, ha⟩ : ∃ a, a = n.natAbs := ⟨_, rfl⟩
 obtain ⟨b, hb⟩ : ∃ b, b = d.natAbs := ⟨_, rfl⟩
 have e2 : max n (-n) = ((a : Nat) : Int) := by omega
 have e3 : IntKind.u64.wrap ((a : Nat) : Int) = ((a : Nat) : Int) := by rw [IntKind.wrap_u64]; omega
 have e4 : IntKind.u64.wrap d = ((b : Nat) : Int) := by rw [IntKind.wrap_u64]; omega
 rw [← ha, ← hb] at h5
 have HG := hide (fun W (hW : og W) => Nz a b (by rw [gm]; omega) (by rw [gm]; omega) W hW)
 have HT := hide hT
 obtain ⟨g, hg⟩ : ∃ g, g = a.gcd b := ⟨_, rfl⟩
 rw [← hg] at h5 HG
 have d5 : ((g : Int) == 1) = false := beq_eq_false_iff_ne.2 om
 have d6 : ((g : Int) != 1) = true := by simp [bne, d5]
 clear h1 h2 h3 h4 h5 ha hb hg hT
 go_enter Tryz.func66, Tryz.ntmps66
 go_wp2_with fail
 refine ((aa HG) _ ((aa HT).alloc _)).mono ?_
 rintro e w' ⟨rfl, rfl⟩
 go_wp2
 go_ret
 exact ⟨rfl, (Below.refl _ _).alloc (Nat.le_refl _) _⟩
theorem aat (n d : Int) (w : World) (hT : og w) :
  Calls Tryz.prog 66 #[.agg #[.int .i64 n, .int .i64 d]] w fun e w' => e = .returned (.int .i64 (Sq n d)) ∧ Below w.heap.size w w' := by
 unfold Sq
 by_cases h1 : d < 1
 ·
  rw [if_neg (by unfold Wd.qm; omega)]; exact atn n d h1 w
 by_cases h2 : 1000000000000 < d
 ·
  rw [if_neg (by unfold Wd.qm; omega)]; exact atm n d h1 h2 w
 by_cases h3 : n < -1000000000000
 ·
  rw [if_neg (by unfold Wd.qm; omega)]; exact atl n d h1 h2 h3 w
 by_cases h4 : 1000000000000 < n
 ·
  rw [if_neg (by unfold Wd.qm; omega)]; exact atj n d h1 h2 h3 h4 w
 by_cases h5 : n.natAbs.gcd d.natAbs = 1
 ·
  rw [if_pos (by unfold Wd.qm; omega)]; exact val_ok n d h1 h2 h3 h4 h5 w hT
 ·
  rw [if_neg (by unfold Wd.qm; omega)]; exact ati n d h1 h2 h3 h4 h5 w hT

theorem bah (n d : Int) (w : World) :
  Calls Tryz.prog 70 #[.agg #[.int .i64 n, .int .i64 d]] w fun e w' => e = .returned (.bool (decide (Wd.qm n d))) ∧ Below w.heap.size w w' := by
 have hba : Below w.heap.size w (w.alloc (.cells #[.int .i64 n, .int .i64 d] 23)) := (Below.refl _ _).alloc (Nat.le_refl _) _
 have HB := hide hba
 by_cases hr : 1 ≤ d ∧ d ≤ 1000000000000 ∧ -1000000000000 ≤ n ∧ n ≤ 1000000000000
 ·
  obtain ⟨r1, r2, r3, r4⟩ := hr
  have hok : decide (n.natAbs.gcd d.natAbs = 1) = decide (Wd.qm n d) := decide_eq_decide.2 (by
   unfold Wd.qm
   constructor
   ·
    intro h; refine ⟨?_, ?_, ?_, ?_, ?_⟩ <;> first | omega | exact h
   ·
    rintro ⟨_, _, _, _, h⟩; exact h)
  rw [← hok]
  obtain ⟨rb, hrb⟩ : ∃ b, b = decide (n.natAbs.gcd d.natAbs = 1) := ⟨_, rfl⟩
  rw [← hrb]
  have HRB := Lib.hid hrb
  clear hok hba hrb
  have d1 : decide (d < 1) = false := decide_eq_false om
  have d2 : decide (1000000000000 < d) = false := decide_eq_false om
  have d3 : decide (n < -1000000000000) = false := decide_eq_false om
  have d4 : decide (1000000000000 < n) = false := decide_eq_false om
  have en : IntKind.i64.wrap (-n) = -n := IntWalk.i64_in _ om
  obtain ⟨a, ha⟩ : ∃ a, a = n.natAbs := ⟨_, rfl⟩
  obtain ⟨b, hb⟩ : ∃ b, b = d.natAbs := ⟨_, rfl⟩
  go_enter Tryz.func70, Tryz.ntmps70
  go_wp2_with fail
  all_goals first | omega | skip
  all_goals go_quiet (fail)
  all_goals go_wp2_with fail
  all_goals
   have HRR := hide (And.intro r1 (And.intro r2 (And.intro r3 r4)))
   go_loopw [3, 4] (fun av bv wr => ∃ (a b : Nat), av = .int .i64 ((a : Nat) : Int) ∧ bv = .int .i64 ((b : Nat) : Int) ∧ a ≤ 1000000000000 ∧ b ≤ 1000000000000 ∧ Hid (a.gcd b = n.natAbs.gcd d.natAbs) ∧ Below w.heap.size w wr) (fun _ bv _ => (intOf bv).toNat)
   case atStart =>
    refine ⟨n.natAbs, d.natAbs, ?_, ?_, by omega, by omega, rfl, by first | exact aa HB | exact (aa HB).drew | exact mi (aa HB) _⟩
    ·
     show Value.int .i64 _ = Value.int .i64 _
     congr 1; omega
    ·
     show Value.int .i64 _ = Value.int .i64 _
     congr 1; omega
   case round =>
    obtain ⟨a, b, rfl, rfl, ha, hb, HG, hbl⟩ := hrel
    by_cases h0 : b = 0
    ·
     subst h0
     have hg := HG.out
     rw [Nat.gcd_zero_right] at hg
     have hres : ((a : Int) == 1) = rb := by
      rw [HRB.out]
      by_cases h : a = 1
      ·
       exact (show ((a : Int) == 1) = true by rw [h]; rfl).trans (decide_eq_true (hg.symm.trans h)).symm
      ·
       exact (show ((a : Int) == 1) = false from beq_eq_false_iff_ne.2 om).trans (decide_eq_false (fun e => h (hg.trans e))).symm
     have bpg := Lib.hid hres
     clear hg hres
     go_wp2_with fail
     all_goals first | omega | skip
     go_ret
     exact ⟨by rw [← bpg.out]; rfl, hbl⟩
    ·
     have dp : decide ((0 : Int) < (b : Int)) = true := decide_eq_true om
     have dp' : decide (0 < b) = true := decide_eq_true om
     have e1 : ((a : Int)).tmod (b : Int) = ((a % b : Nat) : Int) := (Int.ofNat_tmod _ _).symm
     have e2 : ((b : Int) == 0) = false := beq_eq_false_iff_ne.2 om
     have e3 : ¬ ((b : Int) = 0) := by omega
     have hm := Nat.mod_lt a (Nat.pos_of_ne_zero h0)
     obtain ⟨r, hr⟩ : ∃ r, r = a % b := ⟨_, rfl⟩
     rw [← hr] at e1 hm
     have e4 : IntKind.i64.wrap (r : Int) = (r : Int) := IntWalk.i64_in _ om
     have hgg : b.gcd r = n.natAbs.gcd d.natAbs := by
      rw [← HG.out, hr, Nat.gcd_comm b (a % b), ← Nat.gcd_rec b a, Nat.gcd_comm]
     have HGG := Lib.hid hgg
     clear hgg hr HG
     go_wp2_with fail
     all_goals first | omega | skip
     go_quiet (fail)
     go_wp2_with fail
     go_roundw
     case rel => exact ⟨b, r, by go_num, by go_num, by omega, by omega, HGG, by first | exact hbl | exact hbl.drew | exact mi hbl _⟩
     case measure => simp [intOf] <;> omega
 ·
  have hok : decide (Wd.qm n d) = false := decide_eq_false (by
   unfold Wd.qm
   rintro ⟨a1, a2, a3, a4, _⟩
   exact hr ⟨by omega, by omega, by omega, by omega⟩)
  rw [hok]
  clear hok hba
  go_enter Tryz.func70, Tryz.ntmps70
  go_wp2_with fail
  all_goals first | omega | skip
  all_goals
   go_ret
   exact ⟨rfl, aa HB⟩



def Cr (w : World) (b : Nat) (z : Int) : Prop := ∃ A cap l m, w.heap[b]? = some (.cells #[.slice A (List.length l) cap, .bool m] 66 (0, 0)) ∧ ku w A cap l m z
theorem Cr.below {w w' : World} {b : Nat} {z : Int} (h : Cr w b z) (hb : Below w.heap.size w w') : Cr w' b z := by
 obtain ⟨A, cap, l, m, h1, h2⟩ := h
 exact ⟨A, cap, l, m, (hb.block _ (lt_of_block h1)).trans h1, h2.below hb⟩
theorem Cr.lt {w : World} {b : Nat} {z : Int} (h : Cr w b z) : b < w.heap.size := by
 obtain ⟨A, cap, l, m, h1, _⟩ := h; exact lt_of_block h1
theorem Cr.put {w : World} {b : Nat} {z0 z : Int} {A : Option Addr} {cap : Nat} {l : List Nat} {m : Bool} (h : Cr w b z0) (hf : ku w A cap l m z) :
  Cr ((w.setCell ⟨b, 0, none⟩ (.slice A l.length cap)).setCell ⟨b, 1, none⟩ (.bool m)) b z := by
 obtain ⟨A0, c0, l0, m0, h1, _⟩ := h
 exact ⟨A, cap, l, m, Qt h1, hf.upto h1 (Pp _ _ _ _) (mo _ _ _ _)⟩
theorem Cr.other {w : World} {b b' : Nat} {z z' : Int} (u0 u1 : Value) (h : Cr w b z) (hb : Cr w b' z') (hne : b ≠ b') : Cr ((w.setCell ⟨b', 0, none⟩ u0).setCell ⟨b', 1, none⟩ u1) b z := by
 obtain ⟨A, cap, l, m, h1, h2⟩ := h
 obtain ⟨A0, c0, l0, m0, h3, _⟩ := hb
 have hg := mo w b' u0 u1
 exact ⟨A, cap, l, m, (hg.block b (lt_of_block h1) (fun e => hne (by injection e))).trans h1, h2.upto h3 (Pp _ _ _ _) hg⟩
theorem ku.put {w : World} {b : Nat} {z z' : Int} {A : Option Addr} {cap : Nat} {l : List Nat} {m : Bool} (u0 u1 : Value) (hf : ku w A cap l m z) (hb : Cr w b z') : ku ((w.setCell ⟨b, 0, none⟩ u0).setCell ⟨b, 1, none⟩ u1) A cap l m z := by
 obtain ⟨A0, c0, l0, m0, h1, _⟩ := hb
 exact hf.upto h1 (Pp _ _ _ _) (mo _ _ _ _)

structure Um (w W : World) (n d : Int) : Prop where
 bn : Cr W w.heap.size n
 bd : Cr W (w.heap.size + 1) d
 bq : W.heap[w.heap.size + 1 + 1]? = some (.cells #[.slice none 0 0, .bool false, .slice none 0 0, .bool false] 68 (0, 0))
 hb : Below w.heap.size w W
theorem Um.below {w W W' : World} {n d : Int} (h : Um w W n d) (hb : Below W.heap.size W W') : Um w W' n d :=
 ⟨h.bn.below hb, h.bd.below hb, (hb.block _ (lt_of_block h.bq)).trans h.bq, ay h.hb hb⟩
theorem Um.put {w W : World} {n d n' d' : Int} {A1 : Option Addr} {c1 : Nat} {l1 : List Nat} {m1 : Bool} {A2 : Option Addr} {c2 : Nat} {l2 : List Nat} {m2 : Bool} (h : Um w W n d) (h1 : ku W A1 c1 l1 m1 n') (h2 : ku W A2 c2 l2 m2 d') :
  Um w ((((W.setCell ⟨w.heap.size, 0, none⟩ (.slice A1 l1.length c1)).setCell ⟨w.heap.size, 1, none⟩ (.bool m1)).setCell ⟨w.heap.size + 1, 0, none⟩ (.slice A2 l2.length c2)).setCell ⟨w.heap.size + 1, 1, none⟩ (.bool m2)) n' d' := by
 have a1 := h.bn.put h1
 have a2 := h.bd.other (.slice A1 l1.length c1) (.bool m1) h.bn om
 have a3 := h2.put (.slice A1 l1.length c1) (.bool m1) h.bn
 have g1 := mo W w.heap.size (.slice A1 l1.length c1) (.bool m1)
 generalize ((W.setCell ⟨w.heap.size, 0, none⟩ (.slice A1 l1.length c1)).setCell ⟨w.heap.size, 1, none⟩ (.bool m1)) = W1 at *
 have b1 := a2.put a3
 have b2 := a1.other (.slice A2 l2.length c2) (.bool m2) a2 om
 have g2 := mo W1 (w.heap.size + 1) (.slice A2 l2.length c2) (.bool m2)
 have q1 := (g1.block _ (lt_of_block h.bq) (fun e => by injection e with e; omega)).trans h.bq
 exact ⟨b2, b1, (g2.block _ (lt_of_block q1) (fun e => by injection e with e; omega)).trans q1,
  (h.hb.grown g1 h.hb.size (fun k hk => by injection hk with hk; omega)).grown g2 (by have := g1.size; have := h.hb.size; omega) (fun k hk => by injection hk with hk; omega)⟩

theorem Um.keep {w W : World} {n d : Int} (u0 u1 u2 u3 : Value) {A : Option Addr} {cap : Nat} {l : List Nat} {m : Bool} {z : Int} (h : Um w W n d) (x : ku W A cap l m z) :
  ku ((((W.setCell ⟨w.heap.size, 0, none⟩ u0).setCell ⟨w.heap.size, 1, none⟩ u1).setCell ⟨w.heap.size + 1, 0, none⟩ u2).setCell ⟨w.heap.size + 1, 1, none⟩ u3) A cap l m z :=
 (x.put u0 u1 h.bn).put u2 u3 (h.bd.other u0 u1 h.bn om)

def QR (w : World) (q : Rat) (e : Ending) (w' : World) : Prop := ∃ A1 c1 l1 m1 A2 c2 l2 m2, e = .returned (.agg #[.slice A1 (List.length l1) c1, .bool m1, .slice A2 (List.length l2) c2, .bool m2]) ∧ ku w' A1 c1 l1 m1 q.num ∧ ku w' A2 c2 l2 m2 (q.den : Int) ∧ Below w.heap.size w w'

theorem anu (n d : Int) (hd : 0 < d) : (Rat.divInt n d).num = (if decide (n < 0) = true then -((n.natAbs / (n.natAbs.gcd d.natAbs) : Nat) : Int) else ((n.natAbs / (n.natAbs.gcd d.natAbs) : Nat) : Int)) ∧ ((Rat.divInt n d).den : Int) = ((d.natAbs / (n.natAbs.gcd d.natAbs) : Nat) : Int) := by
 obtain ⟨h1, h2⟩ := Wd.Mt n d om
 rw [Int.sign_eq_one_of_pos hd, Int.one_mul] at h1 h2
 rw [h1, h2]
 generalize n.natAbs.gcd d.natAbs = g
 constructor
 ·
  by_cases hn : n < 0
  ·
   rw [if_pos (decide_eq_true hn)]
   obtain ⟨k, hk⟩ : ∃ k : Nat, n = -(k : Int) := ⟨n.natAbs, by omega⟩
   subst hk
   rw [Int.neg_tdiv, Int.natAbs_neg, Int.natAbs_natCast, Int.ofNat_tdiv]
  ·
   rw [if_neg (by simpa using hn)]
   obtain ⟨k, hk⟩ : ∃ k : Nat, n = (k : Int) := ⟨n.natAbs, by omega⟩
   subst hk
   rw [Int.natAbs_natCast, Int.ofNat_tdiv]
 ·
  obtain ⟨k, hk⟩ : ∃ k : Nat, d = (k : Int) := ⟨d.natAbs, by omega⟩
  subst hk
  rw [Int.natAbs_natCast, Int.ofNat_tdiv]
theorem adq (n d : Int) (hd : d ≠ 0) : Rat.divInt (-n) (-d) = Rat.divInt n d := by
 rw [Rat.divInt_eq_divInt_iff om hd, Int.neg_mul, Int.mul_neg]

structure QV (w : World) (A1 : Option Addr) (c1 : Nat) (l1 : List Nat) (m1 : Bool) (A2 : Option Addr) (c2 : Nat) (l2 : List Nat) (m2 : Bool) (q : Rat) : Prop where
 num : ku w A1 c1 l1 m1 q.num
 den : ∃ d : Int, ku w A2 c2 l2 m2 d ∧ (d = (q.den : Int) ∨ (d = 0 ∧ q.den = 1))
theorem QV.below {w w' : World} {A1 : Option Addr} {c1 : Nat} {l1 : List Nat} {m1 : Bool} {A2 : Option Addr} {c2 : Nat} {l2 : List Nat} {m2 : Bool} {q : Rat} (h : QV w A1 c1 l1 m1 A2 c2 l2 m2 q) (hb : Below w.heap.size w w') : QV w' A1 c1 l1 m1 A2 c2 l2 m2 q := by
 obtain ⟨d, h2, h3⟩ := h.den
 exact ⟨h.num.below hb, d, h2.below hb, h3⟩
theorem QV.of {w : World} {A1 : Option Addr} {c1 : Nat} {l1 : List Nat} {m1 : Bool} {A2 : Option Addr} {c2 : Nat} {l2 : List Nat} {m2 : Bool} {q : Rat} (h1 : ku w A1 c1 l1 m1 q.num) (h2 : ku w A2 c2 l2 m2 (q.den : Int)) : QV w A1 c1 l1 m1 A2 c2 l2 m2 q :=
 ⟨h1, _, h2, .inl rfl⟩
theorem ku.len {w : World} {A : Option Addr} {cap : Nat} {l : List Nat} {m : Bool} {z : Int} {K : Nat} (h : ku w A cap l m z) (hz : z.natAbs < dw ^ K) : l.length ≤ K := h.nat.len hz

theorem aeh (w : World) :
  Calls Tryz.prog 142 #[] w fun e w' => Io w 1 e w' := by
 go_enter Tryz.func142, Tryz.ntmps142
 go_wp2_with fail
 obtain ⟨n0, n1, hsz, hw0⟩ := yh w (.cells #[.slice (some ⟨w.heap.size + 1, 0, none⟩) 1 1, .bool false] 66) (.cells #[.int .u32 1] 187)
 generalize ((w.alloc (.cells #[.slice (some ⟨w.heap.size + 1, 0, none⟩) 1 1, .bool false] 66)).alloc (.cells #[.int .u32 1] 187)) = W0 at *
 have hz : ZB .u32 W0 (w.heap.size + 1) 187 [1] := n1
 have hn : qd W0 (some ⟨w.heap.size + 1, 0, none⟩) 1 [1] 1 := ⟨hz.Dw _ hz.lt, by simp, by omega, by intro x hx; rw [List.mem_singleton] at hx; subst hx; exact Ct, .inr (by simp), by simp [Wd.val]⟩
 have k0 : W0.cell? ⟨w.heap.size, 0, none⟩ = some (.slice (some ⟨w.heap.size + 1, 0, none⟩) 1 1) := ag n0 0
 have k1 : W0.cell? ⟨w.heap.size, 1, none⟩ = some (.bool false) := ag n0 1
 exact bodyPost_ret (v := .agg #[.slice (some ⟨w.heap.size + 1, 0, none⟩) 1 1, .bool false]) (by simp [results, Tryz.results142, go_sem, k0, k1]) rfl
  ⟨_, 1, [1], false, rfl, ⟨hn, rfl⟩, hw0⟩

theorem aej (A1 : Option Addr) (c1 : Nat) (l1 : List Nat) (m1 : Bool) (A2 : Option Addr) (c2 : Nat) (l2 : List Nat) (m2 : Bool) (w : World) (h2 : ku w A2 c2 l2 m2 0) :
  Calls Tryz.prog 130 #[.agg #[.slice A1 l1.length c1, .bool m1, .slice A2 l2.length c2, .bool m2]] w fun e w' => Io w 1 e w' := by
 have hl : l2.length = 0 := h2.nat.Lx.1 rfl
 have HI := hide (fun W => Wz A2 c2 l2.length m2 W)
 rw [decide_eq_true hl] at HI
 have HO := hide aeh
 clear h2 hl
 go_enter Tryz.func130, Tryz.ntmps130
 go_wp2_with fail
 obtain ⟨n0, n1, hsz, hw0⟩ := yh w (.cells #[.slice A1 l1.length c1, .bool m1, .slice A2 l2.length c2, .bool m2] 68) (.cells #[.slice none 0 0, .bool false] 66)
 generalize ((w.alloc (.cells #[.slice A1 l1.length c1, .bool m1, .slice A2 l2.length c2, .bool m2] 68)).alloc (.cells #[.slice none 0 0, .bool false] 66)) = W0 at *
 have q1 : w.heap.size + 1 < W0.heap.size := by omega
 have r0 : W0.cell? ⟨w.heap.size + 1, 0, none⟩ = some (.slice none 0 0) := ag n1 0
 have r1 : W0.cell? ⟨w.heap.size + 1, 1, none⟩ = some (.bool false) := ag n1 1
 have f0 := ai n1 0
 have f1 := ai n1 1
 have NR := Lib.hid n1
 clear n0 n1 hsz
 refine ((aa HI) _).mono ?_
 rintro e W1 ⟨rfl, hb⟩
 have HB := hide hb
 clear hb
 go_wp2_with fail
 refine ((aa HO) _).mono ?_
 rintro e w' ⟨A5, c5, l5, m5, rfl, Bc, hb2⟩
 have hb := ay (aa HB) hb2
 obtain ⟨hc, hfz⟩ := fe hb
 have hblk : w'.heap[w.heap.size + 1]? = some (.cells #[.slice none 0 0, .bool false] 66 (0, 0)) := (hb.block _ q1).trans NR.out
 have ky := Lib.hid hblk
 have jq : Below w.heap.size w w' := ay hw0 hb
 clear hblk hb2
 go_wp2_with fail
 exact bodyPost_ret (v := .agg #[.slice A5 l5.length c5, .bool m5]) (by simp [results, Tryz.results130, go_sem, hc, r0, r1, q1]) rfl
  ⟨A5, c5, l5, m5, rfl, Bc.upto ky.out (Pp _ _ _ _) (mo _ _ _ _), jq.grown (mo _ _ _ _) jq.size (fun k hk => by injection hk with hk; omega)⟩

theorem acd (A1 : Option Addr) (c1 : Nat) (l1 : List Nat) (m1 : Bool) (A2 : Option Addr) (c2 : Nat) (l2 : List Nat) (m2 : Bool) (q : Rat) (w : World) (h : QV w A1 c1 l1 m1 A2 c2 l2 m2 q) :
  Calls Tryz.prog 130 #[.agg #[.slice A1 l1.length c1, .bool m1, .slice A2 l2.length c2, .bool m2]] w fun e w' => Io w (q.den : Int) e w' := by
 obtain ⟨d, h2, rfl | ⟨rfl, h1⟩⟩ := h.den
 ·
  refine (atr A1 c1 l1 m1 A2 c2 l2 m2 _ w h2 (by have := q.den_nz; omega)).mono ?_
  rintro e w' ⟨rfl, hb⟩
  exact ⟨A2, c2, l2, m2, rfl, h2.below hb, hb⟩
 ·
  rw [h1]
  exact aej A1 c1 l1 m1 A2 c2 l2 m2 w h2

namespace Wd
structure Jq (B : Nat) (xl yl l : List Nat) (i c : Nat) : Prop where
 len : l.length = i
 lt : ∀ x ∈ l, x < B
 c1 : c ≤ 1
 eq : Wd.val B l + B ^ i * c = Wd.val B (xl.take i) + Wd.val B (yl.take i)
theorem Jq.start (B : Nat) (xl yl : List Nat) : Jq B xl yl [] 0 0 := ⟨rfl, by simp, by omega, by simp [val]⟩
theorem afr {B : Nat} {l : List Nat} {d : Nat} (h : ∀ x ∈ l, x < B) (hd : d < B) : ∀ x ∈ l ++ [d], x < B := by
 intro t ht
 rw [List.mem_append] at ht
 rcases ht with h1 | h1
 ·
  exact h t h1
 ·
  rw [List.mem_singleton] at h1; subst h1; exact hd
theorem Jq.step {B : Nat} {xl yl l : List Nat} {i c x y s : Nat} (hB : 1 < B) (h : Jq B xl yl l i c) (hx : x = xl.getD i 0) (zx : x < B) (hy : y = yl.getD i 0) (Ig : y < B) (hs : s = c + x + y) :
  Jq B xl yl (l ++ [s % B]) (i + 1) (s / B) := by
 have hc := h.c1
 refine ⟨by simp [h.len], afr h.lt (Nat.mod_lt _ om), ?_, ?_⟩
 ·
  exact Nat.lt_succ_iff.1 ((Nat.div_lt_iff_lt_mul om).2 om)
 ·
  rw [xy, h.len, Nat.pow_succ, lg, lg, ← hx, ← hy]
  have e := Nat.mod_add_div s B
  have h1 := h.eq
  have e2 : B ^ i * (s % B) + B ^ i * B * (s / B) = B ^ i * c + B ^ i * x + B ^ i * y := by
   rw [Nat.mul_assoc, ← Nat.mul_add, e, hs, Nat.mul_add, Nat.mul_add]
  omega
theorem Jq.done {B : Nat} {xl yl l : List Nat} {i c : Nat} (h : Jq B xl yl l i c) (hx : xl.length ≤ i) (hy : yl.length ≤ i) : Wd.val B (l ++ [c]) = Wd.val B xl + Wd.val B yl := by
 have h1 := h.eq
 rw [iy _ _ _ hx, iy _ _ _ hy] at h1
 rw [xy, h.len, h1]
structure Jr (B : Nat) (xl yl l : List Nat) (i b : Nat) : Prop where
 len : l.length = i
 lt : ∀ x ∈ l, x < B
 b1 : b ≤ 1
 eq : Wd.val B l + Wd.val B (yl.take i) = Wd.val B (xl.take i) + B ^ i * b
theorem Jr.start (B : Nat) (xl yl : List Nat) : Jr B xl yl [] 0 0 := ⟨rfl, by simp, by omega, by simp [val]⟩
theorem Jr.step {B : Nat} {xl yl l : List Nat} {i b x y d b' : Nat} (h : Jr B xl yl l i b) (hx : x = xl.getD i 0) (hy : y = yl.getD i 0) (hd : d < B) (hb : b' ≤ 1) (hs : d + y + b = x + B * b') :
  Jr B xl yl (l ++ [d]) (i + 1) b' := by
 refine ⟨by simp [h.len], afr h.lt hd, hb, ?_⟩
 rw [xy, h.len, Nat.pow_succ, lg, lg, ← hx, ← hy]
 have h1 := h.eq
 have e2 : B ^ i * d + B ^ i * y + B ^ i * b = B ^ i * x + B ^ i * B * b' := by
  rw [← Nat.mul_add, ← Nat.mul_add, hs, Nat.mul_add, Nat.mul_assoc]
 omega
theorem Jr.done {B : Nat} {xl yl l : List Nat} {i b : Nat} (h : Jr B xl yl l i b) (hx : xl.length = i) (hy : yl.length ≤ i) (hle : Wd.val B yl ≤ Wd.val B xl) : Wd.val B l = Wd.val B xl - Wd.val B yl := by
 have h1 := h.eq
 rw [iy B xl i om, iy B yl i hy] at h1
 have h2 := za l h.lt
 rw [h.len] at h2
 have hb := h.b1
 rcases (show b = 0 ∨ b = 1 by omega) with rfl | rfl
 ·
  omega
 ·
  rw [Nat.mul_one] at h1; omega
end Wd





structure Qg (Wp W : World) (b : Nat) : Prop where
 old : Wp.heap.size ≤ b
 zero : W.heap[b]? = some (.cells #[.slice none 0 0, .bool false] 66 (0, 0))
theorem Qg.lt {Wp W : World} {b : Nat} (h : Qg Wp W b) : b < W.heap.size := lt_of_block h.zero
theorem Qg.drew {Wp W : World} {b : Nat} (h : Qg Wp W b) : Qg Wp W.drew b := ⟨h.old, h.zero⟩
theorem Qg.below {Wp W w' : World} {b : Nat} (h : Qg Wp W b) (hb : Below W.heap.size W w') : Qg Wp w' b := ⟨h.old, (hb.block _ h.lt).trans h.zero⟩
theorem Qg.new {Wp W : World} {b : Nat} (hb : Below Wp.heap.size Wp W) (e : b = W.heap.size) : Qg Wp (W.alloc (.cells #[.slice none 0 0, .bool false] 66 (0, 0))) b := by
 subst e; exact ⟨hb.size, heap_alloc_new W _⟩
theorem Qg.alloc {Wp W : World} {b : Nat} {o : Obj} (h : Qg Wp W b) : Qg Wp (W.alloc o) b := ⟨h.old, (Below.heap_alloc W _ b h.lt).trans h.zero⟩
theorem Cr.new {W : World} {b : Nat} {A1 : Option Addr} {c1 : Nat} {l1 : List Nat} {m1 : Bool} {z1 : Int} (h1 : ku W A1 c1 l1 m1 z1) (e : b = W.heap.size) : Cr (W.alloc (.cells #[.slice A1 l1.length c1, .bool m1] 66)) b z1 := by
 subst e; exact ⟨A1, c1, l1, m1, heap_alloc_new W _, h1.below ((Below.refl _ _).alloc (Nat.le_refl _) _)⟩
theorem Cr.alloc {W : World} {b : Nat} {z : Int} {o : Obj} (h : Cr W b z) : Cr (W.alloc o) b z := h.below ((Below.refl _ _).alloc (Nat.le_refl _) _)
theorem ku.alloc {W : World} {o : Obj} {A1 : Option Addr} {c1 : Nat} {l1 : List Nat} {m1 : Bool} {z1 : Int} (h1 : ku W A1 c1 l1 m1 z1) : ku (W.alloc o) A1 c1 l1 m1 z1 := h1.below ((Below.refl _ _).alloc (Nat.le_refl _) _)
def bii (w : World) (F : Nat) (a b c : Int) : Prop := ∀ (A1 : Option Addr) (c1 : Nat) (l1 : List Nat) (m1 : Bool) (A2 : Option Addr) (c2 : Nat) (l2 : List Nat) (m2 : Bool) (W : World), Below w.heap.size w W → ku W A1 c1 l1 m1 a → ku W A2 c2 l2 m2 b → Calls Tryz.prog F #[(Value.agg #[.slice A1 l1.length c1, .bool m1]), (Value.agg #[.slice A2 l2.length c2, .bool m2])] W fun e w' => Io W c e w'
def bij (w : World) (F : Nat) (a b : Int) (q : Rat) : Prop := ∀ (A1 : Option Addr) (c1 : Nat) (l1 : List Nat) (m1 : Bool) (A2 : Option Addr) (c2 : Nat) (l2 : List Nat) (m2 : Bool) (W : World), Below w.heap.size w W → ku W A1 c1 l1 m1 a → ku W A2 c2 l2 m2 b → Calls Tryz.prog F #[(Value.agg #[.slice A1 l1.length c1, .bool m1]), (Value.agg #[.slice A2 l2.length c2, .bool m2])] W fun e w' => QR W q e w'

theorem als (A1 : Option Addr) (c1 : Nat) (l1 : List Nat) (m1 : Bool) (n : Int) (A2 : Option Addr) (c2 : Nat) (l2 : List Nat) (m2 : Bool) (d : Int) (K : Nat) (w : World) (h1 : ku w A1 c1 l1 m1 n) (h2 : ku w A2 c2 l2 m2 d) (hd : d ≠ 0) (hn : n.natAbs < dw ^ K) (hdK : d.natAbs < dw ^ K) (hK : K + 1 ≤ 35184372088832) :
  Calls Tryz.prog 128 #[.agg #[.slice A1 l1.length c1, .bool m1], .agg #[.slice A2 l2.length c2, .bool m2]] w fun e w' => QR w (Rat.divInt n d) e w' := by
 have hl : ¬ l2.length = 0 := fun e => by have := h2.nat.Lx.2 e; omega
 have HI := hide (fun W => Wz A2 c2 l2.length m2 W)
 rw [decide_eq_false hl] at HI
 obtain ⟨n', d', q, hq, hq2, hd', hn', bgp, hneg⟩ : ∃ (n' d' : Int) (q : Rat), q = Rat.divInt n d ∧ q = Rat.divInt n' d' ∧ 0 < d' ∧ n'.natAbs < dw ^ K ∧ d'.natAbs < dw ^ K ∧ ((m2 = true ∧ n' = -n ∧ d' = -d) ∨ (m2 = false ∧ n' = n ∧ d' = d)) := by
  by_cases h : d < 0
  ·
   exact ⟨-n, -d, _, rfl, (adq n d hd).symm, by omega, by rw [Int.natAbs_neg]; exact hn, by rw [Int.natAbs_neg]; exact hdK, .inl ⟨by rw [h2.sign]; exact decide_eq_true h, rfl, rfl⟩⟩
  ·
   exact ⟨n, d, _, rfl, rfl, by omega, hn, hdK, .inr ⟨by rw [h2.sign]; exact decide_eq_false h, rfl, rfl⟩⟩
 rw [← hq]
 have HQ2 := Lib.hid hq2
 have HDP := hide hd'; have HNK := hide hn'; have HDK := hide bgp; have aof := hide hneg; have HK := hide hK
 have H1 := hide h1; have H2 := hide h2
 have HN1 := hide (fun W (hW : Below w.heap.size w W) => aei A1 c1 l1 m1 n W (h1.below hW))
 have HN2 := hide (fun W (hW : Below w.heap.size w W) => aei A2 c2 l2 m2 d W (h2.below hW))
 clear h1 h2 hd hn hdK hl hq hq2 hd' hn' bgp hneg hK
 go_enter Tryz.func128, Tryz.ntmps128
 go_wp2_with fail
 obtain ⟨n0, n1, n2, hsz, hw0⟩ := ni w (.cells #[.slice A1 l1.length c1, .bool m1] 66) (.cells #[.slice A2 l2.length c2, .bool m2] 66) (.cells #[.slice none 0 0, .bool false, .slice none 0 0, .bool false] 68)
 generalize (((w.alloc (.cells #[.slice A1 l1.length c1, .bool m1] 66)).alloc (.cells #[.slice A2 l2.length c2, .bool m2] 66)).alloc (.cells #[.slice none 0 0, .bool false, .slice none 0 0, .bool false] 68)) = W0 at *
 have hS0 : Um w W0 n d := ⟨⟨_, _, _, _, n0, (aa H1).below hw0⟩, ⟨_, _, _, _, n1, (aa H2).below hw0⟩, n2, hw0⟩
 refine ((aa HI) _).mono ?_
 rintro e W1 ⟨rfl, hb⟩
 have hS1 := hS0.below hb
 have j0 := (hb.block _ (lt_of_block n0)).trans n0
 have j1 := (hb.block _ (lt_of_block n1)).trans n1
 have hw1 := ay hw0 hb
 clear hS0 hb n0 n1 n2 hw0 hsz HI
 have k0 : W1.cell? ⟨w.heap.size, 0, none⟩ = some (.slice A1 l1.length c1) := ag j0 0
 have k1 : W1.cell? ⟨w.heap.size, 1, none⟩ = some (.bool m1) := ag j0 1
 have k2 : W1.cell? ⟨w.heap.size + 1, 0, none⟩ = some (.slice A2 l2.length c2) := ag j1 0
 have k3 : W1.cell? ⟨w.heap.size + 1, 1, none⟩ = some (.bool m2) := ag j1 1
 have HS := hide hS1; have J := hide (And.intro j0 j1); have HW1 := Lib.hid hw1
 clear hS1 hw1 j0 j1
 go_upto_if 14 with (fail)
 go_cut [] (fun wx => Um w wx n' d')
 case first =>
  rcases aa aof with ⟨e1, e2, e3⟩ | ⟨e1, e2, e3⟩
  ·
   subst e1 e2 e3
   have q0 : w.heap.size < W1.heap.size := lt_of_block (aa J).1
   have q1 : w.heap.size + 1 < W1.heap.size := lt_of_block (aa J).2
   have KEEP : ∀ X, Below W1.heap.size W1 X → (fun w' => w'.cell? ⟨w.heap.size, 0, none⟩ = some (.slice A1 l1.length c1) ∧ w'.cell? ⟨w.heap.size, 1, none⟩ = some (.bool m1) ∧ w'.cell? ⟨w.heap.size + 1, 0, none⟩ = some (.slice A2 l2.length c2) ∧ w'.cell? ⟨w.heap.size + 1, 1, none⟩ = some (.bool true)) X := fun X hX => ⟨(hX.cell (p := ⟨w.heap.size, 0, none⟩) q0).trans k0, (hX.cell (p := ⟨w.heap.size, 1, none⟩) q0).trans k1, (hX.cell (p := ⟨w.heap.size + 1, 0, none⟩) q1).trans k2, (hX.cell (p := ⟨w.heap.size + 1, 1, none⟩) q1).trans k3⟩
   have HKE := hide KEEP
   have f0 := ai (aa J).1 0
   have f1 := ai (aa J).1 1
   have f2 := ai (aa J).2 0
   have f3 := ai (aa J).2 1
   clear aof KEEP
   go_wp2_with fail
   go_region_with (first | (go_at_call_of 176 (Value.agg #[.slice A1 l1.length c1, .bool m1]); refine ((aa HN1) _ (ay HW1.out (by (first | with_reducible assumption | (repeat (first | with_reducible exact Below.refl _ _ | with_reducible assumption | refine Below.drew ?_ | (refine Below.alloc ?_ (by simp <;> omega) _))))))).mono ?_; rintro e w' ⟨A5, c5, l5, m5, rfl, bgn, hb⟩; (try (first | replace Bc := ku.below Bc hb | replace Bc := (ku.below Bc (Below.drew (Below.refl _ _))).below hb)); (try (first | replace Ij := ku.below Ij hb | replace Ij := (ku.below Ij (Below.drew (Below.refl _ _))).below hb)); have Bc := bgn; clear bgn; have hbw := bz (w := W1) (by (first | with_reducible assumption | (repeat (first | with_reducible exact Below.refl _ _ | with_reducible assumption | refine Below.drew ?_ | (refine Below.alloc ?_ (by simp <;> omega) _))))) hb; obtain ⟨hc, hfz⟩ := fe hbw) | (go_at_call_of 176 (Value.agg #[.slice A2 l2.length c2, .bool true]); refine ((aa HN2) _ (ay HW1.out (by (first | with_reducible assumption | (repeat (first | with_reducible exact Below.refl _ _ | with_reducible assumption | refine Below.drew ?_ | (refine Below.alloc ?_ (by simp <;> omega) _))))))).mono ?_; rintro e w' ⟨A6, c6, l6, m6, rfl, bgm, hb⟩; (try (first | replace Bc := ku.below Bc hb | replace Bc := (ku.below Bc (Below.drew (Below.refl _ _))).below hb)); (try (first | replace Ij := ku.below Ij hb | replace Ij := (ku.below Ij (Below.drew (Below.refl _ _))).below hb)); have Ij := bgm; clear bgm; have hbw := bz (w := W1) (by (first | with_reducible assumption | (repeat (first | with_reducible exact Below.refl _ _ | with_reducible assumption | refine Below.drew ?_ | (refine Below.alloc ?_ (by simp <;> omega) _))))) hb; obtain ⟨hc, hfz⟩ := fe hbw))
   all_goals
    go_wp2_with fail
    go_meet
    case rel =>
     have HS9 := (aa HS).below hbw
     exact HS9.put Bc Ij
  ·
   subst e1 e2 e3
   clear aof
   go_wp2_with fail
   go_meet
   case rel => exact aa HS
 case rest =>
  clear aof k0 k1 k2 k3 HS J HW1 HN1 HN2 H1 H2
  obtain ⟨⟨A3, c3, l3, m3, kn, fn⟩, ⟨A4, c4, l4, m4, kd, fd⟩, kq, hb⟩ := hcut
  have w0 : wc.cell? ⟨w.heap.size, 0, none⟩ = some (.slice A3 l3.length c3) := ag kn 0
  have w1 : wc.cell? ⟨w.heap.size, 1, none⟩ = some (.bool m3) := ag kn 1
  have w2 : wc.cell? ⟨w.heap.size + 1, 0, none⟩ = some (.slice A4 l4.length c4) := ag kd 0
  have w3 : wc.cell? ⟨w.heap.size + 1, 1, none⟩ = some (.bool m4) := ag kd 1
  have p0 : wc.cell? ⟨w.heap.size + 1 + 1, 0, none⟩ = some (.slice none 0 0) := ag kq 0
  have p1 : wc.cell? ⟨w.heap.size + 1 + 1, 1, none⟩ = some (.bool false) := ag kq 1
  have p2 : wc.cell? ⟨w.heap.size + 1 + 1, 2, none⟩ = some (.slice none 0 0) := ag kq 2
  have p3 : wc.cell? ⟨w.heap.size + 1 + 1, 3, none⟩ = some (.bool false) := ag kq 3
  have u0 := ai kn 0; have u1 := ai kn 1; have u2 := ai kd 0; have u3 := ai kd 1
  have v0 := ai kq 0; have v1 := ai kq 1; have v2 := ai kq 2; have v3 := ai kq 3
  have q0 := lt_of_block kn; have q1 := lt_of_block kd; have q2 := lt_of_block kq
  have hSW : Um w wc n' d' := ⟨⟨A3, c3, l3, m3, kn, fn⟩, ⟨A4, c4, l4, m4, kd, fd⟩, kq, hb⟩
  have ho := Ym A4 c4 l4 m4 d' wc fd
  have FN := hide fn; have FD := hide fd; have KQ := Lib.hid kq; have HB := hide hb; have HSW := hide hSW
  obtain ⟨anh, hden⟩ := anu n' d' (aa HDP)
  rw [← HQ2.out] at anh hden
  obtain ⟨g, hg⟩ : ∃ g, g = n'.natAbs.gcd d'.natAbs := ⟨_, rfl⟩
  rw [← hg] at anh hden
  have aoe := Lib.hid anh.symm; have aog := Lib.hid hden.symm; have HGG := Lib.hid hg
  clear kn kd kq fn fd hb hSW anh hden
  by_cases hd1 : d' = 1
  ·
   rw [decide_eq_true hd1] at ho
   have HO := hide ho
   have hg1 : g = 1 := by rw [hg, hd1]; simp
   have e1 : q.num = n' := by
    rw [← aoe.out, hg1, Nat.div_one]
    by_cases h : n' < 0
    ·
     rw [if_pos (decide_eq_true h)]; omega
    ·
     rw [if_neg (by simpa using h)]; omega
   have e2 : (q.den : Int) = d' := by
    rw [← aog.out, hg1, Nat.div_one]; have := aa HDP; omega
   have E := hide (And.intro e1 e2)
   clear ho hg hg1 hd1 e1 e2
   go_wp2_with fail
   refine (aa HO).mono ?_
   rintro e W2 ⟨rfl, hb2⟩
   obtain ⟨hc, hfz⟩ := fe hb2
   have hblk := (hb2.block _ q2).trans KQ.out
   have ky := Lib.hid hblk; have HB2 := hide hb2
   clear hblk hb2
   go_wp2_with fail
   exact bodyPost_ret (v := .agg #[.slice A3 l3.length c3, .bool m3, .slice A4 l4.length c4, .bool m4]) (by simp [results, Tryz.results128, go_sem, hc, p0, p1, p2, p3, q2]) rfl
    ⟨A3, c3, l3, m3, A4, c4, l4, m4, rfl, by rw [(aa E).1]; exact ((aa FN).below (aa HB2)).upto ky.out (Fs _ _ _ _ _ _ _ _) (uw _ _ _ _ _ _), by rw [(aa E).2]; exact ((aa FD).below (aa HB2)).upto ky.out (Fs _ _ _ _ _ _ _ _) (uw _ _ _ _ _ _), (ay (aa HB) (aa HB2)).grown (uw _ _ _ _ _ _) (ay (aa HB) (aa HB2)).size (fun k hk => by injection hk with hk; omega)⟩
  ·
   rw [decide_eq_false hd1] at ho
   have hdv := fun W (hW : Below wc.heap.size wc W) => ajg A3 A4 c3 c4 l3 l4 n'.natAbs d'.natAbs K W ((aa FN).nat.below hW) ((aa FD).nat.below hW) (aa HNK) (aa HDK) (aa HK)
   rw [← hg] at hdv
   have HO := hide ho; have HDV := hide hdv
   have hg0 : 0 < g := by rw [hg]; exact Nat.gcd_pos_of_pos_right _ (by have := aa HDP; omega)
   have hgl : g ≤ d'.natAbs := by rw [hg]; exact Nat.gcd_le_right _ (by have := aa HDP; omega)
   have HG0 := hide hg0; have HGL := hide hgl
   have hln := (aa FN).nat.len (aa HNK); have hld := (aa FD).nat.len (aa HDK)
   have HLN := hide hln; have HLD := hide hld
   clear ho hdv hg hg0 hgl hd1 hln hld
   go_wp2_with fail
   refine (aa HO).mono ?_
   rintro e W2 ⟨rfl, hb2⟩
   obtain ⟨hc2, hf2⟩ := fe hb2
   have HB2 := hide hb2
   clear hb2
   go_wp2_with fail
   refine ((aa HDV) _ (aa HB2)).mono ?_
   rintro e W3 ⟨A5, c5, l5, rfl, h5, hb3⟩
   have bgw := ay (aa HB2) hb3
   replace hb3 := bgw
   obtain ⟨hc3, hf3⟩ := fe hb3
   have hlg := h5.len (Nat.lt_of_le_of_lt (aa HGL) (aa HDK))
   have H5 := hide h5; have HLG := hide hlg; have HB3 := hide hb3
   clear hc2 hf2 bgw hlg HDV HO HB2
   by_cases hl5 : l5.length = 1
   ·
    obtain ⟨b5, o5, rfl, hb5, hc5⟩ := h5.ws om
    have hcell := hc5 0 om
    rw [Nat.add_zero, show Wd.g l5 0 = g by rw [Rb dw l5 hl5]; exact h5.val] at hcell
    have bob : ((l5.length : Int) != 1) = false := by rw [hl5]; rfl
    have bum : 0 < l5.length := by omega
    have hcap := h5.qp; have hcap2 := h5.cap2
    by_cases hg1 : g = 1
    ·
     have e1 : q.num = n' := by
      rw [← aoe.out, hg1, Nat.div_one]
      by_cases h : n' < 0
      ·
       rw [if_pos (decide_eq_true h)]; omega
      ·
       rw [if_neg (by simpa using h)]; omega
     have e2 : (q.den : Int) = d' := by
      rw [← aog.out, hg1, Nat.div_one]; have := aa HDP; omega
     have E := hide (And.intro e1 e2)
     have hblk := (hb3.block _ q2).trans KQ.out
     have ky := Lib.hid hblk
     rw [hg1] at hcell
     clear hblk hg1 e1 e2 h5 hc5 hb3 hl5 hb5
     go_wp2_with fail
     exact bodyPost_ret (v := .agg #[.slice A3 l3.length c3, .bool m3, .slice A4 l4.length c4, .bool m4]) (by simp [results, Tryz.results128, go_sem, hc3, p0, p1, p2, p3, q2]) rfl
      ⟨A3, c3, l3, m3, A4, c4, l4, m4, rfl, by rw [(aa E).1]; exact ((aa FN).below (aa HB3)).upto ky.out (Fs _ _ _ _ _ _ _ _) (uw _ _ _ _ _ _), by rw [(aa E).2]; exact ((aa FD).below (aa HB3)).upto ky.out (Fs _ _ _ _ _ _ _ _) (uw _ _ _ _ _ _), (ay (aa HB) (aa HB3)).grown (uw _ _ _ _ _ _) (ay (aa HB) (aa HB3)).size (fun k hk => by injection hk with hk; omega)⟩
    ·
     have hgb : ((g : Int) == 1) = false := beq_eq_false_iff_ne.2 om
     have buq : ((g : Int) != 1) = true := by simp; omega
     obtain ⟨AG, hAG⟩ : ∃ A : Option Addr, A = some ⟨b5, o5, none⟩ := ⟨_, rfl⟩
     have hp1 := Kh A3 (some ⟨b5, o5, none⟩) c3 c5 l3 l5 n'.natAbs g W3 ((aa FN).nat.below hb3) (aa H5) (aa HG0) (by have := aa HLN; have := aa HK; omega) (by have := aa HLG; have := aa HK; omega)
     have HP1 := hide hp1
     clear hg1 h5 hc5 hb3 hl5 hb5 hp1 hAG AG
     go_wp2_with fail
     refine (aa HP1).mono ?_
     rintro e W4 ⟨A6, c6, l6, A7, c7, l7, rfl, h6, h7, hb4⟩
     have Rt := ay (aa HB3) hb4
     have h5' := (aa H5).below hb4
     obtain ⟨hc4, hf4⟩ := fe Rt
     have hp2 := Kh A4 (some ⟨b5, o5, none⟩) c4 c5 l4 l5 d'.natAbs g W4 ((aa FD).nat.below Rt) h5' (aa HG0) (by have := aa HLD; have := aa HK; omega) (by have := aa HLG; have := aa HK; omega)
     have HP2 := hide hp2; have H6 := hide h6; have HB4 := hide Rt
     clear hp2 h6 h7 hb4 Rt h5' hc3 hf3 HP1
     go_wp2_with fail
     refine (aa HP2).mono ?_
     rintro e W5 ⟨A8, c8, l8, A9, c9, l9, rfl, h8, h9, hb5⟩
     have Xz := ay (aa HB4) hb5
     obtain ⟨hc5, Bc⟩ := fe Xz
     have hs1 := Dp A6 c6 l6 (n'.natAbs / g) m3 W5 ((aa H6).below hb5)
     have Mq : (if m3 = true then -((n'.natAbs / g : Nat) : Int) else ((n'.natAbs / g : Nat) : Int)) = q.num := by rw [(aa FN).sign]; exact aoe.out
     rw [Mq] at hs1
     have nz := hide hs1; have H8 := hide h8; have HB5 := hide Xz
     clear hs1 h8 h9 hb5 Xz hc4 hf4 Mq HP2
     go_wp2_with fail
     refine (aa nz).mono ?_
     rintro e W6 ⟨A10, c10, l10, m10, rfl, h10, hb6⟩
     have Xy := ay (aa HB5) hb6
     obtain ⟨hc6, Ij⟩ := fe Xy
     have hs2 := Dp A8 c8 l8 (d'.natAbs / g) false W6 ((aa H8).below hb6)
     rw [if_neg Bool.false_ne_true, aog.out] at hs2
     have HS2 := hide hs2; have Nf := hide h10; have HB6 := hide Xy
     clear hs2 h10 hb6 Xy hc5 Bc nz
     go_wp2_with fail
     refine (aa HS2).mono ?_
     rintro e W7 ⟨A11, c11, Zk, m11, rfl, h11, hb7⟩
     have Xx := ay (aa HB6) hb7
     obtain ⟨hc7, hf7⟩ := fe Xx
     have agr := (aa HSW).below Xx
     have Yf := hide agr
     have air := hide ((aa Nf).below hb7); have H11 := hide h11
     clear h11 hb7 Xx hc6 Ij agr HS2
     go_wp2_with fail
     have Zy := (aa Yf).put (aa air) (aa H11)
     have hk1 := (aa Yf).keep (.slice A10 l10.length c10) (.bool m10) (.slice A11 Zk.length c11) (.bool m11) (aa air)
     have hk2 := (aa Yf).keep (.slice A10 l10.length c10) (.bool m10) (.slice A11 Zk.length c11) (.bool m11) (aa H11)
     exact bodyPost_ret (v := .agg #[.slice A10 l10.length c10, .bool m10, .slice A11 Zk.length c11, .bool m11]) (by simp [results, Tryz.results128, go_sem, hc7, p0, p1, p2, p3, q2]) rfl
      ⟨A10, c10, l10, m10, A11, c11, Zk, m11, rfl, hk1.upto Zy.bq (Fs _ _ _ _ _ _ _ _) (uw _ _ _ _ _ _), hk2.upto Zy.bq (Fs _ _ _ _ _ _ _ _) (uw _ _ _ _ _ _), Zy.hb.grown (uw _ _ _ _ _ _) Zy.hb.size (fun k hk => by injection hk with hk; omega)⟩
   ·
    have bob : ((l5.length : Int) != 1) = true := by simp; omega
    have bul : ((l5.length : Int) == 1) = false := beq_eq_false_iff_ne.2 om
    have hcap := h5.qp; have hcap2 := h5.cap2
    have hp1 := Kh A3 A5 c3 c5 l3 l5 n'.natAbs g W3 ((aa FN).nat.below hb3) (aa H5) (aa HG0) (by have := aa HLN; have := aa HK; omega) (by have := aa HLG; have := aa HK; omega)
    have HP1 := hide hp1
    clear h5 hb3 hl5 hp1
    go_wp2_with fail
    refine (aa HP1).mono ?_
    rintro e W4 ⟨A6, c6, l6, A7, c7, l7, rfl, h6, h7, hb4⟩
    have Rt := ay (aa HB3) hb4
    have h5' := (aa H5).below hb4
    obtain ⟨hc4, hf4⟩ := fe Rt
    have hp2 := Kh A4 A5 c4 c5 l4 l5 d'.natAbs g W4 ((aa FD).nat.below Rt) h5' (aa HG0) (by have := aa HLD; have := aa HK; omega) (by have := aa HLG; have := aa HK; omega)
    have HP2 := hide hp2; have H6 := hide h6; have HB4 := hide Rt
    clear hp2 h6 h7 hb4 Rt h5' hc3 hf3 HP1
    go_wp2_with fail
    refine (aa HP2).mono ?_
    rintro e W5 ⟨A8, c8, l8, A9, c9, l9, rfl, h8, h9, hb5⟩
    have Xz := ay (aa HB4) hb5
    obtain ⟨hc5, Bc⟩ := fe Xz
    have hs1 := Dp A6 c6 l6 (n'.natAbs / g) m3 W5 ((aa H6).below hb5)
    have Mq : (if m3 = true then -((n'.natAbs / g : Nat) : Int) else ((n'.natAbs / g : Nat) : Int)) = q.num := by rw [(aa FN).sign]; exact aoe.out
    rw [Mq] at hs1
    have nz := hide hs1; have H8 := hide h8; have HB5 := hide Xz
    clear hs1 h8 h9 hb5 Xz hc4 hf4 Mq HP2
    go_wp2_with fail
    refine (aa nz).mono ?_
    rintro e W6 ⟨A10, c10, l10, m10, rfl, h10, hb6⟩
    have Xy := ay (aa HB5) hb6
    obtain ⟨hc6, Ij⟩ := fe Xy
    have hs2 := Dp A8 c8 l8 (d'.natAbs / g) false W6 ((aa H8).below hb6)
    rw [if_neg Bool.false_ne_true, aog.out] at hs2
    have HS2 := hide hs2; have Nf := hide h10; have HB6 := hide Xy
    clear hs2 h10 hb6 Xy hc5 Bc nz
    go_wp2_with fail
    refine (aa HS2).mono ?_
    rintro e W7 ⟨A11, c11, Zk, m11, rfl, h11, hb7⟩
    have Xx := ay (aa HB6) hb7
    obtain ⟨hc7, hf7⟩ := fe Xx
    have agr := (aa HSW).below Xx
    have Yf := hide agr
    have air := hide ((aa Nf).below hb7); have H11 := hide h11
    clear h11 hb7 Xx hc6 Ij agr HS2
    go_wp2_with fail
    have Zy := (aa Yf).put (aa air) (aa H11)
    have hk1 := (aa Yf).keep (.slice A10 l10.length c10) (.bool m10) (.slice A11 Zk.length c11) (.bool m11) (aa air)
    have hk2 := (aa Yf).keep (.slice A10 l10.length c10) (.bool m10) (.slice A11 Zk.length c11) (.bool m11) (aa H11)
    exact bodyPost_ret (v := .agg #[.slice A10 l10.length c10, .bool m10, .slice A11 Zk.length c11, .bool m11]) (by simp [results, Tryz.results128, go_sem, hc7, p0, p1, p2, p3, q2]) rfl
     ⟨A10, c10, l10, m10, A11, c11, Zk, m11, rfl, hk1.upto Zy.bq (Fs _ _ _ _ _ _ _ _) (uw _ _ _ _ _ _), hk2.upto Zy.bq (Fs _ _ _ _ _ _ _ _) (uw _ _ _ _ _ _), Zy.hb.grown (uw _ _ _ _ _ _) Zy.hb.size (fun k hk => by injection hk with hk; omega)⟩

end Go.Proofs.YtfgeaakhlcaibaaGreatDoor
