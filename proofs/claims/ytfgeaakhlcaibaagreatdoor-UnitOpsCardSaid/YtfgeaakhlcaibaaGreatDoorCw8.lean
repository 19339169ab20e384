/- Texts beneath a law of layer 1. -/
import Derived.Test.YtfgeaakhlcaibaaGreatDoorCw7
import Derived.Deep.DeepCutAuto
set_option maxRecDepth 100000
set_option maxHeartbeats 16000000
namespace Go.Proofs.YtfgeaakhlcaibaaGreatDoor
open Go.RowKit

theorem aqa (y : Nat) (hy : y < fe) (h0 : 0 < y) (w : World) : ∃ s : Nat, s < 32 ∧ 2147483648 ≤ y * 2 ^ s ∧ y * 2 ^ s < fe ∧
  ∀ w : World, Calls Tryz.prog 211 #[.int .u32 ((y : Nat) : Int)] w fun e w' => e = .returned (.int .i64 ((s : Nat) : Int)) ∧ w' = w := by
 obtain ⟨h1, h2⟩ := Qc 64 y (by rw [fq] at hy; omega)
 have h3 := (h2 om).1
 change y < 2 ^ Lib.bitLen y at h1
 change 2 ^ (Lib.bitLen y - 1) ≤ y at h3
 have hle := Lib.bitLen_le y 32 om (by rw [fq] at hy; omega)
 have hpos : 0 < Lib.bitLen y := by
  apply Classical.byContradiction
  intro h
  rw [show Lib.bitLen y = 0 by omega] at h1
  simp at h1; omega
 have e1 : 2 ^ (Lib.bitLen y - 1) * 2 ^ (32 - Lib.bitLen y) = 2147483648 := by
  rw [← Nat.pow_add, show Lib.bitLen y - 1 + (32 - Lib.bitLen y) = 31 by omega]
 have e2 : 2 ^ Lib.bitLen y * 2 ^ (32 - Lib.bitLen y) = fe := by
  rw [← Nat.pow_add, show Lib.bitLen y + (32 - Lib.bitLen y) = 32 by omega]; rfl
 refine ⟨32 - Lib.bitLen y, by omega, ?_, ?_, fun w => ?_⟩
 ·
  rw [← e1]; exact Nat.mul_le_mul_right _ h3
 ·
  rw [← e2]; exact Nat.mul_lt_mul_of_pos_right h1 (Nat.pow_pos om)
 ·
  refine (Tryz.bits_LeadingZeros32 (y : Int) w om (by rw [fq] at hy; omega)).mono ?_
  rintro e w' ⟨rfl, rfl⟩
  refine ⟨yc ?_, rfl⟩
  rw [Int.toNat_natCast]; omega

theorem aax (yl : List Nat) (m s : Nat) (auw : s ≤ 32) (hn : 1 ≤ yl.length) (hlt : ∀ x ∈ yl, x < fe) (hv : Wd.val fe yl = m) (hs1 : yl.getD (yl.length - 1) 0 * 2 ^ s < fe) (ht : yl.getD (yl.length - 1) 0 ≠ 0) :
  fe ^ (yl.length - 1) * 2 ^ s ≤ m * 2 ^ s ∧ m * 2 ^ s < fe ^ yl.length := by
 have h2 := Wd.oh fe yl (yl.length - 1) om
 rw [show yl.length - 1 + 1 = yl.length by omega, Wd.jh _ _ _ (Nat.le_refl _), hv] at h2
 have h3 := Wd.zz (B := fe) (yl.take (yl.length - 1)) (fun x hx => hlt x (List.mem_of_mem_take hx))
 rw [List.length_take, Nat.min_eq_left om] at h3
 have e : fe ^ yl.length = fe ^ (yl.length - 1) * fe := by rw [← Nat.pow_succ, show (yl.length - 1).succ = yl.length by omega]
 rw [e]
 generalize hP : fe ^ (yl.length - 1) = P at *
 generalize yl.getD (yl.length - 1) 0 = t at *
 have hS : 0 < 2 ^ s := Nat.pow_pos om
 have hsp := Bn s auw
 generalize 2 ^ s = S at *
 generalize 2 ^ (32 - s) = T at *
 have h6 : t * S + S ≤ fe := by
  rw [← hsp, Nat.mul_comm S] at hs1 ⊢
  have := Nat.lt_of_mul_lt_mul_right hs1
  have h7 : (t + 1) * S ≤ T * S := Nat.mul_le_mul_right _ this
  rwa [Nat.add_mul, Nat.one_mul] at h7
 constructor
 ·
  refine Nat.mul_le_mul_right _ ?_
  have : P * 1 ≤ P * t := Nat.mul_le_mul_left _ om
  omega
 ·
  have h4 : m + 1 ≤ P * (t + 1) := by rw [Nat.mul_add, Nat.mul_one]; omega
  have h5 : (m + 1) * S ≤ P * (t + 1) * S := Nat.mul_le_mul_right _ h4
  rw [Nat.add_mul, Nat.one_mul, Nat.mul_assoc, Nat.add_mul, Nat.one_mul] at h5
  have : P * (t * S + S) ≤ P * fe := Nat.mul_le_mul_left _ h6
  omega

theorem aep (Ax : Option Addr) (cx : Nat) (xl : List Nat) (n s : Nat) (w : World) (hx : qw w Ax cx xl n) (hs : s < 32) (hk : xl.length + 1 ≤ 35184372088832) :
  Calls Tryz.prog 212 #[.slice Ax xl.length cx, .int .u64 ((s : Nat) : Int)] w fun e w' =>
   ∃ b zr, e = .returned (.slice (some ⟨b, 0, none⟩) (xl.length + 1) (xl.length + 1)) ∧ w.heap.size ≤ b ∧ zr.length = xl.length + 1 ∧ (∀ x ∈ zr, x < fe) ∧ Wd.val fe zr = n * 2 ^ s ∧ ZB .u32 w' b 187 zr ∧ Below w.heap.size w w' :=
 (ain Ax cx xl n s w hx hs hk).mono fun e w' ⟨zr, h1, h2, h3, h4, h5, h6⟩ => ⟨w.heap.size, zr, h1, Nat.le_refl _, h2, h3, h4, h5, h6⟩

theorem alr (Ax Ay : Option Addr) (cx cy : Nat) (xl yl : List Nat) (n m : Nat) (w : World) (hx : qw w Ax cx xl n) (hy : qw w Ay cy yl m) (hge : ¬ n < m) (hk : xl.length + 1 ≤ 35184372088832) (hk2 : yl.length + 1 ≤ 35184372088832) (hn2 : 2 ≤ yl.length) :
  Calls Tryz.prog 178 #[.slice Ax xl.length cx, .slice Ay yl.length cy] w fun e w' => aaj w (n / m) (n % m) e w' := by
 have hx1 := hx.tq; have hx2 := hx.cap2; have hy1 := hy.tq; have hy2 := hy.cap2
 have hny : yl.length ≤ xl.length := by
  rcases Nat.lt_or_ge xl.length yl.length with h | h
  ·
   exfalso; apply hge; rw [← hx.val, ← hy.val]; exact Wd.wz Ck xl yl hx.lt hy.norm h
  ·
   exact h
 have hc := Qr Ax Ay cx cy xl yl n m w hx hy
 obtain ⟨o3, ho3⟩ : ∃ o, o = ze n m := ⟨_, rfl⟩
 rw [← ho3] at hc
 have ho : decide (o3 < 0) = false := decide_eq_false (by rw [ho3]; unfold ze; rw [if_neg hge]; split <;> omega)
 have HC := hide hc
 have hb1 : ((yl.length : Int) == 1) = false := by simp; omega
 obtain ⟨by', oy, hA, hby, hcy⟩ := hy.ws om
 subst hA
 have hyt := hcy (yl.length - 1) om
 obtain ⟨yt, Gn⟩ : ∃ t, t = Wd.g yl (yl.length - 1) := ⟨_, rfl⟩
 rw [← Gn] at hyt
 have Fp : yt < fe := by rw [Gn]; exact Wd.getD_lt (by rw [fq]; omega) _ hy.lt _
 have hy0 : yt ≠ 0 := by
  rw [Gn]
  rcases hy.norm with h | h
  ·
   rw [h] at hn2; simp at hn2
  ·
   exact h
 have hm : 0 < m := by
  rcases Nat.eq_zero_or_pos m with h | h
  ·
   exfalso
   have h1 := asq (B := fe) yl yl.length om rfl
   rw [hy.val, h] at h1
   have h2 : 0 < fe ^ (yl.length - 1) := Nat.pow_pos (by rw [fq]; omega)
   have h3 := Nat.mul_pos (Nat.pos_of_ne_zero (show yl.getD (yl.length - 1) 0 ≠ 0 by rw [← Wd.qo, ← Gn]; exact hy0)) h2
   omega
  ·
   exact h
 obtain ⟨s, hs, hs1, hs2, hlz⟩ := aqa yt Fp om w
 obtain ⟨vb1, vb2⟩ := aax yl m s om om hy.lt hy.val (by rw [← Wd.qo, ← Gn]; exact hs2) (by rw [← Wd.qo, ← Gn]; exact hy0)
 obtain ⟨lq, hlq⟩ : ∃ t, t = xl.length + 1 - yl.length := ⟨_, rfl⟩
 have Xx : ((lq : Nat) : Int) = (xl.length : Int) + 1 - (yl.length : Int) := by omega
 have hmk := Za lq om
 rw [Xx] at hmk
 have bmg : lq + yl.length = xl.length + 1 := by omega
 have es : IntKind.u64.wrap (s : Int) = (s : Int) := je rfl (by rw [gy]; omega)
 have HLZ := hide hlz
 have HLQ := Lib.hid Xx
 have HYT := Lib.hid Gn
 have HV1 := hide vb1; have HV2 := hide vb2
 clear hlz Gn hcy vb1 vb2 hs1 hs2 Xx hlq hc ho3 hge
 go_enter Tryz.func178, Tryz.ntmps178
 go_wp2_with fail
 refine (aa HC).mono ?_
 rintro e w' ⟨rfl, k, rfl⟩
 go_wp2_with fail
 refine ((aa HLZ) _).mono ?_
 rintro e w1 ⟨rfl, hw1⟩
 have Hg : Below w.heap.size w w1 := by rw [hw1]; exact ni (Below.refl _ _) k
 clear hw1
 go_wp2_with fail
 refine (aep Ax cx xl n s w1 (hx.below Hg) hs hk).mono ?_
 rintro e w2 ⟨bu, uz, rfl, hbu, Kq, auq, huv, Wm, hb2⟩
 have blv := (hy.below Hg).below hb2
 have HUL := Lib.hid Kq
 have Iz := Lib.hid huv
 clear Kq huv
 go_wp2_with fail
 refine (aep _ cy yl m s w2 blv hs hk2).mono ?_
 rintro e w4 ⟨bv, vz, rfl, hbv, hvl, Xw, hvv, Pw, hb3⟩
 have HVL := Lib.hid hvl; have HVV := Lib.hid hvv
 have btl : bu < bv := Nat.lt_of_lt_of_le Wm.lt hbv
 replace Wm := Wm.below hb3 Wm.lt
 clear hvl hvv
 go_wp2_with fail
 have htr := Cm (some ⟨bv, 0, none⟩) vz.length vz w4.heap.size w4 (Pw.Dq _ Pw.lt) (Nat.le_refl _) (by have := HVL.out; omega)
 rw [HVL.out] at htr
 refine htr.mono ?_
 rintro e w3 ⟨⟨kv, rfl, ht, hkv⟩, hw3⟩
 obtain rfl : w4 = w3 := hw3.symm
 clear hw3
 have Fq : (vz.take kv).length = yl.length := by
  refine Wi Ck _ ht.norm (fun x hx => Xw x (List.mem_of_mem_take hx)) _ om ?_ ?_
  ·
   rw [ht.val, HVV.out]; exact Nat.le_trans (Nat.le_mul_of_pos_right _ (Nat.pow_pos om)) (aa HV1)
  ·
   rw [ht.val, HVV.out]; exact aa HV2
 have avb : kv = yl.length := by have := HVL.out; rw [List.length_take] at Fq; omega
 subst avb
 have HT := hide ht; have HVN := Lib.hid Fq
 have Ya : Below w.heap.size w w4 := Hg.trans ((hb2.mono Hg.size).trans (hb3.mono (Nat.le_trans Hg.size hb2.size)))
 clear ht Fq
 obtain ⟨V, hV⟩ : ∃ t, t = m * 2 ^ s := ⟨_, rfl⟩
 have Zn : Wd.val fe (vz.take yl.length) = V := by rw [(aa HT).val, HVV.out, hV]
 have agx : V < fe ^ yl.length := by rw [hV]; exact aa HV2
 have Ig : 0 < V := by rw [hV]; exact Nat.mul_pos hm (Nat.pow_pos om)
 have htop : Wd.val fe uz < V * fe ^ lq := by
  rw [Iz.out, hV]
  have h1 := Wd.zz xl hx.lt
  rw [hx.val] at h1
  have h2 := aa HV1
  have h3 : fe ^ (yl.length - 1) * fe ^ lq = fe ^ xl.length := by rw [← Nat.pow_add, show yl.length - 1 + lq = xl.length by omega]
  have h4 : fe ^ (yl.length - 1) * 2 ^ s * fe ^ lq ≤ m * 2 ^ s * fe ^ lq := Nat.mul_le_mul_right _ h2
  have h5 : n * 2 ^ s < fe ^ xl.length * 2 ^ s := Nat.mul_lt_mul_of_pos_right h1 (Nat.pow_pos om)
  have h6 : fe ^ (yl.length - 1) * 2 ^ s * fe ^ lq = fe ^ xl.length * 2 ^ s := by
   rw [← h3]; simp only [Nat.mul_comm, Nat.mul_left_comm, Nat.mul_assoc]
  omega
 have hstart : Wd.xq fe V uz uz (List.replicate lq 0) lq := Wd.xq.start _ _ _ auq (Jd (by rw [fq]; omega) _) (by simp) htop
 have ami : Ws .u32 w4 (bv + 1) (some ⟨bv, 0, none⟩) (vz.take yl.length) := (Pw.Dq _ (Nat.lt_succ_self _)).Qu _
 have hgt : ∀ i, i < yl.length → Wd.g vz i = Wd.g (vz.take yl.length) i := fun i hi => by rw [Wd.qo, Wd.qo, Wd.getD_take _ _ _ hi]
 have hvt := Pw.cell (yl.length - 1) (by have := HVL.out; omega)
 have aup := Pw.cell (yl.length - 2) (by have := HVL.out; omega)
 rw [hgt _ om] at hvt aup
 obtain ⟨top, htp⟩ : ∃ t, t = Wd.g (vz.take yl.length) (yl.length - 1) := ⟨_, rfl⟩
 obtain ⟨next, hnx⟩ : ∃ t, t = Wd.g (vz.take yl.length) (yl.length - 2) := ⟨_, rfl⟩
 rw [← htp] at hvt
 rw [← hnx] at aup
 have Uj : top < fe := by rw [htp]; exact Wd.getD_lt (by rw [fq]; omega) _ (fun x hx => Xw x (List.mem_of_mem_take hx)) _
 have hnB : next < fe := by rw [hnx]; exact Wd.getD_lt (by rw [fq]; omega) _ (fun x hx => Xw x (List.mem_of_mem_take hx)) _
 have et : IntKind.u64.wrap (top : Int) = (top : Int) := je rfl (by rw [fq] at Uj; rw [gy]; omega)
 have en : IntKind.u64.wrap (next : Int) = (next : Int) := je rfl (by rw [fq] at hnB; rw [gy]; omega)
 have hv4 : bv < w4.heap.size := Pw.lt
 have hu4 : bu < w4.heap.size := Wm.lt
 have f1 : IntKind.i64.wrap ((yl.length : Int) - 1) = (yl.length : Int) - 1 := IntWalk.i64_in _ om
 have f2 : (0 : Int) ≤ (yl.length : Int) - 1 := by omega
 have f3 : ((yl.length : Int) - 1).toNat = yl.length - 1 := by omega
 have f4 : IntKind.i64.wrap ((yl.length : Int) - 2) = (yl.length : Int) - 2 := IntWalk.i64_in _ om
 have f5 : (0 : Int) ≤ (yl.length : Int) - 2 := by omega
 have f6 : ((yl.length : Int) - 2).toNat = yl.length - 2 := by omega
 have i1 : ¬ (bv = w4.heap.size) := by omega
 have i2 : ¬ (w4.heap.size = bv) := by omega
 have Sg := Lib.hid Zn; have aic := hide agx; have HV0 := hide Ig; have awe := Lib.hid hV; have HST := hide hstart
 have HTP := Lib.hid htp; have HNX := Lib.hid hnx; have Yj := hide (And.intro hv4 hu4)
 have bmh : 0 < lq := by omega
 clear Zn agx hV hstart htop hyt hy0 htp hnx hgt Uj hnB
 go_wp2_with fail
 go_quiet (fail)
 go_wp2_with fail
 go_loopw [16] (fun iv wr => ∃ (i : Int) (us qs : List Nat), -1 ≤ i ∧ i < lq ∧ iv = .int .i64 i ∧ Hid (Wd.xq fe V uz us qs (i + 1).toNat) ∧ Hid (qs.length = lq) ∧ ZB .u32 wr bu 187 us ∧ ZB .u32 wr w4.heap.size 187 qs ∧ Ws .u32 wr (bv + 1) (some ⟨bv, 0, none⟩) (vz.take yl.length) ∧ Below w.heap.size w wr ∧ w4.heap.size < wr.heap.size) (fun iv _ => (intOf iv + 1).toNat)
 case atStart =>
  refine ⟨(lq : Int) - 1, uz, List.replicate lq 0, by omega, by omega, rfl, ?_, by show _ = _; simp, (Wm.alloc _).drewN _, ZB.drewN (heap_alloc_new w4 _) _, (ami.alloc om _).drewN _, ni (Ya.alloc Ya.size _) _, by show w4.heap.size < (w4.alloc _).heap.size; simp⟩
  rw [show ((lq : Int) - 1 + 1).toNat = lq by omega]
  exact HST
 case round =>
  clear Wm Pw ami hvt aup
  obtain ⟨i, us, qs, hi1, hi2, rfl, HI, Kz, Mw, hqz, Wl, hbr, auu⟩ := hrel
  obtain ⟨wo, rfl⟩ : ∃ wo : World, wo = wr := ⟨_, rfl⟩
  by_cases h0 : i < 0
  ·
   have e : i = -1 := by omega
   subst e
   obtain ⟨v1, v2⟩ := HI.out.done
   have hS : 0 < 2 ^ s := Nat.pow_pos om
   obtain ⟨sd1, sd2⟩ := Wd.Qz (N := n) (Y := m) (S := 2 ^ s) hS
   rw [Iz.out, awe.out] at v1 v2
   rw [sd1] at v1
   have v3 : Wd.val fe us / 2 ^ s = n % m := by rw [v2]; exact sd2
   have V1 := Lib.hid v1; have V3 := Lib.hid v3
   have Jn : us.length = xl.length + 1 := HI.out.Ar.trans HUL.out
   have awj := hide HI.out.lt; have awi := hide HI.out.ltq
   have Jo := Cm (some ⟨bu, 0, none⟩) us.length us wo.heap.size wo (Mw.Dq _ Mw.lt) (Nat.le_refl _) om
   rw [Jn] at Jo
   have T2 := hide Jo
   have Pf := Lib.hid Jn
   clear v1 v2 sd1 sd2 v3 Jo Jn HI Wl
   go_wp2_with fail
   refine (aa T2).mono ?_
   rintro e w6 ⟨⟨k2, rfl, ht2, bdw⟩, Uh⟩
   obtain rfl : wo = w6 := Uh.symm
   clear Uh
   obtain ⟨rl, hrl⟩ : ∃ l, l = us.take k2 := ⟨_, rfl⟩
   have hrlen : rl.length = k2 := by rw [hrl, List.length_take]; have := Pf.out; omega
   have hrv : Wd.val fe rl = Wd.val fe us := by rw [hrl]; exact ht2.val _
   have bdp : ∀ x ∈ rl, x < fe := fun x hx => (aa awj) x (by rw [hrl] at hx; exact List.mem_of_mem_take hx)
   have hwin : win us 0 rl = us := by
    have := Jf us 0 k2 (by have := Pf.out; omega)
    rw [List.drop_zero, ← hrl] at this
    exact this
   have btg : k2 ≤ us.length := by rw [Pf.out]; exact bdw
   have HRV := Lib.hid hrv; have awf := hide bdp; have bnn := Lib.hid hwin; have aam := Lib.hid hrlen
   have btf : k2 ≤ xl.length + 1 := by have := Pf.out; omega
   have HQZ := hide hqz
   clear hrv bdp hwin hrlen hrl ht2 bdw T2
   go_wp2_with fail
   go_loopw [18] (fun iv wr => ∃ (i : Nat) (zc : List Nat), i ≤ k2 ∧ iv = .int .i64 ((i : Nat) : Int) ∧ Hid (Wd.Cs fe (2 ^ s) rl zc i) ∧ Hid (∀ j, i ≤ j → zc.getD j 0 = rl.getD j 0) ∧ ZB .u32 wr bu 187 (win us 0 zc) ∧ Hid (ZB .u32 wr w4.heap.size 187 qs) ∧ Below w.heap.size w wr) (fun iv _ => k2 - (intOf iv).toNat)
   case atStart => exact ⟨0, rl, Nat.zero_le _, rfl, Wd.Cs.start _ _ rfl (aa awf), fun _ _ => rfl, by rw [bnn.out]; exact Mw, HQZ, hbr⟩
   case round =>
    clear Mw hqz HQZ hbr
    obtain ⟨i, zc, hi, rfl, HI, Gl, ll, HQZ, hbr⟩ := hrel
    have hzl : zc.length = k2 := HI.out.len.trans aam.out
    by_cases hlt : i < k2
    ·
     have gz : ∀ t, t < k2 → Wd.g (win us 0 zc) t = Wd.g zc t := fun t ht => by
      have := Ju us 0 zc om t om
      rwa [Nat.zero_add] at this
     obtain ⟨x, hx'⟩ : ∃ t, t = Wd.g rl i := ⟨_, rfl⟩
     have Eg := ll.cell i (by rw [win_length _ _ _ om]; omega)
     rw [gz i hlt, show Wd.g zc i = Wd.g rl i from Gl.out i (Nat.le_refl _), ← hx'] at Eg
     have Mt := ll.frozen i
     have zg : x < fe := by rw [hx']; exact Wd.getD_lt (by rw [fq]; omega) _ (aa awf) _
     obtain ⟨v, hv⟩ : ∃ t, t = x / 2 ^ s := ⟨_, rfl⟩
     have hvB : v < fe := Nat.lt_of_le_of_lt (by rw [hv]; exact Nat.div_le_self _ _) zg
     have m1 : (x : Int) / 2 ^ s = (v : Int) := by rw [hv]; simp
     have m1' : (x : Int) / 2 ^ (min s 32) = (v : Int) := by rw [Nat.min_eq_left om]; exact m1
     have hset : ∀ (W : World) (y : Nat), ZB .u32 W bu 187 (win us 0 zc) → ZB .u32 (W.setCell ⟨bu, i, none⟩ (.int .u32 (y : Int))) bu 187 (win us 0 (zc.set i y)) := fun W y h => by
      have := Gb us 0 zc om i y om
      rw [Nat.zero_add] at this
      rw [← this]
      exact h.Bu _ _
     by_cases hin : i + 1 < k2
     ·
      have d1 : decide ((i : Int) + 1 < (k2 : Int)) = true := decide_eq_true om
      have d1' : decide (i + 1 < k2) = true := decide_eq_true hin
      obtain ⟨x2, age⟩ : ∃ t, t = Wd.g rl (i + 1) := ⟨_, rfl⟩
      have blw := ll.cell (i + 1) (by rw [win_length _ _ _ om]; omega)
      rw [gz (i + 1) hin, show Wd.g zc (i + 1) = Wd.g rl (i + 1) from Gl.out (i + 1) om, ← age] at blw
      have aum : x2 < fe := by rw [age]; exact Wd.getD_lt (by rw [fq]; omega) _ (aa awf) _
      obtain ⟨p, Al⟩ : ∃ t, t = x2 * 2 ^ (32 - s) := ⟨_, rfl⟩
      obtain ⟨lo, hlo⟩ : ∃ t, t = p % fe := ⟨_, rfl⟩
      obtain ⟨v2, hv2⟩ : ∃ t, t = v + lo := ⟨_, rfl⟩
      have Py : p < dz := by
       have h1 : 2 ^ (32 - s) ≤ 2 ^ 32 := Nat.pow_le_pow_right om om
       have h2 : x2 * 2 ^ (32 - s) ≤ x2 * 2 ^ 32 := Nat.mul_le_mul_left _ h1
       rw [Al]; rw [fq] at aum; rw [gy]; omega
      have hlo2 : lo = x2 % 2 ^ s * 2 ^ (32 - s) := by
       rw [hlo, Al, ← Bn s om, Nat.mul_mod_mul_right]
      have hvT : v < 2 ^ (32 - s) := by
       rw [hv, Nat.div_lt_iff_lt_mul (Nat.pow_pos om), Nat.mul_comm, Bn s om]; exact zg
      have Ip : lo < fe := by rw [hlo]; exact Nat.mod_lt _ (by rw [fq]; omega)
      have m2 : IntKind.u64.wrap (x2 : Int) = (x2 : Int) := je rfl (by rw [fq] at aum; rw [gy]; omega)
      have m3 : IntKind.u64.wrap (32 - (s : Int)) = ((32 - s : Nat) : Int) := je om (by rw [gy]; omega)
      have m4 : IntKind.u64.wrap ((x2 : Int) * 2 ^ (32 - s)) = (p : Int) := je (by rw [Al]; simp) Py
      have m4' : IntKind.u64.wrap ((x2 : Int) * 2 ^ (min (32 - s) 64)) = (p : Int) := by rw [Nat.min_eq_left om]; exact m4
      have m5 : (p : Int) % 4294967296 = (lo : Int) := by rw [hlo, fq]; omega
      have m6 : IntKind.u32.wrap (p : Int) = (lo : Int) := by rw [Be, hlo]
      have m7 : Go.bits .or .u32 (v : Int) (lo : Int) = (v2 : Int) := by rw [Ot v lo hvB Ip, hv2, hlo2, Mh hvT]
      have hfin : ∀ W, W = (wr.setCell ⟨bu, i, none⟩ (.int .u32 (v : Int))).setCell ⟨bu, i, none⟩ (.int .u32 (v2 : Int)) → Hid (Wd.Cs fe (2 ^ s) rl (zc.set i v2) (i + 1)) ∧ Hid (∀ j, i + 1 ≤ j → (zc.set i v2).getD j 0 = rl.getD j 0) ∧ ZB .u32 W bu 187 (win us 0 (zc.set i v2)) ∧ Hid (ZB .u32 W w4.heap.size 187 qs) ∧ Below w.heap.size w W := by
       rintro W rfl
       have hne : w4.heap.size ≠ bu := by have := (aa Yj).2; omega
       have hbw : w.heap.size ≤ bu := Nat.le_trans Hg.size hbu
       refine ⟨?_, fun j hj => ?_, ?_, ?_, ?_⟩
       ·
        have := HI.out.step (Bn s om) (Nat.pow_pos om) (by rw [aam.out]; exact hlt) (by rw [← Wd.qo, ← hx']; exact zg)
        rw [← Wd.qo, ← Wd.qo, ← hx', ← age, ← hv, ← hlo2, ← hv2] at this
        exact this
       ·
        simp only [List.getD]
        rw [List.getElem?_set_ne om]
        exact Gl.out j om
       ·
        have h1 := hset wr v ll
        have h2 := Gb us 0 (zc.set i v) (by rw [List.length_set]; omega) i v2 (by rw [List.length_set]; omega)
        rw [Nat.zero_add, List.set_set] at h2
        rw [← h2]
        exact h1.Bu _ _
       ·
        exact (Below.heap_setCell _ _ _ w4.heap.size hne).trans ((Below.heap_setCell _ _ _ w4.heap.size hne).trans (aa HQZ))
       ·
        exact (hbr.setCell (p := ⟨bu, i, none⟩) hbw _).setCell (p := ⟨bu, i, none⟩) hbw _
      have HF := hide hfin
      have aul := hset wr v ll
      have bmn := aul.cell i (by rw [win_length _ _ _ (by rw [List.length_set]; omega)]; omega)
      have bdz : Wd.g (win us 0 (zc.set i v)) i = v := by
       have := Ju us 0 (zc.set i v) (by rw [List.length_set]; omega) i (by rw [List.length_set]; omega)
       rw [Nat.zero_add] at this
       rw [this, Wd.qo, List.getD, List.getElem?_set_self om]; rfl
      rw [bdz] at bmn
      have bdg := aul.frozen i
      have bmm := aul.cell (i + 1) (by rw [win_length _ _ _ (by rw [List.length_set]; omega)]; omega)
      have bdy : Wd.g (win us 0 (zc.set i v)) (i + 1) = x2 := by
       have := Ju us 0 (zc.set i v) (by rw [List.length_set]; omega) (i + 1) (by rw [List.length_set]; omega)
       rw [Nat.zero_add] at this
       rw [this, Wd.qo, List.getD, List.getElem?_set_ne om]
       exact (Gl.out (i + 1) om).trans age.symm
      rw [bdy] at bmm
      clear hset hfin hx' age hv hv2 hlo hlo2 Al ll gz bdz bdy hvT zg aum hvB Ip Py hbr
      go_wp2_with fail
      have hii : IntKind.i64.wrap ((i : Int) + 1) = (i : Int) + 1 := IntWalk.i64_in _ om
      have hi1 : (0 : Int) ≤ (i : Int) + 1 := by omega
      have hi2 : ((i : Int) + 1).toNat = i + 1 := by omega
      have hi3 : (i : Int) + 1 < (k2 : Int) := by omega
      go_region
      all_goals
       go_wp2_with fail
       go_roundw
       case rel =>
        obtain ⟨r1, r2, r3, r4, r5⟩ := (aa HF) _ rfl
        exact ⟨i + 1, _, by omega, by go_num, r1, r2, r3, r4, by first | exact r5 | exact r5.drew⟩
       case measure => simp [intOf] <;> omega
     ·
      have d1 : decide ((i : Int) + 1 < (k2 : Int)) = false := decide_eq_false om
      have d1' : decide (i + 1 < k2) = false := decide_eq_false hin
      have hfin : ∀ W, W = wr.setCell ⟨bu, i, none⟩ (.int .u32 (v : Int)) → Hid (Wd.Cs fe (2 ^ s) rl (zc.set i v) (i + 1)) ∧ Hid (∀ j, i + 1 ≤ j → (zc.set i v).getD j 0 = rl.getD j 0) ∧ ZB .u32 W bu 187 (win us 0 (zc.set i v)) ∧ Hid (ZB .u32 W w4.heap.size 187 qs) ∧ Below w.heap.size w W := by
       rintro W rfl
       have hne : w4.heap.size ≠ bu := by have := (aa Yj).2; omega
       have hbw : w.heap.size ≤ bu := Nat.le_trans Hg.size hbu
       refine ⟨?_, fun j hj => ?_, hset _ _ ll, ?_, ?_⟩
       ·
        have := HI.out.step (Bn s om) (Nat.pow_pos om) (by rw [aam.out]; exact hlt) (by rw [← Wd.qo, ← hx']; exact zg)
        have h0 : rl.getD (i + 1) 0 = 0 := by simp only [List.getD]; rw [List.getElem?_eq_none (by rw [aam.out]; omega)]; rfl
        rw [h0, Nat.zero_mod, Nat.zero_mul, Nat.add_zero, ← Wd.qo, ← hx', ← hv] at this
        exact this
       ·
        simp only [List.getD]
        rw [List.getElem?_set_ne om]
        exact Gl.out j om
       ·
        exact (Below.heap_setCell _ _ _ w4.heap.size hne).trans (aa HQZ)
       ·
        exact hbr.setCell (p := ⟨bu, i, none⟩) hbw _
      have HF := hide hfin
      clear hset hfin hx' hv ll gz zg hvB hbr
      go_wp2_with fail
      go_roundw
      case rel =>
       obtain ⟨r1, r2, r3, r4, r5⟩ := (aa HF) _ rfl
       exact ⟨i + 1, _, by omega, by go_num, r1, r2, r3, r4, r5⟩
      case measure => simp [intOf] <;> omega
    ·
     have e : i = k2 := by omega
     subst e
     have hdn : Wd.val fe zc = n % m := by
      have h1 := HI.out
      rw [← aam.out] at h1
      rw [h1.done (Bn s om) (Nat.pow_pos om), HRV.out, V3.out]
     have hwt : (win us 0 zc).take i = zc := by simp [win, ← hzl]
     have hwz : Ws .u32 wr (bu + 1) (some ⟨bu, 0, none⟩) zc := by
      have := (ll.Dq _ (Nat.lt_succ_self _)).Qu i
      rwa [hwt] at this
     have HDN := Lib.hid hdn; have HWZ := hide hwz
     have hzs : bu < wr.heap.size := ll.lt
     have bdt : ∀ x ∈ zc, x < fe := HI.out.lt
     have bnq := hide bdt
     have hqz := aa HQZ
     have Jo := Cm (some ⟨w4.heap.size, 0, none⟩) qs.length qs wr.heap.size wr (hqz.Dq _ hqz.lt) (Nat.le_refl _) (by rw [Kz.out]; omega)
     rw [Kz.out] at Jo
     have T3 := hide Jo
     clear hdn hwt hwz bdt Jo hqz ll
     go_wp2_with fail
     refine (aa T3).mono ?_
     rintro e w6 ⟨⟨k3, rfl, ht2, hk3⟩, Uh⟩
     obtain rfl : wr = w6 := Uh.symm
     clear Uh
     have q1 := qw.Ak (cap := lq) (aa HQZ) (aa awi) ht2 (by rw [Kz.out]; exact hk3) (by rw [Kz.out]; omega) om
     rw [V1.out] at q1
     have Q1 := hide q1
     have bdv : k3 = (qs.take k3).length := by rw [List.length_take, Kz.out]; omega
     have HK3 := Lib.hid bdv
     clear ht2 q1 T3 bdv
     have aur := Cm (some ⟨bu, 0, none⟩) (xl.length + 1) zc (bu + 1) wr (aa HWZ) om om
     rw [hzl] at aur
     have T4 := hide aur
     clear aur
     go_wp2_with fail
     refine (aa T4).mono ?_
     rintro e w6 ⟨⟨k4, rfl, ht4, hk4⟩, Uh⟩
     obtain rfl : wr = w6 := Uh.symm
     clear Uh
     have q2 : qw wr (some ⟨bu, 0, none⟩) (xl.length + 1) (zc.take k4) (n % m) := by
      refine ⟨(((aa HWZ).Qu k4).more om), by rw [List.length_take]; omega, by omega, fun x hx => (aa bnq) x (List.mem_of_mem_take hx), ht4.norm, ?_⟩
      rw [ht4.val, HDN.out]
     have Q2 := hide q2
     have bdu : k4 = (zc.take k4).length := by rw [List.length_take]; omega
     have HK4 := Lib.hid bdu
     clear ht4 q2 T4 bdu
     go_wp2_with fail
     go_ret2
     exact ⟨some ⟨w4.heap.size, 0, none⟩, lq, qs.take k3, some ⟨bu, 0, none⟩, xl.length + 1, zc.take k4, Re HK3.out HK4.out, aa Q1, aa Q2, hbr⟩
  ·
   obtain ⟨j, rfl⟩ := Int.eq_ofNat_of_zero_le (show 0 ≤ i by omega)
   have hinv : Wd.xq fe V uz us qs (j + 1) := by have := HI.out; rwa [show ((j : Int) + 1).toNat = j + 1 by omega] at this
   have Jn : us.length = xl.length + 1 := hinv.Ar.trans HUL.out
   have hql := Kz.out
   have hqc := hqz.cell j om
   have hqf := hqz.frozen j
   have Si := hide hinv; have Pf := Lib.hid Jn
   obtain ⟨wd1, wd2, wd3⟩ := hinv.window Ck (aa aic)
   have hwl : ((us.drop j).take (yl.length + 1)).length = yl.length + 1 := by rw [List.length_take, List.length_drop]; omega
   have hpre : Ih ((us.drop j).take (yl.length + 1)) (vz.take yl.length) yl.length := by
    refine ⟨hn2, HVN.out, hwl, fun x hx => hinv.lt x (List.mem_of_mem_drop (List.mem_of_mem_take hx)), fun x hx => Xw x (List.mem_of_mem_take hx), ?_, by rw [Sg.out]; exact wd2⟩
    rcases (aa HT).norm with h | h
    ·
     have := HVN.out; rw [h] at this; simp at this; omega
    ·
     rwa [HVN.out] at h
   have hds := aku bu j (xl.length + 1 - j) 187 yl.length us ((us.drop j).take (yl.length + 1)) (vz.take yl.length) (some ⟨bv, 0, none⟩) (yl.length + 1) (bv + 1) top next wo Mw om (by rw [hwl]) om om Wl (fun b o e => by injection e with e; injection e with e; omega) (by have := (aa Yj).1; omega) (by simp; omega) om hpre HTP.out HNX.out
   have HDS := hide hds
   clear hds
   have hfin : ∀ (W : World) (zr : List Nat) (q : Nat), StepT ((us.drop j).take (yl.length + 1)) (vz.take yl.length) zr q → Hid (Wd.xq fe V uz (win us j zr) (qs.set j q) j) := fun W zr q hok => by
    have hzl : zr.length = yl.length + 1 := hok.len.trans hwl
    refine hinv.step (n := yl.length) Ck (aa aic) (aa HV0) om ?_ ?_ ?_ ?_ ?_
    ·
     rw [hok.quo, Sg.out]
    ·
     have e1 : (win us j zr).drop j = zr ++ us.drop (j + zr.length) := by
      simp only [win, List.append_assoc]
      rw [List.drop_append_of_le_length (by simp; omega), List.drop_of_length_le (by simp; omega), List.nil_append]
     have e2 : Wd.val fe (us.drop (j + zr.length)) = 0 := by
      have h1 := Wd.Nq fe (us.drop j) (yl.length + 1)
      rw [wd3, List.drop_drop] at h1
      have h2 : 0 < fe ^ min (yl.length + 1) (us.drop j).length := Nat.pow_pos (by rw [fq]; omega)
      rw [hzl]
      rcases Nat.eq_zero_or_pos (Wd.val fe (us.drop (j + (yl.length + 1)))) with h | h
      ·
       exact h
      ·
       have := Nat.mul_pos h2 h; omega
     rw [e1, Wd.val_append, e2, Nat.mul_zero, Nat.add_zero, hok.rem, Sg.out]
    ·
     rw [win_length _ _ _ om]
    ·
     intro x hx
     simp only [win, List.append_assoc, List.mem_append] at hx
     rcases hx with h | h | h
     ·
      exact hinv.lt x (List.mem_of_mem_take h)
     ·
      exact hok.lt x h
     ·
      exact hinv.lt x (List.mem_of_mem_drop h)
    ·
     intro t ht
     simp only [win, List.append_assoc, List.getD]
     rw [List.getElem?_append_left (by simp; omega), List.getElem?_take, if_pos ht]
   have Hq := hide hfin
   clear hinv Jn hql HI wd1 wd2 wd3 hfin hpre
   go_wp2_with fail
   rw [show j + yl.length + 1 - j = yl.length + 1 by omega]
   refine (aa HDS).mono ?_
   rintro e w5 ⟨zr, q, rfl, hok, Lh, agh, hg5⟩
   have amr := (aa Hq) w5 zr q hok
   have Rq := hqz.grown hg5 (by intro h; injection h with h; have := (aa Yj).2; omega)
   have bma := Rq.cell j (by have := Kz.out; omega)
   have blz := Rq.frozen j
   have hv5 : Ws .u32 w5 (bv + 1) (some ⟨bv, 0, none⟩) (vz.take yl.length) := fun hl => by
    obtain ⟨b, o, e, hb, hc⟩ := Wl hl
    injection e with e; injection e with e1 e2
    subst e1 e2
    exact ⟨bv, 0, rfl, hb, fun t ht => (World.cell?_of_block (hg5.block bv (by have := (aa Yj).1; omega) (fun e => by injection e with e; omega))).trans (hc t ht)⟩
   have hb5 : Below w.heap.size w w5 := hbr.grown hg5 hbr.size (fun g e => by injection e with e; subst e; exact Nat.le_trans Hg.size hbu)
   have hs5 : w4.heap.size < w5.heap.size := Nat.lt_of_lt_of_le auu hg5.size
   have aun : w.heap.size ≤ w4.heap.size := Ya.size
   have Zp : ∀ W, W = w5.setCell ⟨w4.heap.size, j, none⟩ (.int .u32 (q : Int)) → ZB .u32 W bu 187 (win us j zr) ∧ ZB .u32 W w4.heap.size 187 (qs.set j q) ∧ Ws .u32 W (bv + 1) (some ⟨bv, 0, none⟩) (vz.take yl.length) ∧ Below w.heap.size w W ∧ w4.heap.size < W.heap.size := by
    rintro W rfl
    exact ⟨(Below.heap_setCell w5 _ _ bu (by show bu ≠ w4.heap.size; have := (aa Yj).2; omega)).trans agh, Rq.Bu _ _, hv5.setCell (p := ⟨w4.heap.size, j, none⟩) (by show bv + 1 ≤ w4.heap.size; have := (aa Yj).1; omega) _, hb5.setCell (p := ⟨w4.heap.size, j, none⟩) aun _, by simp [World.setCell]; omega⟩
   have HF2 := hide Zp
   clear hok hg5 Zp agh Rq hv5 hb5
   go_wp2_with fail
   go_roundw
   case rel =>
    obtain ⟨f1, f2, f3, f4, f5⟩ := (aa HF2) _ rfl
    exact ⟨(j : Int) - 1, win us j zr, qs.set j q, by omega, by omega, by go_num, by rw [show ((j : Int) - 1 + 1).toNat = j by omega]; exact amr, by show _ = _; rw [List.length_set]; exact Kz.out, f1, f2, f3, f4, f5⟩
   case measure => simp [intOf] <;> omega

theorem Kh (Ax Ay : Option Addr) (cx cy : Nat) (xl yl : List Nat) (n m : Nat) (w : World) (hx : qw w Ax cx xl n) (hy : qw w Ay cy yl m) (hm : 0 < m) (hk : xl.length + 1 ≤ 35184372088832) (hk2 : yl.length + 1 ≤ 35184372088832) :
  Calls Tryz.prog 178 #[.slice Ax xl.length cx, .slice Ay yl.length cy] w fun e w' => aaj w (n / m) (n % m) e w' := by
 by_cases hlt : n < m
 ·
  exact ais Ax Ay cx cy xl yl n m w hx hy hlt
 ·
  by_cases h1 : yl.length = 1
  ·
   exact apr Ax Ay cx cy xl yl n m w hx hy hlt h1 om
  ·
   refine alr Ax Ay cx cy xl yl n m w hx hy hlt hk hk2 ?_
   rcases Nat.eq_zero_or_pos yl.length with h | h
   ·
    exfalso
    have := hy.val
    rw [List.length_eq_zero_iff.1 h] at this
    simp [Wd.val] at this; omega
   ·
    omega

def memNum (w : World) : Value → Nat
 | .slice (some p) n _ => Wd.val fe ((List.range n).map fun i => match w.cell? ⟨p.block, p.off + i, none⟩ with | some (.int _ z) => z.toNat | _ => 0)
 | _ => 0
theorem aci {w : World} {A : Option Addr} {cap : Nat} {l : List Nat} {n : Nat} (h : qw w A cap l n) : memNum w (.slice A l.length cap) = n := by
 rcases Nat.eq_zero_or_pos l.length with h0 | h0
 ·
  have hv := h.val
  have hl := List.length_eq_zero_iff.1 h0
  subst hl
  rw [← hv]
  cases A <;> simp [memNum, Wd.val]
 ·
  obtain ⟨b, o, rfl, _, hc⟩ := h.ws h0
  show Wd.val fe _ = n
  rw [← h.val]
  congr 1
  apply List.ext_getElem (by simp)
  intro i h1 h2
  simp only [List.getElem_map, List.getElem_range]
  rw [hc i h2, Wd.qo]
  simp [List.getD, h2]

theorem aix (Ax Ay : Option Addr) (cx cy : Nat) (xl yl : List Nat) (n m K : Nat) (w : World) (hx : qw w Ax cx xl n) (hy : qw w Ay cy yl m) (hn : n < fe ^ K) (hm : m < fe ^ K) (hK : K + 1 ≤ 35184372088832) :
  Calls Tryz.prog 177 #[.slice Ax xl.length cx, .slice Ay yl.length cy] w fun e w' => bga w (n.gcd m) e w' := by
 go_enter Tryz.func177, Tryz.ntmps177
 go_wp2_with fail
 have HK := hide hK
 clear hK
 go_loopw [0, 1] (fun av bv wr => ∃ Aa ca la na Ab cb lb nb, av = .slice Aa la.length ca ∧ bv = .slice Ab lb.length cb ∧ qw wr Aa ca la na ∧ qw wr Ab cb lb nb ∧ na < fe ^ K ∧ nb < fe ^ K ∧ Hid (na.gcd nb = n.gcd m) ∧ Below w.heap.size w wr) (fun _ bv wr => memNum wr bv)
 case atStart => exact ⟨Ax, cx, xl, n, Ay, cy, yl, m, rfl, rfl, hx, hy, hn, hm, rfl, Below.refl _ _⟩
 case round =>
  clear hx hy hn hm
  obtain ⟨Aa, ca, la, na, Ab, cb, lb, nb, rfl, rfl, ha, hb, hna, hnb, HG, hbl⟩ := hrel
  have ha1 := ha.tq; have ha2 := ha.cap2; have hb1 := hb.tq; have hb2 := hb.cap2
  have la1 : la.length ≤ K := ha.len hna
  have lb1 : lb.length ≤ K := hb.len hnb
  by_cases h0 : lb.length = 0
  ·
   have e : nb = 0 := by rw [← hb.val, List.length_eq_zero_iff.1 h0]; rfl
   have hg := HG.out
   rw [e, Nat.gcd_zero_right] at hg
   have HGG := Lib.hid hg
   have HA := hide ha
   clear hg ha hb hna hnb e HG
   go_wp2_with fail
   go_ret
   exact ⟨Aa, ca, la, rfl, by rw [← HGG.out]; exact aa HA, hbl⟩
  ·
   have bds : 0 < nb := by
    rcases Nat.eq_zero_or_pos nb with h | h
    ·
     exfalso
     have := hb.len (k := 0) (by rw [h]; simp)
     omega
    ·
     exact h
   have hp := Kh Aa Ab ca cb la lb na nb wr ha hb bds (by have := aa HK; omega) (by have := aa HK; omega)
   have hg : nb.gcd (na % nb) = n.gcd m := by
    rw [← HG.out, Nat.gcd_comm nb (na % nb), ← Nat.gcd_rec nb na, Nat.gcd_comm]
   have hlt := Nat.mod_lt na bds
   have hmem := aci hb
   have HP := hide hp; have HGG := Lib.hid hg; have HB := hide hb; have Ll := hide hnb
   have Bb := hide hlt; have HM := Lib.hid hmem
   clear hp hg ha hb hna hnb HG hlt hmem
   go_wp2_with fail
   refine (aa HP).mono ?_
   rintro e w' ⟨A5, c5, l5, A6, c6, l6, rfl, h5, h6, avd⟩
   have hb' := (aa HB).below avd
   have bmo : Below w.heap.size w w' := hbl.trans (avd.mono hbl.size)
   have HB2 := hide hb'; have H6 := hide h6
   clear hb' h5 h6 avd hbl
   go_wp2_with fail
   go_roundw
   case rel => exact ⟨Ab, cb, lb, nb, A6, c6, l6, na % nb, rfl, rfl, aa HB2, aa H6, aa Ll, Nat.lt_trans (aa Bb) (aa Ll), HGG, bmo⟩
   case measure =>
    have := aci (aa H6)
    have h2 := HM.out
    have h3 := aa Bb
    simp_all

def Yh (cs : Array Value) : Prop := ∀ (i : Nat) (n : Int), cs[i]? ≠ some (Value.int .u32 n)
theorem Ki (A : Option Addr) (n c : Nat) (b : Bool) : Yh #[.slice A n c, .bool b] := by
 intro i n h
 match i, h with
 | 0, h => simp at h
 | 1, h => simp at h
 | i + 2, h => simp at h
theorem Aw (A : Option Addr) (n c : Nat) (b : Bool) (A' : Option Addr) (n' c' : Nat) (b' : Bool) : Yh #[.slice A n c, .bool b, .slice A' n' c', .bool b'] := by
 intro i n h
 match i, h with
 | 0, h => simp at h
 | 1, h => simp at h
 | 2, h => simp at h
 | 3, h => simp at h
 | i + 4, h => simp at h
theorem Ws.bbq {w w' : World} {B g : Nat} {A : Option Addr} {l : List Nat} {T : TypeId} {cs : Array Value} (h : Ws .u32 w B A l) (hg : w.heap[g]? = some (.cells cs T (0, 0))) (hn : Yh cs) (hgr : w.grownBy w' (some g)) (hB : B ≤ w.heap.size) : Ws .u32 w' B A l := fun hl => by
 obtain ⟨b, off, rfl, hb, hc⟩ := h hl
 have hne : b ≠ g := by
  rintro rfl
  have := hc 0 hl
  simp only [World.cell?, hg, Option.isSome_none, Bool.false_eq_true, if_false] at this
  exact hn _ _ this
 exact ⟨b, off, rfl, hb, fun j hj => (World.cell?_of_block (hgr.block b om (fun e => hne (by injection e)))).trans (hc j hj)⟩
theorem qw.upto {w w' : World} {g : Nat} {A : Option Addr} {cap : Nat} {l : List Nat} {n : Nat} {T : TypeId} {cs : Array Value} (h : qw w A cap l n) (hg : w.heap[g]? = some (.cells cs T (0, 0))) (hn : Yh cs) (hgr : w.grownBy w' (some g)) : qw w' A cap l n :=
 ⟨(h.ws.bbq hg hn hgr (Nat.le_refl _)).more hgr.size, h.tq, h.cap2, h.lt, h.norm, h.val⟩
theorem pq (w : World) (g : Nat) (u0 u1 u2 u3 : Value) : w.grownBy ((((w.setCell ⟨g, 0, none⟩ u0).setCell ⟨g, 1, none⟩ u1).setCell ⟨g, 2, none⟩ u2).setCell ⟨g, 3, none⟩ u3) (some g) :=
 lu (lu (lu (lu (qz _ _) _ _) _ _) _ _) _ _

structure jg (w : World) (A : Option Addr) (cap : Nat) (l : List Nat) (m : Bool) (z : Int) : Prop where
 nat : qw w A cap l z.natAbs
 sign : m = decide (z < 0)
theorem jg.below {w w' : World} {A : Option Addr} {cap : Nat} {l : List Nat} {m : Bool} {z : Int} (h : jg w A cap l m z) (hb : Below w.heap.size w w') : jg w' A cap l m z := ⟨h.nat.below hb, h.sign⟩
theorem jg.upto {w w' : World} {g : Nat} {A : Option Addr} {cap : Nat} {l : List Nat} {m : Bool} {z : Int} {T : TypeId} {cs : Array Value} (h : jg w A cap l m z) (hg : w.heap[g]? = some (.cells cs T (0, 0))) (hn : Yh cs) (hgr : w.grownBy w' (some g)) : jg w' A cap l m z := ⟨h.nat.upto hg hn hgr, h.sign⟩

def Gu (w : World) (z : Int) (e : Ending) (w' : World) : Prop := ∃ A cap l m, e = .returned (.agg #[.slice A l.length cap, .bool m]) ∧ jg w' A cap l m z ∧ Below w.heap.size w w'

theorem qw.Ml {w : World} {A : Option Addr} {cap : Nat} {l : List Nat} {n : Nat} (h : qw w A cap l n) : n = 0 ↔ l.length = 0 := by
 constructor
 ·
  intro e
  have := h.len (k := 0) (by rw [e]; simp)
  omega
 ·
  intro e
  rw [← h.val, List.length_eq_zero_iff.1 e]; rfl

theorem El (A : Option Addr) (cap : Nat) (l : List Nat) (n : Nat) (s : Bool) (w : World) (h : qw w A cap l n) :
  Calls Tryz.prog 179 #[.slice A l.length cap, .bool s] w fun e w' => Gu w (if s then -(n : Int) else (n : Int)) e w' := by
 have hc1 := h.tq; have hc2 := h.cap2
 have hz := h.Ml
 have hab : (if s then -(n : Int) else (n : Int)).natAbs = n := by cases s <;> simp
 have hsg : s = true → decide (0 < l.length) = decide ((if s then -(n : Int) else (n : Int)) < 0) := by
  rintro rfl
  simp only [if_true]
  exact decide_eq_decide.2 om
 have auv : ¬ s = true → false = decide ((if s then -(n : Int) else (n : Int)) < 0) := by
  intro hs
  rw [Bool.not_eq_true] at hs
  subst hs
  exact (decide_eq_false (by simp)).symm
 obtain ⟨z, hzz⟩ : ∃ z, z = if s then -(n : Int) else (n : Int) := ⟨_, rfl⟩
 rw [← hzz] at hab hsg auv ⊢
 have HF : Hid (∀ W, Below w.heap.size w W → qw W A cap l z.natAbs) := fun W hW => by rw [hab]; exact h.below hW
 have qg := hide hsg; have HS2 := hide auv
 clear h hz hab hsg auv hzz
 go_enter Tryz.func179, Tryz.ntmps179
 go_wp2_with fail
 ·
  have hs : s = true := by assumption
  exact bodyPost_ret (v := .agg #[.slice A l.length cap, .bool (decide (0 < l.length))]) (by simp [results, Tryz.results179, go_sem]) rfl ⟨A, cap, l, _, rfl, ⟨(aa HF) _ ((Below.refl _ _).alloc (Nat.le_refl _) _), (aa qg) hs⟩, (Below.refl _ _).alloc (Nat.le_refl _) _⟩
 ·
  have hs : ¬ s = true := by assumption
  exact bodyPost_ret (v := .agg #[.slice A l.length cap, .bool false]) (by simp [results, Tryz.results179, go_sem]) rfl ⟨A, cap, l, _, rfl, ⟨(aa HF) _ ((Below.refl _ _).alloc (Nat.le_refl _) _), (aa HS2) hs⟩, (Below.refl _ _).alloc (Nat.le_refl _) _⟩

theorem Xb (A : Option Addr) (cap n : Nat) (s : Bool) (w : World) :
  Calls Tryz.prog 135 #[.agg #[.slice A n cap, .bool s]] w fun e w' => e = .returned (.bool (decide (n = 0))) ∧ Below w.heap.size w w' := by
 by_cases h : n = 0
 ·
  subst h
  go_enter Tryz.func135, Tryz.ntmps135
  go_wp2_with fail
  all_goals first | go_ret | skip
  all_goals exact ⟨rfl, (Below.refl _ _).alloc (Nat.le_refl _) _⟩
 ·
  have hb : ((n : Int) == 0) = false := beq_eq_false_iff_ne.2 om
  have hd : decide (n = 0) = false := decide_eq_false h
  rw [hd]
  clear hd
  go_enter Tryz.func135, Tryz.ntmps135
  go_wp2_with fail
  all_goals first | go_ret | skip
  all_goals exact ⟨rfl, (Below.refl _ _).alloc (Nat.le_refl _) _⟩

theorem Yq (A : Option Addr) (cap : Nat) (l : List Nat) (m : Bool) (z : Int) (w : World) (h : jg w A cap l m z) :
  Calls Tryz.prog 131 #[.agg #[.slice A l.length cap, .bool m]] w fun e w' => e = .returned (.bool (decide (z = 1))) ∧ Below w.heap.size w w' := by
 have hc1 := h.nat.tq; have hc2 := h.nat.cap2
 by_cases h1 : l.length = 1
 ·
  have hb : ((l.length : Int) == 1) = true := by rw [h1]; rfl
  obtain ⟨b, o, rfl, hbb, hc⟩ := h.nat.ws om
  have hc0 := ((Below.refl w.heap.size w).alloc (Nat.le_refl _) (.cells #[.slice (some ⟨b, o, none⟩) l.length cap, .bool m] 66)).cell (p := ⟨b, o + 0, none⟩) hbb |>.trans (hc 0 om)
  rw [Nat.add_zero] at hc0
  have hv : Wd.g l 0 = z.natAbs := by rw [Rj fe l h1]; exact h.nat.val
  have hs := h.sign
  rw [hv] at hc0
  have hres : decide (z = 1) = ((z.natAbs : Int) == 1 && !m) := by
   rw [hs]
   by_cases hz : z = 1
   ·
    subst hz; rfl
   ·
    rw [decide_eq_false hz]
    by_cases h2 : z = -1
    ·
     subst h2; rfl
    ·
     have : ((z.natAbs : Int) == 1) = false := beq_eq_false_iff_ne.2 om
     rw [this]; rfl
  have hl0 : 0 < l.length := by omega
  have HR := Lib.hid hres
  clear hc hv hs h hres h1
  cases m
  all_goals
   by_cases hv : ((z.natAbs : Nat) : Int) = 1
   ·
    have hv1 : (((z.natAbs : Nat) : Int) == 1) = true := by rw [hv]; rfl
    have HV := Lib.hid hv1
    rw [hv] at hc0
    clear hv hv1
    go_enter Tryz.func131, Tryz.ntmps131
    go_wp2_with fail
    all_goals first | go_ret | skip
    all_goals exact ⟨by rw [HR.out, HV.out]; rfl, (Below.refl _ _).alloc (Nat.le_refl _) _⟩
   ·
    have hv1 : (((z.natAbs : Nat) : Int) == 1) = false := beq_eq_false_iff_ne.2 hv
    have hv0 := hv1
    have HV := Lib.hid hv0
    clear hv0
    obtain ⟨t, ht⟩ : ∃ t, t = z.natAbs := ⟨_, rfl⟩
    rw [← ht] at hc0 hv hv1
    clear ht
    go_enter Tryz.func131, Tryz.ntmps131
    go_wp2_with fail
    all_goals first | go_ret | skip
    all_goals exact ⟨by rw [HR.out, HV.out]; rfl, (Below.refl _ _).alloc (Nat.le_refl _) _⟩
 ·
  have hb : ((l.length : Int) == 1) = false := beq_eq_false_iff_ne.2 om
  have hd : decide (z = 1) = false := decide_eq_false (by
   rintro rfl
   apply h1
   have h0 := h.nat.len (k := 1) (by simp [fq])
   have h3 : ¬ l.length = 0 := fun e => by have := h.nat.Ml.2 e; simp at this
   omega)
  rw [hd]
  clear hd h
  go_enter Tryz.func131, Tryz.ntmps131
  go_wp2_with fail
  all_goals first | go_ret | skip
  all_goals exact ⟨rfl, (Below.refl _ _).alloc (Nat.le_refl _) _⟩

theorem aed (A : Option Addr) (cap : Nat) (l : List Nat) (m : Bool) (z : Int) (w : World) (h : jg w A cap l m z) :
  Calls Tryz.prog 176 #[.agg #[.slice A l.length cap, .bool m]] w fun e w' => Gu w (-z) e w' := by
 have hv : (if (!m) then -(z.natAbs : Int) else (z.natAbs : Int)) = -z := by
  rw [h.sign]
  by_cases hz : z < 0
  ·
   rw [decide_eq_true hz]; simp; omega
  ·
   rw [decide_eq_false hz]; simp; omega
 have HS := hide (fun W (hW : Below w.heap.size w W) => El A cap l z.natAbs (!m) W (h.nat.below hW))
 rw [hv] at HS
 clear h hv
 go_enter Tryz.func176, Tryz.ntmps176
 go_wp2_with fail
 obtain ⟨n0, n1, hsz, hw0⟩ := ve w (.cells #[.slice A l.length cap, .bool m] 66) (.cells #[.slice none 0 0, .bool false] 66)
 generalize ((w.alloc (.cells #[.slice A l.length cap, .bool m] 66)).alloc (.cells #[.slice none 0 0, .bool false] 66)) = W0 at *
 have q1 : w.heap.size + 1 < W0.heap.size := by omega
 have yx : W0.cell? ⟨w.heap.size + 1, 0, none⟩ = some (.slice none 0 0) := ah n1 0
 have yw : W0.cell? ⟨w.heap.size + 1, 1, none⟩ = some (.bool false) := ah n1 1
 have Nf := ax n1 0
 have Nc := ax n1 1
 have NR := Lib.hid n1
 clear n0 n1
 refine ((aa HS) _ hw0).mono ?_
 rintro e w' ⟨A5, c5, l5, m5, rfl, zb, hb⟩
 obtain ⟨hc, hfz⟩ := fo hb
 have hblk : w'.heap[w.heap.size + 1]? = some (.cells #[.slice none 0 0, .bool false] 66 (0, 0)) := (hb.block _ q1).trans NR.out
 have kz := Lib.hid hblk
 have ku : Below w.heap.size w w' := bz hw0 hb
 clear hblk
 go_wp2_with fail
 exact bodyPost_ret (v := .agg #[.slice A5 l5.length c5, .bool m5]) (by simp [results, Tryz.results176, go_sem, hc, yx, yw, q1]) rfl
  ⟨A5, c5, l5, m5, rfl, zb.upto kz.out (Ki _ _ _ _) (mg _ _ _ _), ku.grown (mg _ _ _ _) ku.size (fun k hk => by injection hk with hk; omega)⟩


theorem ano {w : World} {b : Nat} {T : TypeId} {lo hi : Nat} (h : w.heap[b]? = some (.cells #[.int .u32 (lo : Int), .int .u32 (hi : Int)] T (0, 0))) : ZB .u32 w b T [lo, hi] := h

theorem Qt (x : Int) (w : World) (hx : -9223372036854775808 ≤ x) (hx2 : x ≤ 9223372036854775807) :
  Calls Tryz.prog 129 #[.int .i64 x] w fun e w' => Gu w x e w' ∧ ∃ (A : Option Addr) (cap : Nat) (l : List Nat) (m : Bool), e = .returned (.agg #[.slice A l.length cap, .bool m]) ∧ l.length ≤ 2 := by
 obtain ⟨a, ha⟩ : ∃ a, a = x.natAbs := ⟨_, rfl⟩
 obtain ⟨lo, hlo⟩ : ∃ t, t = a % fe := ⟨_, rfl⟩
 obtain ⟨hi, hhi⟩ : ∃ t, t = a / fe := ⟨_, rfl⟩
 have ha2 : a ≤ 9223372036854775808 := by omega
 have e2 : (a : Int) % 4294967296 = (lo : Int) := by rw [hlo, fq]; omega
 have e3 : (a : Int) / 4294967296 = (hi : Int) := by rw [hhi, fq]; omega
 have e4 : (hi : Int) % 4294967296 = (hi : Int) := by rw [hhi, fq]; omega
 have e5 : IntKind.u32.wrap (a : Int) = (lo : Int) := by rw [IntKind.wrap_u32]; exact e2
 have e6 : IntKind.u32.wrap (hi : Int) = (hi : Int) := by rw [IntKind.wrap_u32]; exact e4
 have hlB : ∀ t ∈ [lo, hi], t < fe := by
  intro t ht
  simp only [List.mem_cons, List.not_mem_nil, or_false] at ht
  rcases ht with rfl | rfl
  ·
   rw [hlo]; exact Nat.mod_lt _ (by rw [fq]; omega)
  ·
   rw [hhi, fq]; omega
 have hval : Wd.val fe [lo, hi] = x.natAbs := by
  rw [← ha]
  simp only [Wd.val, Nat.mul_zero, Nat.add_zero]
  rw [hlo, hhi]
  exact Nat.mod_add_div _ _
 have HLB := hide hlB; have abw := Lib.hid hval
 by_cases hn : x < 0
 ·
  have d1 : decide (x < 0) = true := decide_eq_true hn
  have e1 : IntKind.u64.wrap (-IntKind.u64.wrap x) = (a : Int) := by
   rw [IntKind.wrap_u64, IntKind.wrap_u64]; omega
  clear hx hx2 ha hlo hhi ha2 hlB hval
  go_enter Tryz.func129, Tryz.ntmps129
  go_wp2_with fail
  obtain ⟨n0, n1, hsz, hw0⟩ := ve w (.cells #[.slice none 0 0, .bool false] 66) (.cells #[.int .u32 (lo : Int), .int .u32 (hi : Int)] 187)
  generalize ((w.alloc (.cells #[.slice none 0 0, .bool false] 66)).alloc (.cells #[.int .u32 (lo : Int), .int .u32 (hi : Int)] 187)) = W0 at *
  have k0 : W0.cell? ⟨w.heap.size, 0, none⟩ = some (.slice none 0 0) := ah n0 0
  have k1 : W0.cell? ⟨w.heap.size, 1, none⟩ = some (.bool false) := ah n0 1
  have f0 := ax n0 0
  have f1 := ax n0 1
  have q0 : w.heap.size < W0.heap.size := by omega
  have hzb := ano n1
  have NR := Lib.hid n0
  have htr := Cm (some ⟨w.heap.size + 1, 0, none⟩) 2 [lo, hi] W0.heap.size W0 (hzb.Dq _ hzb.lt) (by simp) om
  have HZB := hide hzb
  clear n0 n1 hzb
  refine htr.mono ?_
  rintro e w' ⟨⟨k, rfl, ht, hk⟩, hw'⟩
  obtain rfl : W0 = w' := hw'.symm
  clear hw'
  have za := qw.Ak (cap := 2) (aa HZB) (aa HLB) ht hk (by simp) om
  rw [abw.out] at za
  have hkl : k = ([lo, hi].take k).length := by rw [List.length_take]; omega
  have hl2 : ([lo, hi].take k).length ≤ 2 := by rw [List.length_take]; exact Nat.min_le_right _ _
  generalize [lo, hi].take k = l5 at *
  subst hkl
  have zb : jg W0 (some ⟨w.heap.size + 1, 0, none⟩) 2 l5 true x := ⟨za, d1.symm⟩
  have HF5 := hide zb
  clear za zb ht
  go_wp2_with fail
  exact bodyPost_ret (v := .agg #[.slice (some ⟨w.heap.size + 1, 0, none⟩) l5.length 2, .bool true]) (by simp [results, Tryz.results129, go_sem, k0, k1, q0]) rfl
   ⟨⟨_, 2, l5, true, rfl, (aa HF5).upto NR.out (Ki _ _ _ _) (mg _ _ _ _), hw0.grown (mg _ _ _ _) hw0.size (fun k hk => by injection hk with hk; omega)⟩, _, _, l5, true, rfl, hl2⟩
 ·
  have d1 : decide (x < 0) = false := decide_eq_false hn
  have e1 : IntKind.u64.wrap x = (a : Int) := by
   rw [IntKind.wrap_u64]; omega
  clear hx hx2 ha hlo hhi ha2 hlB hval
  go_enter Tryz.func129, Tryz.ntmps129
  go_wp2_with fail
  obtain ⟨n0, n1, hsz, hw0⟩ := ve w (.cells #[.slice none 0 0, .bool false] 66) (.cells #[.int .u32 (lo : Int), .int .u32 (hi : Int)] 187)
  generalize ((w.alloc (.cells #[.slice none 0 0, .bool false] 66)).alloc (.cells #[.int .u32 (lo : Int), .int .u32 (hi : Int)] 187)) = W0 at *
  have k0 : W0.cell? ⟨w.heap.size, 0, none⟩ = some (.slice none 0 0) := ah n0 0
  have k1 : W0.cell? ⟨w.heap.size, 1, none⟩ = some (.bool false) := ah n0 1
  have f0 := ax n0 0
  have f1 := ax n0 1
  have q0 : w.heap.size < W0.heap.size := by omega
  have hzb := ano n1
  have NR := Lib.hid n0
  have htr := Cm (some ⟨w.heap.size + 1, 0, none⟩) 2 [lo, hi] W0.heap.size W0 (hzb.Dq _ hzb.lt) (by simp) om
  have HZB := hide hzb
  clear n0 n1 hzb
  refine htr.mono ?_
  rintro e w' ⟨⟨k, rfl, ht, hk⟩, hw'⟩
  obtain rfl : W0 = w' := hw'.symm
  clear hw'
  have za := qw.Ak (cap := 2) (aa HZB) (aa HLB) ht hk (by simp) om
  rw [abw.out] at za
  have hkl : k = ([lo, hi].take k).length := by rw [List.length_take]; omega
  have hl2 : ([lo, hi].take k).length ≤ 2 := by rw [List.length_take]; exact Nat.min_le_right _ _
  generalize [lo, hi].take k = l5 at *
  subst hkl
  have zb : jg W0 (some ⟨w.heap.size + 1, 0, none⟩) 2 l5 false x := ⟨za, d1.symm⟩
  have HF5 := hide zb
  clear za zb ht
  go_wp2_with fail
  exact bodyPost_ret (v := .agg #[.slice (some ⟨w.heap.size + 1, 0, none⟩) l5.length 2, .bool false]) (by simp [results, Tryz.results129, go_sem, k0, k1, q0]) rfl
   ⟨⟨_, 2, l5, false, rfl, (aa HF5).upto NR.out (Ki _ _ _ _) (mg _ _ _ _), hw0.grown (mg _ _ _ _) hw0.size (fun k hk => by injection hk with hk; omega)⟩, _, _, l5, false, rfl, hl2⟩


theorem asr (A1 : Option Addr) (c1 : Nat) (l1 : List Nat) (m1 : Bool) (z1 : Int) (A2 : Option Addr) (c2 : Nat) (l2 : List Nat) (m2 : Bool) (z2 : Int) (w : World) (h1 : jg w A1 c1 l1 m1 z1) (h2 : jg w A2 c2 l2 m2 z2) (hk : l1.length + l2.length ≤ 35184372088832) :
  Calls Tryz.prog 133 #[.agg #[.slice A1 l1.length c1, .bool m1], .agg #[.slice A2 l2.length c2, .bool m2]] w fun e w' => Gu w (z1 * z2) e w' := by
 have hv : (if (m1 != m2) then -((z1.natAbs * z2.natAbs : Nat) : Int) else ((z1.natAbs * z2.natAbs : Nat) : Int)) = z1 * z2 := by
  rw [h1.sign, h2.sign, ← Int.natAbs_mul]
  by_cases a : z1 < 0 <;> by_cases b : z2 < 0
  ·
   have := Int.mul_pos_of_neg_of_neg a b
   simp [a, b]; omega
  ·
   have : z1 * z2 ≤ 0 := Int.mul_nonpos_of_nonpos_of_nonneg om om
   simp [a, b]; omega
  ·
   have : z1 * z2 ≤ 0 := Int.mul_nonpos_of_nonneg_of_nonpos om om
   simp [a, b]; omega
  ·
   have : 0 ≤ z1 * z2 := Int.mul_nonneg om om
   simp [a, b]; omega
 have HT := hide (fun W (hW : Below w.heap.size w W) => akz A1 A2 c1 c2 l1 l2 z1.natAbs z2.natAbs W (h1.nat.below hW) (h2.nat.below hW) hk)
 obtain ⟨p, hp⟩ : ∃ p, p = z1.natAbs * z2.natAbs := ⟨_, rfl⟩
 obtain ⟨z, hz⟩ : ∃ z, z = z1 * z2 := ⟨_, rfl⟩
 rw [← hp] at HT hv
 rw [← hz] at hv ⊢
 obtain ⟨sg, hsg⟩ : ∃ s, s = (m1 != m2) := ⟨_, rfl⟩
 rw [← hsg] at hv
 have HV := Lib.hid hv
 have SG : (!(m1 == m2)) = sg := hsg.symm
 clear h1 h2 hk hp hz hv hsg
 go_enter Tryz.func133, Tryz.ntmps133
 go_wp2_with fail
 obtain ⟨n0, n1, n2, hsz, hw0⟩ := ou w (.cells #[.slice A1 l1.length c1, .bool m1] 66) (.cells #[.slice A2 l2.length c2, .bool m2] 66) (.cells #[.slice none 0 0, .bool false] 66)
 generalize (((w.alloc (.cells #[.slice A1 l1.length c1, .bool m1] 66)).alloc (.cells #[.slice A2 l2.length c2, .bool m2] 66)).alloc (.cells #[.slice none 0 0, .bool false] 66)) = W0 at *
 have k0 : W0.cell? ⟨w.heap.size, 0, none⟩ = some (.slice A1 l1.length c1) := ah n0 0
 have k1 : W0.cell? ⟨w.heap.size, 1, none⟩ = some (.bool m1) := ah n0 1
 have k2 : W0.cell? ⟨w.heap.size + 1, 0, none⟩ = some (.slice A2 l2.length c2) := ah n1 0
 have k3 : W0.cell? ⟨w.heap.size + 1, 1, none⟩ = some (.bool m2) := ah n1 1
 have q0 : w.heap.size < W0.heap.size := by omega
 have q1 : w.heap.size + 1 < W0.heap.size := by omega
 have q2 : w.heap.size + 1 + 1 < W0.heap.size := by omega
 have r0 : W0.cell? ⟨w.heap.size + 1 + 1, 0, none⟩ = some (.slice none 0 0) := ah n2 0
 have r1 : W0.cell? ⟨w.heap.size + 1 + 1, 1, none⟩ = some (.bool false) := ah n2 1
 have f0 := ax n2 0
 have f1 := ax n2 1
 have NR := Lib.hid n2
 clear n0 n1 n2 hsz
 go_region_held3 (fun w' => w'.cell? ⟨w.heap.size, 0, none⟩ = some (.slice A1 l1.length c1) ∧ w'.cell? ⟨w.heap.size, 1, none⟩ = some (.bool m1) ∧ w'.cell? ⟨w.heap.size + 1, 0, none⟩ = some (.slice A2 l2.length c2) ∧ w'.cell? ⟨w.heap.size + 1, 1, none⟩ = some (.bool m2)) ((first | with_reducible exact ⟨k0, k1, k2, k3⟩ | with_reducible exact ⟨(hc _ _ q0).trans k0, (hc _ _ q0).trans k1, (hc _ _ q1).trans k2, (hc _ _ q1).trans k3⟩ | with_reducible exact ⟨(Oq _ _ _ _ om).trans ((hc _ _ q0).trans k0), (Oq _ _ _ _ om).trans ((hc _ _ q0).trans k1), (Oq _ _ _ _ om).trans ((hc _ _ q1).trans k2), (Oq _ _ _ _ om).trans ((hc _ _ q1).trans k3)⟩ | exact ⟨k0, k1, k2, k3⟩ | exact ⟨(hc _ _ q0).trans k0, (hc _ _ q0).trans k1, (hc _ _ q1).trans k2, (hc _ _ q1).trans k3⟩)) (first | (go_at_call 184; refine ((aa HT) _ (bz hw0 (by (first | with_reducible assumption | (repeat (first | with_reducible exact Below.refl _ _ | with_reducible assumption | refine Below.drew ?_ | (refine Below.alloc ?_ (by simp <;> omega) _))))))).mono ?_; rintro e w' ⟨A5, c5, l5, rfl, za, hb⟩; have hbw := dh (w := W0) bem hb; obtain ⟨hc, hfz⟩ := fo hbw) | (go_at_call 179; refine (El A5 c5 l5 p sg _ (by exact za)).mono ?_; rw [HV.out]; rintro e w' ⟨A6, c6, l6, m6, rfl, Fu, hb⟩; have hbw := dh (w := W0) bem hb; obtain ⟨hc, hfz⟩ := fo hbw))
 all_goals
  have hblk : w'.heap[w.heap.size + 1 + 1]? = some (.cells #[.slice none 0 0, .bool false] 66 (0, 0)) := (hbw.block _ q2).trans NR.out
  have kz := Lib.hid hblk
  have ku : Below w.heap.size w w' := bz hw0 hbw
  clear hblk
  go_wp2_with fail
  exact bodyPost_ret (v := .agg #[.slice A6 l6.length c6, .bool m6]) (by simp [results, Tryz.results133, go_sem, hc, r0, r1, q2]) rfl
   ⟨A6, c6, l6, m6, rfl, Fu.upto kz.out (Ki _ _ _ _) (mg _ _ _ _), ku.grown (mg _ _ _ _) ku.size (fun k hk => by injection hk with hk; omega)⟩

theorem ast (A1 : Option Addr) (c1 : Nat) (l1 : List Nat) (m1 : Bool) (A2 : Option Addr) (c2 : Nat) (l2 : List Nat) (m2 : Bool) (d : Int) (w : World) (h2 : jg w A2 c2 l2 m2 d) (hd : d ≠ 0) :
  Calls Tryz.prog 130 #[.agg #[.slice A1 l1.length c1, .bool m1, .slice A2 l2.length c2, .bool m2]] w fun e w' => e = .returned (.agg #[.slice A2 l2.length c2, .bool m2]) ∧ Below w.heap.size w w' := by
 have hl : ¬ l2.length = 0 := fun e => by have := h2.nat.Ml.2 e; omega
 have HI := hide (fun W => Xb A2 c2 l2.length m2 W)
 rw [decide_eq_false hl] at HI
 clear h2 hd
 go_enter Tryz.func130, Tryz.ntmps130
 go_wp2_with fail
 obtain ⟨n0, n1, hsz, hw0⟩ := ve w (.cells #[.slice A1 l1.length c1, .bool m1, .slice A2 l2.length c2, .bool m2] 68) (.cells #[.slice none 0 0, .bool false] 66)
 generalize ((w.alloc (.cells #[.slice A1 l1.length c1, .bool m1, .slice A2 l2.length c2, .bool m2] 68)).alloc (.cells #[.slice none 0 0, .bool false] 66)) = W0 at *
 have k2 : W0.cell? ⟨w.heap.size, 2, none⟩ = some (.slice A2 l2.length c2) := ah n0 2
 have k3 : W0.cell? ⟨w.heap.size, 3, none⟩ = some (.bool m2) := ah n0 3
 have q0 : w.heap.size < W0.heap.size := by omega
 have q1 : w.heap.size + 1 < W0.heap.size := by omega
 have r0 : W0.cell? ⟨w.heap.size + 1, 0, none⟩ = some (.slice none 0 0) := ah n1 0
 have r1 : W0.cell? ⟨w.heap.size + 1, 1, none⟩ = some (.bool false) := ah n1 1
 have f0 := ax n1 0
 have f1 := ax n1 1
 clear n0 n1 hsz
 refine ((aa HI) _).mono ?_
 rintro e w' ⟨rfl, hb⟩
 obtain ⟨hc, hfz⟩ := fo hb
 have ku : Below w.heap.size w w' := bz hw0 hb
 go_wp2_with fail
 exact bodyPost_ret (v := .agg #[.slice A2 l2.length c2, .bool m2]) (by simp [results, Tryz.results130, go_sem, hc, k2, k3, r0, r1, q1]) rfl
  ⟨rfl, ku.grown (mg _ _ _ _) ku.size (fun k hk => by injection hk with hk; omega)⟩

def bfu (w : World) (z : Int) (e : Ending) (w' : World) : Prop := ∃ (v : Int) (ok : Bool), e = .returned (.tuple #[.int .i64 v, .bool ok]) ∧ ok = decide (-9223372036854775808 ≤ z ∧ z ≤ 9223372036854775807) ∧ (ok = true → v = z) ∧ Below w.heap.size w w'

theorem Sy (l : List Nat) (h : 0 < l.length) : Wd.val fe (l.take 1) = Wd.g l 0 := by
 cases l with
 | nil => simp at h
 | cons a l => simp [Wd.val, Wd.qo, List.getD]
theorem ady (l : List Nat) (h : 1 < l.length) : Wd.val fe (l.take 2) = Wd.g l 0 + Wd.g l 1 * 2 ^ 32 := by
 cases l with
 | nil => simp at h
 | cons a l => cases l with
  | nil => simp at h
  | cons b l => simp [Wd.val, Wd.qo, List.getD, fq]; omega

theorem Yo (A : Option Addr) (cap : Nat) (l : List Nat) (m : Bool) (z : Int) (w : World) (h : jg w A cap l m z) :
  Calls Tryz.prog 143 #[.agg #[.slice A l.length cap, .bool m]] w fun e w' => bfu w z e w' := by
 have hc1 := h.nat.tq; have hc2 := h.nat.cap2
 have hba : Below w.heap.size w (w.alloc (.cells #[.slice A l.length cap, .bool m] 66)) := (Below.refl _ _).alloc (Nat.le_refl _) _
 by_cases hl : l.length ≤ 2
 ·
  have d1 : decide ((2 : Int) < (l.length : Int)) = false := decide_eq_false om
  have hsg := h.sign
  have hn := (h.nat.below hba)
  have hbl := h.nat.Mr
  obtain ⟨n0, hsz, hw0⟩ := Mi w (.cells #[.slice A l.length cap, .bool m] 66)
  have HN := hide hn; have HBL := hide hbl; have Li := Lib.hid hsg; have HW0 := hide hw0
  clear hba hn hbl hsg h hw0
  go_enter Tryz.func143, Tryz.ntmps143
  go_wp2_with fail
  all_goals first | omega | skip
  generalize (w.alloc (.cells #[.slice A l.length cap, .bool m] 66)) = W0 at *
  have k0 : W0.cell? ⟨w.heap.size, 0, none⟩ = some (.slice A l.length cap) := ah n0 0
  have k1 : W0.cell? ⟨w.heap.size, 1, none⟩ = some (.bool m) := ah n0 1
  clear n0 hsz
  go_loop [4, 5] (fun uv iv => ∃ i : Nat, i ≤ l.length ∧ iv = .int .i64 ((i : Nat) : Int) ∧ uv = .int .u64 ((Wd.val fe (l.take i) : Nat) : Int)) (fun _ iv => l.length - (intOf iv).toNat)
  case atStart => exact ⟨0, Nat.zero_le _, rfl, rfl⟩
  case round =>
   obtain ⟨i, hi, rfl, rfl⟩ := hrel
   by_cases hlt : i < l.length
   ·
    obtain ⟨b, o, rfl, hbb, hcell⟩ := (aa HN).ws om
    have hx := hcell i hlt
    clear hcell
    obtain ⟨x, Sl⟩ : ∃ x, x = Wd.g l i := ⟨_, rfl⟩
    rw [← Sl] at hx
    have zg : x < fe := by rw [Sl]; exact Wd.getD_lt (by rw [fq]; omega) _ (aa HN).lt i
    have e0 : IntKind.u64.wrap (x : Int) = (x : Int) := je rfl (by rw [fq] at zg; rw [gy]; omega)
    have hi2 : i = 0 ∨ i = 1 := by omega
    rcases hi2 with rfl | rfl
    ·
     have hv : Wd.val fe (l.take 1) = x := by rw [Sy l hlt, Sl]
     have hv0 : Wd.val fe (l.take 0) = 0 := rfl
     rw [Nat.add_zero] at hx
     rw [hv0]
     have g1 : Go.bits .or .u64 0 (x : Int) = (x : Int) := by
      have := bits_or_u64_nat 0 x om (by rw [fq] at zg; omega)
      simpa using this
     have HV := Lib.hid hv
     clear hv Sl hv0
     go_wp2_with fail
     go_round
     case rel => exact ⟨1, by omega, rfl, by rw [HV.out]⟩
     case measure => simp [intOf] <;> omega
    ·
     have hv : Wd.val fe (l.take 2) = Wd.g l 0 + x * 2 ^ 32 := by rw [ady l hlt, Sl]
     have hv0 : Wd.val fe (l.take 1) = Wd.g l 0 := Sy l om
     have Fp : Wd.g l 0 < fe := Wd.getD_lt (by rw [fq]; omega) _ (aa HN).lt 0
     obtain ⟨y, hyy⟩ : ∃ x, x = Wd.g l 0 := ⟨_, rfl⟩
     rw [← hyy] at hv hv0 Fp
     rw [hv0]
     obtain ⟨p, hp⟩ : ∃ p, p = x * 2 ^ 32 := ⟨_, rfl⟩
     obtain ⟨s, hs⟩ : ∃ s, s = y + p := ⟨_, rfl⟩
     have g0 : IntKind.u64.wrap ((x : Int) * 2 ^ 32) = (p : Int) := je (by rw [hp]; simp) (by rw [hp]; rw [fq] at zg; rw [gy]; omega)
     have g0' : IntKind.u64.wrap ((x : Int) * 4294967296) = (p : Int) := je (by rw [hp]; simp) (by rw [hp]; rw [fq] at zg; rw [gy]; omega)
     have g1 : Go.bits .or .u64 (y : Int) (p : Int) = (s : Int) := by
      rw [bits_or_u64_nat y p (by rw [fq] at Fp; omega) (by rw [hp]; rw [fq] at zg; omega), hs, hp, Mh (by rw [fq] at Fp; omega)]
     rw [← hp, ← hs] at hv
     have HV := Lib.hid hv
     clear hv Sl hv0 hyy hp hs
     go_wp2_with fail
     go_round
     case rel => exact ⟨2, by omega, rfl, by rw [HV.out]⟩
     case measure => simp [intOf] <;> omega
   ·
    have e : i = l.length := by omega
    subst e
    have hv : Wd.val fe (l.take l.length) = z.natAbs := by rw [List.take_length]; exact (aa HN).val
    rw [hv]
    obtain ⟨a, ha⟩ : ∃ a, a = z.natAbs := ⟨_, rfl⟩
    have haB : a < dz := by
     have := aa HBL
     have h2 : fe ^ l.length ≤ fe ^ 2 := Nat.pow_le_pow_right (by rw [fq]; omega) hl
     rw [← ha] at this; rw [gy]; rw [fq] at *; omega
    rw [← ha]
    clear hv hlt
    go_wp2_with fail
    ·
     have hm : m = true := by assumption
     have hz : z < 0 := of_decide_eq_true (Li.out.symm.trans hm)
     go_ret2
     refine ⟨_, _, rfl, decide_eq_decide.2 om, fun h => ?_, aa HW0⟩
     have h2 := of_decide_eq_true h
     simp only [wrap64, IntKind.wrap_u64]
     omega
    ·
     have hm : ¬ m = true := by rw [show m = false by assumption]; exact Bool.false_ne_true
     have hz : ¬ z < 0 := fun h => hm (Li.out.trans (decide_eq_true h))
     go_ret2
     refine ⟨_, _, rfl, decide_eq_decide.2 om, fun h => ?_, aa HW0⟩
     have h2 := of_decide_eq_true h
     rw [IntWalk.wrap64_in _ om]
     omega
 ·
  have d1 : decide ((2 : Int) < (l.length : Int)) = true := decide_eq_true om
  have hnot : ¬ (-9223372036854775808 ≤ z ∧ z ≤ 9223372036854775807) := by
   intro hz
   have := h.nat.len (k := 2) (by rw [fq]; omega)
   omega
  have HNO := hide hnot
  clear h hnot
  go_enter Tryz.func143, Tryz.ntmps143
  go_wp2_with fail
  all_goals first | omega | skip
  go_ret2
  exact ⟨0, false, rfl, (decide_eq_false (aa HNO)).symm, (fun h => Bool.noConfusion h), hba⟩

def Oy (n d : Int) : Int := if Wd.qy n d then 0 else 1

theorem aso (n d : Int) (h1 : d < 1) (w : World) :
  Calls Tryz.prog 66 #[.agg #[.int .i64 n, .int .i64 d]] w fun e w' => e = .returned (.int .i64 1) ∧ Below w.heap.size w w' := by
 have d1 : decide (d < 1) = true := decide_eq_true om
 clear h1
 go_enter Tryz.func66, Tryz.ntmps66
 go_wp2
 go_ret
 exact ⟨rfl, (Below.refl _ _).alloc (Nat.le_refl _) _⟩
theorem asn (n d : Int) (h1 : ¬ d < 1) (h2 : 1000000000000 < d) (w : World) :
  Calls Tryz.prog 66 #[.agg #[.int .i64 n, .int .i64 d]] w fun e w' => e = .returned (.int .i64 1) ∧ Below w.heap.size w w' := by
 have d1 : decide (d < 1) = false := decide_eq_false om
 have d2 : decide (1000000000000 < d) = true := decide_eq_true om
 clear h1 h2
 go_enter Tryz.func66, Tryz.ntmps66
 go_wp2
 go_ret
 exact ⟨rfl, (Below.refl _ _).alloc (Nat.le_refl _) _⟩
theorem asl (n d : Int) (h1 : ¬ d < 1) (h2 : ¬ 1000000000000 < d) (h3 : n < -1000000000000) (w : World) :
  Calls Tryz.prog 66 #[.agg #[.int .i64 n, .int .i64 d]] w fun e w' => e = .returned (.int .i64 1) ∧ Below w.heap.size w w' := by
 have d1 : decide (d < 1) = false := decide_eq_false om
 have d2 : decide (1000000000000 < d) = false := decide_eq_false om
 have d3 : decide (n < -1000000000000) = true := decide_eq_true om
 clear h1 h2 h3
 go_enter Tryz.func66, Tryz.ntmps66
 go_wp2
 go_ret
 exact ⟨rfl, (Below.refl _ _).alloc (Nat.le_refl _) _⟩
theorem asj (n d : Int) (h1 : ¬ d < 1) (h2 : ¬ 1000000000000 < d) (h3 : ¬ n < -1000000000000) (h4 : 1000000000000 < n) (w : World) :
  Calls Tryz.prog 66 #[.agg #[.int .i64 n, .int .i64 d]] w fun e w' => e = .returned (.int .i64 1) ∧ Below w.heap.size w w' := by
 have d1 : decide (d < 1) = false := decide_eq_false om
 have d2 : decide (1000000000000 < d) = false := decide_eq_false om
 have d3 : decide (n < -1000000000000) = false := decide_eq_false om
 have d4 : decide (1000000000000 < n) = true := decide_eq_true om
 clear h1 h2 h3 h4
 go_enter Tryz.func66, Tryz.ntmps66
 go_wp2
 go_ret
 exact ⟨rfl, (Below.refl _ _).alloc (Nat.le_refl _) _⟩
theorem val_ok (n d : Int) (h1 : ¬ d < 1) (h2 : ¬ 1000000000000 < d) (h3 : ¬ n < -1000000000000) (h4 : ¬ 1000000000000 < n) (h5 : n.natAbs.gcd d.natAbs = 1) (w : World) (hT : qa w) :
  Calls Tryz.prog 66 #[.agg #[.int .i64 n, .int .i64 d]] w fun e w' => e = .returned (.int .i64 0) ∧ Below w.heap.size w w' := by
 have d1 : decide (d < 1) = false := decide_eq_false om
 have d2 : decide (1000000000000 < d) = false := decide_eq_false om
 have d3 : decide (n < -1000000000000) = false := decide_eq_false om
 have d4 : decide (1000000000000 < n) = false := decide_eq_false om
 have e1 : wrap64 (-n) = -n := IntWalk.wrap64_in _ om
 have e1' : IntKind.i64.wrap (-n) = -n := IntWalk.i64_in _ om
 obtain ⟨a, ha⟩ : ∃ a, a = n.natAbs := ⟨_, rfl⟩
 obtain ⟨b, hb⟩ : ∃ b, b = d.natAbs := ⟨_, rfl⟩
 have e2 : max n (-n) = ((a : Nat) : Int) := by omega
 have e3 : IntKind.u64.wrap ((a : Nat) : Int) = ((a : Nat) : Int) := by rw [IntKind.wrap_u64]; omega
 have e4 : IntKind.u64.wrap d = ((b : Nat) : Int) := by rw [IntKind.wrap_u64]; omega
 rw [← ha, ← hb] at h5
 have HG := hide (fun W (hW : qa W) => Oh a b (by rw [gy]; omega) (by rw [gy]; omega) W hW)
 have HT := hide hT
 obtain ⟨g, hg⟩ : ∃ g, g = a.gcd b := ⟨_, rfl⟩
 rw [← hg] at h5 HG
 have d5 : ((g : Int) == 1) = true := beq_iff_eq.2 om
 have d6 : ((g : Int) != 1) = false := by simp [bne, d5]
 clear h1 h2 h3 h4 h5 ha hb hg hT
 go_enter Tryz.func66, Tryz.ntmps66
 go_wp2_with fail
 refine ((aa HG) _ ((aa HT).alloc _)).mono ?_
 rintro e w' ⟨rfl, rfl⟩
 go_wp2
 go_ret
 exact ⟨rfl, (Below.refl _ _).alloc (Nat.le_refl _) _⟩
theorem asi (n d : Int) (h1 : ¬ d < 1) (h2 : ¬ 1000000000000 < d) (h3 : ¬ n < -1000000000000) (h4 : ¬ 1000000000000 < n) (h5 : ¬ n.natAbs.gcd d.natAbs = 1) (w : World) (hT : qa w) :
  Calls Tryz.prog 66 #[.agg #[.int .i64 n, .int .i64 d]] w fun e w' => e = .returned (.int .i64 1) ∧ Below w.heap.size w w' := by
 have d1 : decide (d < 1) = false := decide_eq_false om
 have d2 : decide (1000000000000 < d) = false := decide_eq_false om
 have d3 : decide (n < -1000000000000) = false := decide_eq_false om
 have d4 : decide (1000000000000 < n) = false := decide_eq_false om
 have e1 : wrap64 (-n) = -n := IntWalk.wrap64_in _ om
 have e1' : IntKind.i64.wrap (-n) = -n := IntWalk.i64_in _ om
 obtain ⟨a, ha⟩ : ∃ a, a = n.natAbs := ⟨_, rfl⟩
 obtain ⟨b, hb⟩ : ∃ b, b = d.natAbs := ⟨_, rfl⟩
 have e2 : max n (-n) = ((a : Nat) : Int) := by omega
 have e3 : IntKind.u64.wrap ((a : Nat) : Int) = ((a : Nat) : Int) := by rw [IntKind.wrap_u64]; omega
 have e4 : IntKind.u64.wrap d = ((b : Nat) : Int) := by rw [IntKind.wrap_u64]; omega
 rw [← ha, ← hb] at h5
 have HG := hide (fun W (hW : qa W) => Oh a b (by rw [gy]; omega) (by rw [gy]; omega) W hW)
 have HT := hide hT
 obtain ⟨g, hg⟩ : ∃ g, g = a.gcd b := ⟨_, rfl⟩
 rw [← hg] at h5 HG
 have d5 : ((g : Int) == 1) = false := beq_eq_false_iff_ne.2 om
 have d6 : ((g : Int) != 1) = true := by simp [bne, d5]
 clear h1 h2 h3 h4 h5 ha hb hg hT
 go_enter Tryz.func66, Tryz.ntmps66
 go_wp2_with fail
 refine ((aa HG) _ ((aa HT).alloc _)).mono ?_
 rintro e w' ⟨rfl, rfl⟩
 go_wp2
 go_ret
 exact ⟨rfl, (Below.refl _ _).alloc (Nat.le_refl _) _⟩
theorem ayr (n d : Int) (w : World) (hT : qa w) :
  Calls Tryz.prog 66 #[.agg #[.int .i64 n, .int .i64 d]] w fun e w' => e = .returned (.int .i64 (Oy n d)) ∧ Below w.heap.size w w' := by
 unfold Oy
 by_cases h1 : d < 1
 ·
  rw [if_neg (by unfold Wd.qy; omega)]; exact aso n d h1 w
 by_cases h2 : 1000000000000 < d
 ·
  rw [if_neg (by unfold Wd.qy; omega)]; exact asn n d h1 h2 w
 by_cases h3 : n < -1000000000000
 ·
  rw [if_neg (by unfold Wd.qy; omega)]; exact asl n d h1 h2 h3 w
 by_cases h4 : 1000000000000 < n
 ·
  rw [if_neg (by unfold Wd.qy; omega)]; exact asj n d h1 h2 h3 h4 w
 by_cases h5 : n.natAbs.gcd d.natAbs = 1
 ·
  rw [if_pos (by unfold Wd.qy; omega)]; exact val_ok n d h1 h2 h3 h4 h5 w hT
 ·
  rw [if_neg (by unfold Wd.qy; omega)]; exact asi n d h1 h2 h3 h4 h5 w hT

theorem ayw (n d : Int) (w : World) :
  Calls Tryz.prog 70 #[.agg #[.int .i64 n, .int .i64 d]] w fun e w' => e = .returned (.bool (decide (Wd.qy n d))) ∧ Below w.heap.size w w' := by
 have hba : Below w.heap.size w (w.alloc (.cells #[.int .i64 n, .int .i64 d] 23)) := (Below.refl _ _).alloc (Nat.le_refl _) _
 have HB := hide hba
 by_cases hr : 1 ≤ d ∧ d ≤ 1000000000000 ∧ -1000000000000 ≤ n ∧ n ≤ 1000000000000
 ·
  obtain ⟨r1, r2, r3, r4⟩ := hr
  have hok : decide (n.natAbs.gcd d.natAbs = 1) = decide (Wd.qy n d) := decide_eq_decide.2 (by
   unfold Wd.qy
   constructor
   ·
    intro h; refine ⟨?_, ?_, ?_, ?_, ?_⟩ <;> first | omega | exact h
   ·
    rintro ⟨_, _, _, _, h⟩; exact h)
  rw [← hok]
  obtain ⟨rb, hrb⟩ : ∃ b, b = decide (n.natAbs.gcd d.natAbs = 1) := ⟨_, rfl⟩
  rw [← hrb]
  have HRB := Lib.hid hrb
  clear hok hba hrb
  have d1 : decide (d < 1) = false := decide_eq_false om
  have d2 : decide (1000000000000 < d) = false := decide_eq_false om
  have d3 : decide (n < -1000000000000) = false := decide_eq_false om
  have d4 : decide (1000000000000 < n) = false := decide_eq_false om
  have en : IntKind.i64.wrap (-n) = -n := IntWalk.i64_in _ om
  obtain ⟨a, ha⟩ : ∃ a, a = n.natAbs := ⟨_, rfl⟩
  obtain ⟨b, hb⟩ : ∃ b, b = d.natAbs := ⟨_, rfl⟩
  go_enter Tryz.func70, Tryz.ntmps70
  go_wp2_with fail
  all_goals first | omega | skip
  all_goals go_quiet (fail)
  all_goals go_wp2_with fail
  all_goals
   have HRR := hide (And.intro r1 (And.intro r2 (And.intro r3 r4)))
   go_loopw [3, 4] (fun av bv wr => ∃ (a b : Nat), av = .int .i64 ((a : Nat) : Int) ∧ bv = .int .i64 ((b : Nat) : Int) ∧ a ≤ 1000000000000 ∧ b ≤ 1000000000000 ∧ Hid (a.gcd b = n.natAbs.gcd d.natAbs) ∧ Below w.heap.size w wr) (fun _ bv _ => (intOf bv).toNat)
   case atStart =>
    refine ⟨n.natAbs, d.natAbs, ?_, ?_, by omega, by omega, rfl, by first | exact aa HB | exact (aa HB).drew | exact ni (aa HB) _⟩
    ·
     show Value.int .i64 _ = Value.int .i64 _
     congr 1; omega
    ·
     show Value.int .i64 _ = Value.int .i64 _
     congr 1; omega
   case round =>
    obtain ⟨a, b, rfl, rfl, ha, hb, HG, hbl⟩ := hrel
    by_cases h0 : b = 0
    ·
     subst h0
     have hg := HG.out
     rw [Nat.gcd_zero_right] at hg
     have hres : ((a : Int) == 1) = rb := by
      rw [HRB.out]
      by_cases h : a = 1
      ·
       exact (show ((a : Int) == 1) = true by rw [h]; rfl).trans (decide_eq_true (hg.symm.trans h)).symm
      ·
       exact (show ((a : Int) == 1) = false from beq_eq_false_iff_ne.2 om).trans (decide_eq_false (fun e => h (hg.trans e))).symm
     have bnp := Lib.hid hres
     clear hg hres
     go_wp2_with fail
     all_goals first | omega | skip
     go_ret
     exact ⟨by rw [← bnp.out]; rfl, hbl⟩
    ·
     have dp : decide ((0 : Int) < (b : Int)) = true := decide_eq_true om
     have dp' : decide (0 < b) = true := decide_eq_true om
     have e1 : ((a : Int)).tmod (b : Int) = ((a % b : Nat) : Int) := (Int.ofNat_tmod _ _).symm
     have e2 : ((b : Int) == 0) = false := beq_eq_false_iff_ne.2 om
     have e3 : ¬ ((b : Int) = 0) := by omega
     have hm := Nat.mod_lt a (Nat.pos_of_ne_zero h0)
     obtain ⟨r, hr⟩ : ∃ r, r = a % b := ⟨_, rfl⟩
     rw [← hr] at e1 hm
     have e4 : IntKind.i64.wrap (r : Int) = (r : Int) := IntWalk.i64_in _ om
     have hgg : b.gcd r = n.natAbs.gcd d.natAbs := by
      rw [← HG.out, hr, Nat.gcd_comm b (a % b), ← Nat.gcd_rec b a, Nat.gcd_comm]
     have HGG := Lib.hid hgg
     clear hgg hr HG
     go_wp2_with fail
     all_goals first | omega | skip
     go_quiet (fail)
     go_wp2_with fail
     go_roundw
     case rel => exact ⟨b, r, by go_num, by go_num, by omega, by omega, HGG, by first | exact hbl | exact hbl.drew | exact ni hbl _⟩
     case measure => simp [intOf] <;> omega
 ·
  have hok : decide (Wd.qy n d) = false := decide_eq_false (by
   unfold Wd.qy
   rintro ⟨a1, a2, a3, a4, _⟩
   exact hr ⟨by omega, by omega, by omega, by omega⟩)
  rw [hok]
  clear hok hba
  go_enter Tryz.func70, Tryz.ntmps70
  go_wp2_with fail
  all_goals first | omega | skip
  all_goals
   go_ret
   exact ⟨rfl, aa HB⟩



def Dl (w : World) (b : Nat) (z : Int) : Prop := ∃ A cap l m, w.heap[b]? = some (.cells #[.slice A (List.length l) cap, .bool m] 66 (0, 0)) ∧ jg w A cap l m z
theorem Dl.below {w w' : World} {b : Nat} {z : Int} (h : Dl w b z) (hb : Below w.heap.size w w') : Dl w' b z := by
 obtain ⟨A, cap, l, m, h1, h2⟩ := h
 exact ⟨A, cap, l, m, (hb.block _ (lt_of_block h1)).trans h1, h2.below hb⟩
theorem Dl.lt {w : World} {b : Nat} {z : Int} (h : Dl w b z) : b < w.heap.size := by
 obtain ⟨A, cap, l, m, h1, _⟩ := h; exact lt_of_block h1
theorem Dl.put {w : World} {b : Nat} {z0 z : Int} {A : Option Addr} {cap : Nat} {l : List Nat} {m : Bool} (h : Dl w b z0) (hf : jg w A cap l m z) :
  Dl ((w.setCell ⟨b, 0, none⟩ (.slice A l.length cap)).setCell ⟨b, 1, none⟩ (.bool m)) b z := by
 obtain ⟨A0, c0, l0, m0, h1, _⟩ := h
 exact ⟨A, cap, l, m, Qy h1, hf.upto h1 (Ki _ _ _ _) (mg _ _ _ _)⟩
theorem Dl.other {w : World} {b b' : Nat} {z z' : Int} (u0 u1 : Value) (h : Dl w b z) (hb : Dl w b' z') (hne : b ≠ b') : Dl ((w.setCell ⟨b', 0, none⟩ u0).setCell ⟨b', 1, none⟩ u1) b z := by
 obtain ⟨A, cap, l, m, h1, h2⟩ := h
 obtain ⟨A0, c0, l0, m0, h3, _⟩ := hb
 have hg := mg w b' u0 u1
 exact ⟨A, cap, l, m, (hg.block b (lt_of_block h1) (fun e => hne (by injection e))).trans h1, h2.upto h3 (Ki _ _ _ _) hg⟩
theorem jg.put {w : World} {b : Nat} {z z' : Int} {A : Option Addr} {cap : Nat} {l : List Nat} {m : Bool} (u0 u1 : Value) (hf : jg w A cap l m z) (hb : Dl w b z') : jg ((w.setCell ⟨b, 0, none⟩ u0).setCell ⟨b, 1, none⟩ u1) A cap l m z := by
 obtain ⟨A0, c0, l0, m0, h1, _⟩ := hb
 exact hf.upto h1 (Ki _ _ _ _) (mg _ _ _ _)

structure Uw (w W : World) (n d : Int) : Prop where
 bn : Dl W w.heap.size n
 bd : Dl W (w.heap.size + 1) d
 bq : W.heap[w.heap.size + 1 + 1]? = some (.cells #[.slice none 0 0, .bool false, .slice none 0 0, .bool false] 68 (0, 0))
 hb : Below w.heap.size w W
theorem Uw.below {w W W' : World} {n d : Int} (h : Uw w W n d) (hb : Below W.heap.size W W') : Uw w W' n d :=
 ⟨h.bn.below hb, h.bd.below hb, (hb.block _ (lt_of_block h.bq)).trans h.bq, bz h.hb hb⟩
theorem Uw.put {w W : World} {n d n' d' : Int} {A1 : Option Addr} {c1 : Nat} {l1 : List Nat} {m1 : Bool} {A2 : Option Addr} {c2 : Nat} {l2 : List Nat} {m2 : Bool} (h : Uw w W n d) (h1 : jg W A1 c1 l1 m1 n') (h2 : jg W A2 c2 l2 m2 d') :
  Uw w ((((W.setCell ⟨w.heap.size, 0, none⟩ (.slice A1 l1.length c1)).setCell ⟨w.heap.size, 1, none⟩ (.bool m1)).setCell ⟨w.heap.size + 1, 0, none⟩ (.slice A2 l2.length c2)).setCell ⟨w.heap.size + 1, 1, none⟩ (.bool m2)) n' d' := by
 have a1 := h.bn.put h1
 have a2 := h.bd.other (.slice A1 l1.length c1) (.bool m1) h.bn om
 have a3 := h2.put (.slice A1 l1.length c1) (.bool m1) h.bn
 have g1 := mg W w.heap.size (.slice A1 l1.length c1) (.bool m1)
 generalize ((W.setCell ⟨w.heap.size, 0, none⟩ (.slice A1 l1.length c1)).setCell ⟨w.heap.size, 1, none⟩ (.bool m1)) = W1 at *
 have b1 := a2.put a3
 have b2 := a1.other (.slice A2 l2.length c2) (.bool m2) a2 om
 have g2 := mg W1 (w.heap.size + 1) (.slice A2 l2.length c2) (.bool m2)
 have q1 := (g1.block _ (lt_of_block h.bq) (fun e => by injection e with e; omega)).trans h.bq
 exact ⟨b2, b1, (g2.block _ (lt_of_block q1) (fun e => by injection e with e; omega)).trans q1,
  (h.hb.grown g1 h.hb.size (fun k hk => by injection hk with hk; omega)).grown g2 (by have := g1.size; have := h.hb.size; omega) (fun k hk => by injection hk with hk; omega)⟩

theorem Uw.keep {w W : World} {n d : Int} (u0 u1 u2 u3 : Value) {A : Option Addr} {cap : Nat} {l : List Nat} {m : Bool} {z : Int} (h : Uw w W n d) (x : jg W A cap l m z) :
  jg ((((W.setCell ⟨w.heap.size, 0, none⟩ u0).setCell ⟨w.heap.size, 1, none⟩ u1).setCell ⟨w.heap.size + 1, 0, none⟩ u2).setCell ⟨w.heap.size + 1, 1, none⟩ u3) A cap l m z :=
 (x.put u0 u1 h.bn).put u2 u3 (h.bd.other u0 u1 h.bn om)

def QR (w : World) (q : Rat) (e : Ending) (w' : World) : Prop := ∃ A1 c1 l1 m1 A2 c2 l2 m2, e = .returned (.agg #[.slice A1 (List.length l1) c1, .bool m1, .slice A2 (List.length l2) c2, .bool m2]) ∧ jg w' A1 c1 l1 m1 q.num ∧ jg w' A2 c2 l2 m2 (q.den : Int) ∧ Below w.heap.size w w'

theorem amx (n d : Int) (hd : 0 < d) : (Rat.divInt n d).num = (if decide (n < 0) = true then -((n.natAbs / (n.natAbs.gcd d.natAbs) : Nat) : Int) else ((n.natAbs / (n.natAbs.gcd d.natAbs) : Nat) : Int)) ∧ ((Rat.divInt n d).den : Int) = ((d.natAbs / (n.natAbs.gcd d.natAbs) : Nat) : Int) := by
 obtain ⟨h1, h2⟩ := Wd.Ng n d om
 rw [Int.sign_eq_one_of_pos hd, Int.one_mul] at h1 h2
 rw [h1, h2]
 generalize n.natAbs.gcd d.natAbs = g
 constructor
 ·
  by_cases hn : n < 0
  ·
   rw [if_pos (decide_eq_true hn)]
   obtain ⟨k, hk⟩ : ∃ k : Nat, n = -(k : Int) := ⟨n.natAbs, by omega⟩
   subst hk
   rw [Int.neg_tdiv, Int.natAbs_neg, Int.natAbs_natCast, Int.ofNat_tdiv]
  ·
   rw [if_neg (by simpa using hn)]
   obtain ⟨k, hk⟩ : ∃ k : Nat, n = (k : Int) := ⟨n.natAbs, by omega⟩
   subst hk
   rw [Int.natAbs_natCast, Int.ofNat_tdiv]
 ·
  obtain ⟨k, hk⟩ : ∃ k : Nat, d = (k : Int) := ⟨d.natAbs, by omega⟩
  subst hk
  rw [Int.natAbs_natCast, Int.ofNat_tdiv]
theorem adm (n d : Int) (hd : d ≠ 0) : Rat.divInt (-n) (-d) = Rat.divInt n d := by
 rw [Rat.divInt_eq_divInt_iff om hd, Int.neg_mul, Int.mul_neg]

structure QV (w : World) (A1 : Option Addr) (c1 : Nat) (l1 : List Nat) (m1 : Bool) (A2 : Option Addr) (c2 : Nat) (l2 : List Nat) (m2 : Bool) (q : Rat) : Prop where
 num : jg w A1 c1 l1 m1 q.num
 den : ∃ d : Int, jg w A2 c2 l2 m2 d ∧ (d = (q.den : Int) ∨ (d = 0 ∧ q.den = 1))
theorem QV.below {w w' : World} {A1 : Option Addr} {c1 : Nat} {l1 : List Nat} {m1 : Bool} {A2 : Option Addr} {c2 : Nat} {l2 : List Nat} {m2 : Bool} {q : Rat} (h : QV w A1 c1 l1 m1 A2 c2 l2 m2 q) (hb : Below w.heap.size w w') : QV w' A1 c1 l1 m1 A2 c2 l2 m2 q := by
 obtain ⟨d, h2, h3⟩ := h.den
 exact ⟨h.num.below hb, d, h2.below hb, h3⟩
theorem QV.of {w : World} {A1 : Option Addr} {c1 : Nat} {l1 : List Nat} {m1 : Bool} {A2 : Option Addr} {c2 : Nat} {l2 : List Nat} {m2 : Bool} {q : Rat} (h1 : jg w A1 c1 l1 m1 q.num) (h2 : jg w A2 c2 l2 m2 (q.den : Int)) : QV w A1 c1 l1 m1 A2 c2 l2 m2 q :=
 ⟨h1, _, h2, .inl rfl⟩
theorem jg.len {w : World} {A : Option Addr} {cap : Nat} {l : List Nat} {m : Bool} {z : Int} {K : Nat} (h : jg w A cap l m z) (hz : z.natAbs < fe ^ K) : l.length ≤ K := h.nat.len hz

theorem Xa (w : World) :
  Calls Tryz.prog 142 #[] w fun e w' => Gu w 1 e w' := by
 go_enter Tryz.func142, Tryz.ntmps142
 go_wp2_with fail
 obtain ⟨n0, n1, hsz, hw0⟩ := ve w (.cells #[.slice (some ⟨w.heap.size + 1, 0, none⟩) 1 1, .bool false] 66) (.cells #[.int .u32 1] 187)
 generalize ((w.alloc (.cells #[.slice (some ⟨w.heap.size + 1, 0, none⟩) 1 1, .bool false] 66)).alloc (.cells #[.int .u32 1] 187)) = W0 at *
 have hz : ZB .u32 W0 (w.heap.size + 1) 187 [1] := n1
 have hn : qw W0 (some ⟨w.heap.size + 1, 0, none⟩) 1 [1] 1 := ⟨hz.Dq _ hz.lt, by simp, by omega, by intro x hx; rw [List.mem_singleton] at hx; subst hx; exact Ck, .inr (by simp), by simp [Wd.val]⟩
 have k0 : W0.cell? ⟨w.heap.size, 0, none⟩ = some (.slice (some ⟨w.heap.size + 1, 0, none⟩) 1 1) := ah n0 0
 have k1 : W0.cell? ⟨w.heap.size, 1, none⟩ = some (.bool false) := ah n0 1
 exact bodyPost_ret (v := .agg #[.slice (some ⟨w.heap.size + 1, 0, none⟩) 1 1, .bool false]) (by simp [results, Tryz.results142, go_sem, k0, k1]) rfl
  ⟨_, 1, [1], false, rfl, ⟨hn, rfl⟩, hw0⟩

theorem aef (A1 : Option Addr) (c1 : Nat) (l1 : List Nat) (m1 : Bool) (A2 : Option Addr) (c2 : Nat) (l2 : List Nat) (m2 : Bool) (w : World) (h2 : jg w A2 c2 l2 m2 0) :
  Calls Tryz.prog 130 #[.agg #[.slice A1 l1.length c1, .bool m1, .slice A2 l2.length c2, .bool m2]] w fun e w' => Gu w 1 e w' := by
 have hl : l2.length = 0 := h2.nat.Ml.1 rfl
 have HI := hide (fun W => Xb A2 c2 l2.length m2 W)
 rw [decide_eq_true hl] at HI
 have HO := hide Xa
 clear h2 hl
 go_enter Tryz.func130, Tryz.ntmps130
 go_wp2_with fail
 obtain ⟨n0, n1, hsz, hw0⟩ := ve w (.cells #[.slice A1 l1.length c1, .bool m1, .slice A2 l2.length c2, .bool m2] 68) (.cells #[.slice none 0 0, .bool false] 66)
 generalize ((w.alloc (.cells #[.slice A1 l1.length c1, .bool m1, .slice A2 l2.length c2, .bool m2] 68)).alloc (.cells #[.slice none 0 0, .bool false] 66)) = W0 at *
 have q1 : w.heap.size + 1 < W0.heap.size := by omega
 have r0 : W0.cell? ⟨w.heap.size + 1, 0, none⟩ = some (.slice none 0 0) := ah n1 0
 have r1 : W0.cell? ⟨w.heap.size + 1, 1, none⟩ = some (.bool false) := ah n1 1
 have f0 := ax n1 0
 have f1 := ax n1 1
 have NR := Lib.hid n1
 clear n0 n1 hsz
 refine ((aa HI) _).mono ?_
 rintro e W1 ⟨rfl, hb⟩
 have HB := hide hb
 clear hb
 go_wp2_with fail
 refine ((aa HO) _).mono ?_
 rintro e w' ⟨A5, c5, l5, m5, rfl, zb, hb2⟩
 have hb := bz (aa HB) hb2
 obtain ⟨hc, hfz⟩ := fo hb
 have hblk : w'.heap[w.heap.size + 1]? = some (.cells #[.slice none 0 0, .bool false] 66 (0, 0)) := (hb.block _ q1).trans NR.out
 have kz := Lib.hid hblk
 have ku : Below w.heap.size w w' := bz hw0 hb
 clear hblk hb2
 go_wp2_with fail
 exact bodyPost_ret (v := .agg #[.slice A5 l5.length c5, .bool m5]) (by simp [results, Tryz.results130, go_sem, hc, r0, r1, q1]) rfl
  ⟨A5, c5, l5, m5, rfl, zb.upto kz.out (Ki _ _ _ _) (mg _ _ _ _), ku.grown (mg _ _ _ _) ku.size (fun k hk => by injection hk with hk; omega)⟩

theorem Tn (A1 : Option Addr) (c1 : Nat) (l1 : List Nat) (m1 : Bool) (A2 : Option Addr) (c2 : Nat) (l2 : List Nat) (m2 : Bool) (q : Rat) (w : World) (h : QV w A1 c1 l1 m1 A2 c2 l2 m2 q) :
  Calls Tryz.prog 130 #[.agg #[.slice A1 l1.length c1, .bool m1, .slice A2 l2.length c2, .bool m2]] w fun e w' => Gu w (q.den : Int) e w' := by
 obtain ⟨d, h2, rfl | ⟨rfl, h1⟩⟩ := h.den
 ·
  refine (ast A1 c1 l1 m1 A2 c2 l2 m2 _ w h2 (by have := q.den_nz; omega)).mono ?_
  rintro e w' ⟨rfl, hb⟩
  exact ⟨A2, c2, l2, m2, rfl, h2.below hb, hb⟩
 ·
  rw [h1]
  exact aef A1 c1 l1 m1 A2 c2 l2 m2 w h2

namespace Wd
structure Jr (B : Nat) (xl yl l : List Nat) (i c : Nat) : Prop where
 len : l.length = i
 lt : ∀ x ∈ l, x < B
 c1 : c ≤ 1
 eq : Wd.val B l + B ^ i * c = Wd.val B (xl.take i) + Wd.val B (yl.take i)
theorem Jr.start (B : Nat) (xl yl : List Nat) : Jr B xl yl [] 0 0 := ⟨rfl, by simp, by omega, by simp [val]⟩
theorem afn {B : Nat} {l : List Nat} {d : Nat} (h : ∀ x ∈ l, x < B) (hd : d < B) : ∀ x ∈ l ++ [d], x < B := by
 intro t ht
 rw [List.mem_append] at ht
 rcases ht with h1 | h1
 ·
  exact h t h1
 ·
  rw [List.mem_singleton] at h1; subst h1; exact hd
theorem Jr.step {B : Nat} {xl yl l : List Nat} {i c x y s : Nat} (hB : 1 < B) (h : Jr B xl yl l i c) (hx : x = xl.getD i 0) (zg : x < B) (hy : y = yl.getD i 0) (Fp : y < B) (hs : s = c + x + y) :
  Jr B xl yl (l ++ [s % B]) (i + 1) (s / B) := by
 have hc := h.c1
 refine ⟨by simp [h.len], afn h.lt (Nat.mod_lt _ om), ?_, ?_⟩
 ·
  exact Nat.lt_succ_iff.1 ((Nat.div_lt_iff_lt_mul om).2 om)
 ·
  rw [zh, h.len, Nat.pow_succ, ma, ma, ← hx, ← hy]
  have e := Nat.mod_add_div s B
  have h1 := h.eq
  have e2 : B ^ i * (s % B) + B ^ i * B * (s / B) = B ^ i * c + B ^ i * x + B ^ i * y := by
   rw [Nat.mul_assoc, ← Nat.mul_add, e, hs, Nat.mul_add, Nat.mul_add]
  omega
theorem Jr.done {B : Nat} {xl yl l : List Nat} {i c : Nat} (h : Jr B xl yl l i c) (hx : xl.length ≤ i) (hy : yl.length ≤ i) : Wd.val B (l ++ [c]) = Wd.val B xl + Wd.val B yl := by
 have h1 := h.eq
 rw [jh _ _ _ hx, jh _ _ _ hy] at h1
 rw [zh, h.len, h1]
structure Js (B : Nat) (xl yl l : List Nat) (i b : Nat) : Prop where
 len : l.length = i
 lt : ∀ x ∈ l, x < B
 b1 : b ≤ 1
 eq : Wd.val B l + Wd.val B (yl.take i) = Wd.val B (xl.take i) + B ^ i * b
theorem Js.start (B : Nat) (xl yl : List Nat) : Js B xl yl [] 0 0 := ⟨rfl, by simp, by omega, by simp [val]⟩
theorem Js.step {B : Nat} {xl yl l : List Nat} {i b x y d b' : Nat} (h : Js B xl yl l i b) (hx : x = xl.getD i 0) (hy : y = yl.getD i 0) (hd : d < B) (hb : b' ≤ 1) (hs : d + y + b = x + B * b') :
  Js B xl yl (l ++ [d]) (i + 1) b' := by
 refine ⟨by simp [h.len], afn h.lt hd, hb, ?_⟩
 rw [zh, h.len, Nat.pow_succ, ma, ma, ← hx, ← hy]
 have h1 := h.eq
 have e2 : B ^ i * d + B ^ i * y + B ^ i * b = B ^ i * x + B ^ i * B * b' := by
  rw [← Nat.mul_add, ← Nat.mul_add, hs, Nat.mul_add, Nat.mul_assoc]
 omega
theorem Js.done {B : Nat} {xl yl l : List Nat} {i b : Nat} (h : Js B xl yl l i b) (hx : xl.length = i) (hy : yl.length ≤ i) (hle : Wd.val B yl ≤ Wd.val B xl) : Wd.val B l = Wd.val B xl - Wd.val B yl := by
 have h1 := h.eq
 rw [jh B xl i om, jh B yl i hy] at h1
 have h2 := zz l h.lt
 rw [h.len] at h2
 have hb := h.b1
 rcases (show b = 0 ∨ b = 1 by omega) with rfl | rfl
 ·
  omega
 ·
  rw [Nat.mul_one] at h1; omega
end Wd





structure Qj (Wp W : World) (b : Nat) : Prop where
 old : Wp.heap.size ≤ b
 zero : W.heap[b]? = some (.cells #[.slice none 0 0, .bool false] 66 (0, 0))
theorem Qj.lt {Wp W : World} {b : Nat} (h : Qj Wp W b) : b < W.heap.size := lt_of_block h.zero
theorem Qj.drew {Wp W : World} {b : Nat} (h : Qj Wp W b) : Qj Wp W.drew b := ⟨h.old, h.zero⟩
theorem Qj.below {Wp W w' : World} {b : Nat} (h : Qj Wp W b) (hb : Below W.heap.size W w') : Qj Wp w' b := ⟨h.old, (hb.block _ h.lt).trans h.zero⟩
theorem Qj.new {Wp W : World} {b : Nat} (hb : Below Wp.heap.size Wp W) (e : b = W.heap.size) : Qj Wp (W.alloc (.cells #[.slice none 0 0, .bool false] 66 (0, 0))) b := by
 subst e; exact ⟨hb.size, heap_alloc_new W _⟩
theorem Qj.alloc {Wp W : World} {b : Nat} {o : Obj} (h : Qj Wp W b) : Qj Wp (W.alloc o) b := ⟨h.old, (Below.heap_alloc W _ b h.lt).trans h.zero⟩
theorem Dl.new {W : World} {b : Nat} {A1 : Option Addr} {c1 : Nat} {l1 : List Nat} {m1 : Bool} {z1 : Int} (h1 : jg W A1 c1 l1 m1 z1) (e : b = W.heap.size) : Dl (W.alloc (.cells #[.slice A1 l1.length c1, .bool m1] 66)) b z1 := by
 subst e; exact ⟨A1, c1, l1, m1, heap_alloc_new W _, h1.below ((Below.refl _ _).alloc (Nat.le_refl _) _)⟩
theorem Dl.alloc {W : World} {b : Nat} {z : Int} {o : Obj} (h : Dl W b z) : Dl (W.alloc o) b z := h.below ((Below.refl _ _).alloc (Nat.le_refl _) _)
theorem jg.alloc {W : World} {o : Obj} {A1 : Option Addr} {c1 : Nat} {l1 : List Nat} {m1 : Bool} {z1 : Int} (h1 : jg W A1 c1 l1 m1 z1) : jg (W.alloc o) A1 c1 l1 m1 z1 := h1.below ((Below.refl _ _).alloc (Nat.le_refl _) _)
def bfy (w : World) (F : Nat) (a b c : Int) : Prop := ∀ (A1 : Option Addr) (c1 : Nat) (l1 : List Nat) (m1 : Bool) (A2 : Option Addr) (c2 : Nat) (l2 : List Nat) (m2 : Bool) (W : World), Below w.heap.size w W → jg W A1 c1 l1 m1 a → jg W A2 c2 l2 m2 b → Calls Tryz.prog F #[(Value.agg #[.slice A1 l1.length c1, .bool m1]), (Value.agg #[.slice A2 l2.length c2, .bool m2])] W fun e w' => Gu W c e w'
def bfz (w : World) (F : Nat) (a b : Int) (q : Rat) : Prop := ∀ (A1 : Option Addr) (c1 : Nat) (l1 : List Nat) (m1 : Bool) (A2 : Option Addr) (c2 : Nat) (l2 : List Nat) (m2 : Bool) (W : World), Below w.heap.size w W → jg W A1 c1 l1 m1 a → jg W A2 c2 l2 m2 b → Calls Tryz.prog F #[(Value.agg #[.slice A1 l1.length c1, .bool m1]), (Value.agg #[.slice A2 l2.length c2, .bool m2])] W fun e w' => QR W q e w'
theorem Oo {w : World} {g : Nat} (u0 u1 u2 u3 : Value) (b o : Nat) (h : b ≠ g) : ((((w.setCell ⟨g, 0, none⟩ u0).setCell ⟨g, 1, none⟩ u1).setCell ⟨g, 2, none⟩ u2).setCell ⟨g, 3, none⟩ u3).cell? ⟨b, o, none⟩ = w.cell? ⟨b, o, none⟩ := by
 rw [zx _ _ _ _ h, zx _ _ _ _ h, zx _ _ _ _ h, zx _ _ _ _ h]

end Go.Proofs.YtfgeaakhlcaibaaGreatDoor
