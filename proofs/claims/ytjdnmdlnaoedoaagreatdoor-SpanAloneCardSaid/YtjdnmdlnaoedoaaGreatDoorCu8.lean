/- Texts beneath a law of layer 1. -/
import Derived.Test.YtjdnmdlnaoedoaaGreatDoorCu7
import Derived.Deep.DeepCutAuto
set_option maxRecDepth 100000
set_option maxHeartbeats 16000000
namespace Go.Proofs.YtjdnmdlnaoedoaaGreatDoor
open Go.RowKit

theorem aqa (y : Nat) (hy : y < eu) (h0 : 0 < y) (w : World) : ∃ s : Nat, s < 32 ∧ 2147483648 ≤ y * 2 ^ s ∧ y * 2 ^ s < eu ∧
  ∀ w : World, Calls Tryz.prog 183 #[.int .u32 ((y : Nat) : Int)] w fun e w' => e = .returned (.int .i64 ((s : Nat) : Int)) ∧ w' = w := by
 obtain ⟨h1, h2⟩ := Rx 64 y (by rw [gp] at hy; omega)
 have h3 := (h2 om).1
 change y < 2 ^ Lib.bitLen y at h1
 change 2 ^ (Lib.bitLen y - 1) ≤ y at h3
 have hle := Lib.bitLen_le y 32 om (by rw [gp] at hy; omega)
 have hpos : 0 < Lib.bitLen y := by
  apply Classical.byContradiction
  intro h
  rw [show Lib.bitLen y = 0 by omega] at h1
  simp at h1; omega
 have e1 : 2 ^ (Lib.bitLen y - 1) * 2 ^ (32 - Lib.bitLen y) = 2147483648 := by
  rw [← Nat.pow_add, show Lib.bitLen y - 1 + (32 - Lib.bitLen y) = 31 by omega]
 have e2 : 2 ^ Lib.bitLen y * 2 ^ (32 - Lib.bitLen y) = eu := by
  rw [← Nat.pow_add, show Lib.bitLen y + (32 - Lib.bitLen y) = 32 by omega]; rfl
 refine ⟨32 - Lib.bitLen y, by omega, ?_, ?_, fun w => ?_⟩
 ·
  rw [← e1]; exact Nat.mul_le_mul_right _ h3
 ·
  rw [← e2]; exact Nat.mul_lt_mul_of_pos_right h1 (Nat.pow_pos om)
 ·
  refine (Tryz.bits_LeadingZeros32 (y : Int) w om (by rw [gp] at hy; omega)).mono ?_
  rintro e w' ⟨rfl, rfl⟩
  refine ⟨wy ?_, rfl⟩
  rw [Int.toNat_natCast]; omega

theorem abr (yl : List Nat) (m s : Nat) (auw : s ≤ 32) (hn : 1 ≤ yl.length) (hlt : ∀ x ∈ yl, x < eu) (hv : Wd.val eu yl = m) (hs1 : yl.getD (yl.length - 1) 0 * 2 ^ s < eu) (ht : yl.getD (yl.length - 1) 0 ≠ 0) :
  eu ^ (yl.length - 1) * 2 ^ s ≤ m * 2 ^ s ∧ m * 2 ^ s < eu ^ yl.length := by
 have h2 := Wd.qp eu yl (yl.length - 1) om
 rw [show yl.length - 1 + 1 = yl.length by omega, Wd.jk _ _ _ (Nat.le_refl _), hv] at h2
 have h3 := Wd.Cf (B := eu) (yl.take (yl.length - 1)) (fun x hx => hlt x (List.mem_of_mem_take hx))
 rw [List.length_take, Nat.min_eq_left om] at h3
 have e : eu ^ yl.length = eu ^ (yl.length - 1) * eu := by rw [← Nat.pow_succ, show (yl.length - 1).succ = yl.length by omega]
 rw [e]
 generalize hP : eu ^ (yl.length - 1) = P at *
 generalize yl.getD (yl.length - 1) 0 = t at *
 have hS : 0 < 2 ^ s := Nat.pow_pos om
 have hsp := De s auw
 generalize 2 ^ s = S at *
 generalize 2 ^ (32 - s) = T at *
 have h6 : t * S + S ≤ eu := by
  rw [← hsp, Nat.mul_comm S] at hs1 ⊢
  have := Nat.lt_of_mul_lt_mul_right hs1
  have h7 : (t + 1) * S ≤ T * S := Nat.mul_le_mul_right _ this
  rwa [Nat.add_mul, Nat.one_mul] at h7
 constructor
 ·
  refine Nat.mul_le_mul_right _ ?_
  have : P * 1 ≤ P * t := Nat.mul_le_mul_left _ om
  omega
 ·
  have h4 : m + 1 ≤ P * (t + 1) := by rw [Nat.mul_add, Nat.mul_one]; omega
  have h5 : (m + 1) * S ≤ P * (t + 1) * S := Nat.mul_le_mul_right _ h4
  rw [Nat.add_mul, Nat.one_mul, Nat.mul_assoc, Nat.add_mul, Nat.one_mul] at h5
  have : P * (t * S + S) ≤ P * eu := Nat.mul_le_mul_left _ h6
  omega

theorem afb (Ax : Option Addr) (cx : Nat) (xl : List Nat) (n s : Nat) (w : World) (hx : qo w Ax cx xl n) (hs : s < 32) (hk : xl.length + 1 ≤ 35184372088832) :
  Calls Tryz.prog 184 #[.slice Ax xl.length cx, .int .u64 ((s : Nat) : Int)] w fun e w' =>
   ∃ b zr, e = .returned (.slice (some ⟨b, 0, none⟩) (xl.length + 1) (xl.length + 1)) ∧ w.heap.size ≤ b ∧ zr.length = xl.length + 1 ∧ (∀ x ∈ zr, x < eu) ∧ Wd.val eu zr = n * 2 ^ s ∧ ZB .u32 w' b 156 zr ∧ Below w.heap.size w w' :=
 (aiu Ax cx xl n s w hx hs hk).mono fun e w' ⟨zr, h1, h2, h3, h4, h5, h6⟩ => ⟨w.heap.size, zr, h1, Nat.le_refl _, h2, h3, h4, h5, h6⟩
end Go.Proofs.YtjdnmdlnaoedoaaGreatDoor
namespace Go.Proofs.YtjdnmdlnaoedoaaGreatDoor
open Go.RowKit

theorem als (Ax Ay : Option Addr) (cx cy : Nat) (xl yl : List Nat) (n m : Nat) (w : World) (hx : qo w Ax cx xl n) (hy : qo w Ay cy yl m) (hge : ¬ n < m) (hk : xl.length + 1 ≤ 35184372088832) (hk2 : yl.length + 1 ≤ 35184372088832) (hn2 : 2 ≤ yl.length) :
  Calls Tryz.prog 158 #[.slice Ax xl.length cx, .slice Ay yl.length cy] w fun e w' => abg w (n / m) (n % m) e w' := by
 have hx1 := hx.tu; have hx2 := hx.cap2; have hy1 := hy.tu; have hy2 := hy.cap2
 have hny : yl.length ≤ xl.length := by
  rcases Nat.lt_or_ge xl.length yl.length with h | h
  ·
   exfalso; apply hge; rw [← hx.val, ← hy.val]; exact Wd.zu Am xl yl hx.lt hy.norm h
  ·
   exact h
 have hc := Hf Ax Ay cx cy xl yl n m w hx hy
 obtain ⟨o3, ho3⟩ : ∃ o, o = uk n m := ⟨_, rfl⟩
 rw [← ho3] at hc
 have ho : decide (o3 < 0) = false := decide_eq_false (by rw [ho3]; unfold uk; rw [if_neg hge]; split <;> omega)
 have HC := hide hc
 have hb1 : ((yl.length : Int) == 1) = false := by simp; omega
 obtain ⟨by', oy, hA, hby, hcy⟩ := hy.ws om
 subst hA
 have hyt := hcy (yl.length - 1) om
 obtain ⟨yt, Ie⟩ : ∃ t, t = Wd.g yl (yl.length - 1) := ⟨_, rfl⟩
 rw [← Ie] at hyt
 have Ch : yt < eu := by rw [Ie]; exact Wd.getD_lt (by rw [gp]; omega) _ hy.lt _
 have hy0 : yt ≠ 0 := by
  rw [Ie]
  rcases hy.norm with h | h
  ·
   rw [h] at hn2; simp at hn2
  ·
   exact h
 have hm : 0 < m := by
  rcases Nat.eq_zero_or_pos m with h | h
  ·
   exfalso
   have h1 := asl (B := eu) yl yl.length om rfl
   rw [hy.val, h] at h1
   have h2 : 0 < eu ^ (yl.length - 1) := Nat.pow_pos (by rw [gp]; omega)
   have h3 := Nat.mul_pos (Nat.pos_of_ne_zero (show yl.getD (yl.length - 1) 0 ≠ 0 by rw [← Wd.qz, ← Ie]; exact hy0)) h2
   omega
  ·
   exact h
 obtain ⟨s, hs, hs1, hs2, hlz⟩ := aqa yt Ch om w
 obtain ⟨vb1, vb2⟩ := abr yl m s om om hy.lt hy.val (by rw [← Wd.qz, ← Ie]; exact hs2) (by rw [← Wd.qz, ← Ie]; exact hy0)
 obtain ⟨lq, hlq⟩ : ∃ t, t = xl.length + 1 - yl.length := ⟨_, rfl⟩
 have Zc : ((lq : Nat) : Int) = (xl.length : Int) + 1 - (yl.length : Int) := by omega
 have hmk := aaj lq om
 rw [Zc] at hmk
 have bki : lq + yl.length = xl.length + 1 := by omega
 have es : IntKind.u64.wrap (s : Int) = (s : Int) := jf rfl (by rw [ic]; omega)
 have HLZ := hide hlz
 have HLQ := Lib.hid Zc
 have HYT := Lib.hid Ie
 have Um := hide vb1; have Nn := hide vb2
 clear hlz Ie hcy vb1 vb2 hs1 hs2 Zc hlq hc ho3 hge
 go_enter Tryz.func158, Tryz.ntmps158
 go_wp2_with fail
 refine (aa HC).mono ?_
 rintro e w' ⟨rfl, k, rfl⟩
 go_wp2_with fail
 refine ((aa HLZ) _).mono ?_
 rintro e w1 ⟨rfl, hw1⟩
 have Jb : Below w.heap.size w w1 := by rw [hw1]; exact qb (Below.refl _ _) k
 clear hw1
 go_wp2_with fail
 refine (afb Ax cx xl n s w1 (hx.below Jb) hs hk).mono ?_
 rintro e w2 ⟨bu, uz, rfl, hbu, Mi, auq, huv, Yh, hb2⟩
 have bjw := (hy.below Jb).below hb2
 have HUL := Lib.hid Mi
 have Ki := Lib.hid huv
 clear Mi huv
 go_wp2_with fail
 refine (afb _ cy yl m s w2 bjw hs hk2).mono ?_
 rintro e w4 ⟨bv, vz, rfl, hbv, hvl, Zb, hvv, Rt, hb3⟩
 have HVL := Lib.hid hvl; have HVV := Lib.hid hvv
 have bql : bu < bv := Nat.lt_of_lt_of_le Yh.lt hbv
 replace Yh := Yh.below hb3 Yh.lt
 clear hvl hvv
 go_wp2_with fail
 have htr := Ck (some ⟨bv, 0, none⟩) vz.length vz w4.heap.size w4 (Rt.Et _ Rt.lt) (Nat.le_refl _) (by have := HVL.out; omega)
 rw [HVL.out] at htr
 refine htr.mono ?_
 rintro e w3 ⟨⟨kv, rfl, ht, hkv⟩, hw3⟩
 obtain rfl : w4 = w3 := hw3.symm
 clear hw3
 have Gu : (vz.take kv).length = yl.length := by
  refine Ye Am _ ht.norm (fun x hx => Zb x (List.mem_of_mem_take hx)) _ om ?_ ?_
  ·
   rw [ht.val, HVV.out]; exact Nat.le_trans (Nat.le_mul_of_pos_right _ (Nat.pow_pos om)) (aa Um)
  ·
   rw [ht.val, HVV.out]; exact aa Nn
 have auz : kv = yl.length := by have := HVL.out; rw [List.length_take] at Gu; omega
 subst auz
 have HT := hide ht; have HVN := Lib.hid Gu
 have Zd : Below w.heap.size w w4 := Jb.trans ((hb2.mono Jb.size).trans (hb3.mono (Nat.le_trans Jb.size hb2.size)))
 clear ht Gu
 obtain ⟨V, hV⟩ : ∃ t, t = m * 2 ^ s := ⟨_, rfl⟩
 have aav : Wd.val eu (vz.take yl.length) = V := by rw [(aa HT).val, HVV.out, hV]
 have agz : V < eu ^ yl.length := by rw [hV]; exact aa Nn
 have Jp : 0 < V := by rw [hV]; exact Nat.mul_pos hm (Nat.pow_pos om)
 have htop : Wd.val eu uz < V * eu ^ lq := by
  rw [Ki.out, hV]
  have h1 := Wd.Cf xl hx.lt
  rw [hx.val] at h1
  have h2 := aa Um
  have h3 : eu ^ (yl.length - 1) * eu ^ lq = eu ^ xl.length := by rw [← Nat.pow_add, show yl.length - 1 + lq = xl.length by omega]
  have h4 : eu ^ (yl.length - 1) * 2 ^ s * eu ^ lq ≤ m * 2 ^ s * eu ^ lq := Nat.mul_le_mul_right _ h2
  have h5 : n * 2 ^ s < eu ^ xl.length * 2 ^ s := Nat.mul_lt_mul_of_pos_right h1 (Nat.pow_pos om)
  have h6 : eu ^ (yl.length - 1) * 2 ^ s * eu ^ lq = eu ^ xl.length * 2 ^ s := by
   rw [← h3]; simp only [Nat.mul_comm, Nat.mul_left_comm, Nat.mul_assoc]
  omega
 have hstart : Wd.Al eu V uz uz (List.replicate lq 0) lq := Wd.Al.start _ _ _ auq (Kk (by rw [gp]; omega) _) (by simp) htop
 have ame : Ws .u32 w4 (bv + 1) (some ⟨bv, 0, none⟩) (vz.take yl.length) := (Rt.Et _ (Nat.lt_succ_self _)).Qh _
 have hgt : ∀ i, i < yl.length → Wd.g vz i = Wd.g (vz.take yl.length) i := fun i hi => by rw [Wd.qz, Wd.qz, Wd.getD_take _ _ _ hi]
 have hvt := Rt.cell (yl.length - 1) (by have := HVL.out; omega)
 have aup := Rt.cell (yl.length - 2) (by have := HVL.out; omega)
 rw [hgt _ om] at hvt aup
 obtain ⟨top, htp⟩ : ∃ t, t = Wd.g (vz.take yl.length) (yl.length - 1) := ⟨_, rfl⟩
 obtain ⟨next, hnx⟩ : ∃ t, t = Wd.g (vz.take yl.length) (yl.length - 2) := ⟨_, rfl⟩
 rw [← htp] at hvt
 rw [← hnx] at aup
 have Ul : top < eu := by rw [htp]; exact Wd.getD_lt (by rw [gp]; omega) _ (fun x hx => Zb x (List.mem_of_mem_take hx)) _
 have hnB : next < eu := by rw [hnx]; exact Wd.getD_lt (by rw [gp]; omega) _ (fun x hx => Zb x (List.mem_of_mem_take hx)) _
 have et : IntKind.u64.wrap (top : Int) = (top : Int) := jf rfl (by rw [gp] at Ul; rw [ic]; omega)
 have en : IntKind.u64.wrap (next : Int) = (next : Int) := jf rfl (by rw [gp] at hnB; rw [ic]; omega)
 have hv4 : bv < w4.heap.size := Rt.lt
 have hu4 : bu < w4.heap.size := Yh.lt
 have f1 : IntKind.i64.wrap ((yl.length : Int) - 1) = (yl.length : Int) - 1 := IntWalk.i64_in _ om
 have f2 : (0 : Int) ≤ (yl.length : Int) - 1 := by omega
 have f3 : ((yl.length : Int) - 1).toNat = yl.length - 1 := by omega
 have f4 : IntKind.i64.wrap ((yl.length : Int) - 2) = (yl.length : Int) - 2 := IntWalk.i64_in _ om
 have f5 : (0 : Int) ≤ (yl.length : Int) - 2 := by omega
 have f6 : ((yl.length : Int) - 2).toNat = yl.length - 2 := by omega
 have i1 : ¬ (bv = w4.heap.size) := by omega
 have i2 : ¬ (w4.heap.size = bv) := by omega
 have Ui := Lib.hid aav; have aif := hide agz; have HV0 := hide Jp; have awe := Lib.hid hV; have HST := hide hstart
 have HTP := Lib.hid htp; have HNX := Lib.hid hnx; have Zn := hide (And.intro hv4 hu4)
 have bkj : 0 < lq := by omega
 clear aav agz hV hstart htop hyt hy0 htp hnx hgt Ul hnB
 go_wp2_with fail
 go_quiet (fail)
 go_wp2_with fail
 go_loopw [16] (fun iv wr => ∃ (i : Int) (us qs : List Nat), -1 ≤ i ∧ i < lq ∧ iv = .int .i64 i ∧ Hid (Wd.Al eu V uz us qs (i + 1).toNat) ∧ Hid (qs.length = lq) ∧ ZB .u32 wr bu 156 us ∧ ZB .u32 wr w4.heap.size 156 qs ∧ Ws .u32 wr (bv + 1) (some ⟨bv, 0, none⟩) (vz.take yl.length) ∧ Below w.heap.size w wr ∧ w4.heap.size < wr.heap.size) (fun iv _ => (intOf iv + 1).toNat)
 case atStart =>
  refine ⟨(lq : Int) - 1, uz, List.replicate lq 0, by omega, by omega, rfl, ?_, by show _ = _; simp, (Yh.alloc _).drewN _, ZB.drewN (heap_alloc_new w4 _) _, (ame.alloc om _).drewN _, qb (Zd.alloc Zd.size _) _, by show w4.heap.size < (w4.alloc _).heap.size; simp⟩
  rw [show ((lq : Int) - 1 + 1).toNat = lq by omega]
  exact HST
 case round =>
  clear Yh Rt ame hvt aup
  obtain ⟨i, us, qs, hi1, hi2, rfl, HI, Mw, Pn, hqz, Yg, hbr, auu⟩ := hrel
  obtain ⟨wo, rfl⟩ : ∃ wo : World, wo = wr := ⟨_, rfl⟩
  by_cases h0 : i < 0
  ·
   have e : i = -1 := by omega
   subst e
   obtain ⟨v1, v2⟩ := HI.out.done
   have hS : 0 < 2 ^ s := Nat.pow_pos om
   obtain ⟨sd1, sd2⟩ := Wd.Sw (N := n) (Y := m) (S := 2 ^ s) hS
   rw [Ki.out, awe.out] at v1 v2
   rw [sd1] at v1
   have v3 : Wd.val eu us / 2 ^ s = n % m := by rw [v2]; exact sd2
   have V1 := Lib.hid v1; have V3 := Lib.hid v3
   have La : us.length = xl.length + 1 := HI.out.Cw.trans HUL.out
   have awi := hide HI.out.lt; have awh := hide HI.out.ltq
   have Lb := Ck (some ⟨bu, 0, none⟩) us.length us wo.heap.size wo (Pn.Et _ Pn.lt) (Nat.le_refl _) om
   rw [La] at Lb
   have T2 := hide Lb
   have Re := Lib.hid La
   clear v1 v2 sd1 sd2 v3 Lb La HI Yg
   go_wp2_with fail
   refine (aa T2).mono ?_
   rintro e w6 ⟨⟨k2, rfl, ht2, bcp⟩, Vn⟩
   obtain rfl : wo = w6 := Vn.symm
   clear Vn
   obtain ⟨rl, hrl⟩ : ∃ l, l = us.take k2 := ⟨_, rfl⟩
   have hrlen : rl.length = k2 := by rw [hrl, List.length_take]; have := Re.out; omega
   have hrv : Wd.val eu rl = Wd.val eu us := by rw [hrl]; exact ht2.val _
   have bch : ∀ x ∈ rl, x < eu := fun x hx => (aa awi) x (by rw [hrl] at hx; exact List.mem_of_mem_take hx)
   have hwin : win us 0 rl = us := by
    have := Kl us 0 k2 (by have := Re.out; omega)
    rw [List.drop_zero, ← hrl] at this
    exact this
   have bqd : k2 ≤ us.length := by rw [Re.out]; exact bcp
   have HRV := Lib.hid hrv; have awf := hide bch; have blu := Lib.hid hwin; have abk := Lib.hid hrlen
   have bqc : k2 ≤ xl.length + 1 := by have := Re.out; omega
   have HQZ := hide hqz
   clear hrv bch hwin hrlen hrl ht2 bcp T2
   go_wp2_with fail
   go_loopw [18] (fun iv wr => ∃ (i : Nat) (zc : List Nat), i ≤ k2 ∧ iv = .int .i64 ((i : Nat) : Int) ∧ Hid (Wd.Eg eu (2 ^ s) rl zc i) ∧ Hid (∀ j, i ≤ j → zc.getD j 0 = rl.getD j 0) ∧ ZB .u32 wr bu 156 (win us 0 zc) ∧ Hid (ZB .u32 wr w4.heap.size 156 qs) ∧ Below w.heap.size w wr) (fun iv _ => k2 - (intOf iv).toNat)
   case atStart => exact ⟨0, rl, Nat.zero_le _, rfl, Wd.Eg.start _ _ rfl (aa awf), fun _ _ => rfl, by rw [blu.out]; exact Pn, HQZ, hbr⟩
   case round =>
    clear Pn hqz HQZ hbr
    obtain ⟨i, zc, hi, rfl, HI, Ga, mh, HQZ, hbr⟩ := hrel
    have hzl : zc.length = k2 := HI.out.len.trans abk.out
    by_cases hlt : i < k2
    ·
     have gz : ∀ t, t < k2 → Wd.g (win us 0 zc) t = Wd.g zc t := fun t ht => by
      have := Lh us 0 zc om t om
      rwa [Nat.zero_add] at this
     obtain ⟨x, hx'⟩ : ∃ t, t = Wd.g rl i := ⟨_, rfl⟩
     have Eo := mh.cell i (by rw [win_length _ _ _ om]; omega)
     rw [gz i hlt, show Wd.g zc i = Wd.g rl i from Ga.out i (Nat.le_refl _), ← hx'] at Eo
     have Pj := mh.frozen i
     have yo : x < eu := by rw [hx']; exact Wd.getD_lt (by rw [gp]; omega) _ (aa awf) _
     obtain ⟨v, hv⟩ : ∃ t, t = x / 2 ^ s := ⟨_, rfl⟩
     have hvB : v < eu := Nat.lt_of_le_of_lt (by rw [hv]; exact Nat.div_le_self _ _) yo
     have m1 : (x : Int) / 2 ^ s = (v : Int) := by rw [hv]; simp
     have m1' : (x : Int) / 2 ^ (min s 32) = (v : Int) := by rw [Nat.min_eq_left om]; exact m1
     have hset : ∀ (W : World) (y : Nat), ZB .u32 W bu 156 (win us 0 zc) → ZB .u32 (W.setCell ⟨bu, i, none⟩ (.int .u32 (y : Int))) bu 156 (win us 0 (zc.set i y)) := fun W y h => by
      have := Hd us 0 zc om i y om
      rw [Nat.zero_add] at this
      rw [← this]
      exact h.Dl _ _
     by_cases hin : i + 1 < k2
     ·
      have d1 : decide ((i : Int) + 1 < (k2 : Int)) = true := decide_eq_true om
      have d1' : decide (i + 1 < k2) = true := decide_eq_true hin
      obtain ⟨x2, agi⟩ : ∃ t, t = Wd.g rl (i + 1) := ⟨_, rfl⟩
      have bjx := mh.cell (i + 1) (by rw [win_length _ _ _ om]; omega)
      rw [gz (i + 1) hin, show Wd.g zc (i + 1) = Wd.g rl (i + 1) from Ga.out (i + 1) om, ← agi] at bjx
      have aum : x2 < eu := by rw [agi]; exact Wd.getD_lt (by rw [gp]; omega) _ (aa awf) _
      obtain ⟨p, Be⟩ : ∃ t, t = x2 * 2 ^ (32 - s) := ⟨_, rfl⟩
      obtain ⟨lo, hlo⟩ : ∃ t, t = p % eu := ⟨_, rfl⟩
      obtain ⟨v2, hv2⟩ : ∃ t, t = v + lo := ⟨_, rfl⟩
      have Rv : p < fo := by
       have h1 : 2 ^ (32 - s) ≤ 2 ^ 32 := Nat.pow_le_pow_right om om
       have h2 : x2 * 2 ^ (32 - s) ≤ x2 * 2 ^ 32 := Nat.mul_le_mul_left _ h1
       rw [Be]; rw [gp] at aum; rw [ic]; omega
      have hlo2 : lo = x2 % 2 ^ s * 2 ^ (32 - s) := by
       rw [hlo, Be, ← De s om, Nat.mul_mod_mul_right]
      have hvT : v < 2 ^ (32 - s) := by
       rw [hv, Nat.div_lt_iff_lt_mul (Nat.pow_pos om), Nat.mul_comm, De s om]; exact yo
      have Kb : lo < eu := by rw [hlo]; exact Nat.mod_lt _ (by rw [gp]; omega)
      have m2 : IntKind.u64.wrap (x2 : Int) = (x2 : Int) := jf rfl (by rw [gp] at aum; rw [ic]; omega)
      have m3 : IntKind.u64.wrap (32 - (s : Int)) = ((32 - s : Nat) : Int) := jf om (by rw [ic]; omega)
      have m4 : IntKind.u64.wrap ((x2 : Int) * 2 ^ (32 - s)) = (p : Int) := jf (by rw [Be]; simp) Rv
      have m4' : IntKind.u64.wrap ((x2 : Int) * 2 ^ (min (32 - s) 64)) = (p : Int) := by rw [Nat.min_eq_left om]; exact m4
      have m5 : (p : Int) % 4294967296 = (lo : Int) := by rw [hlo, gp]; omega
      have m6 : IntKind.u32.wrap (p : Int) = (lo : Int) := by rw [Cj, hlo]
      have m7 : Go.bits .or .u32 (v : Int) (lo : Int) = (v2 : Int) := by rw [Qu v lo hvB Kb, hv2, hlo2, Oi hvT]
      have hfin : ∀ W, W = (wr.setCell ⟨bu, i, none⟩ (.int .u32 (v : Int))).setCell ⟨bu, i, none⟩ (.int .u32 (v2 : Int)) → Hid (Wd.Eg eu (2 ^ s) rl (zc.set i v2) (i + 1)) ∧ Hid (∀ j, i + 1 ≤ j → (zc.set i v2).getD j 0 = rl.getD j 0) ∧ ZB .u32 W bu 156 (win us 0 (zc.set i v2)) ∧ Hid (ZB .u32 W w4.heap.size 156 qs) ∧ Below w.heap.size w W := by
       rintro W rfl
       have hne : w4.heap.size ≠ bu := by have := (aa Zn).2; omega
       have hbw : w.heap.size ≤ bu := Nat.le_trans Jb.size hbu
       refine ⟨?_, fun j hj => ?_, ?_, ?_, ?_⟩
       ·
        have := HI.out.step (De s om) (Nat.pow_pos om) (by rw [abk.out]; exact hlt) (by rw [← Wd.qz, ← hx']; exact yo)
        rw [← Wd.qz, ← Wd.qz, ← hx', ← agi, ← hv, ← hlo2, ← hv2] at this
        exact this
       ·
        simp only [List.getD]
        rw [List.getElem?_set_ne om]
        exact Ga.out j om
       ·
        have h1 := hset wr v mh
        have h2 := Hd us 0 (zc.set i v) (by rw [List.length_set]; omega) i v2 (by rw [List.length_set]; omega)
        rw [Nat.zero_add, List.set_set] at h2
        rw [← h2]
        exact h1.Dl _ _
       ·
        exact (Below.heap_setCell _ _ _ w4.heap.size hne).trans ((Below.heap_setCell _ _ _ w4.heap.size hne).trans (aa HQZ))
       ·
        exact (hbr.setCell (p := ⟨bu, i, none⟩) hbw _).setCell (p := ⟨bu, i, none⟩) hbw _
      have HF := hide hfin
      have aul := hset wr v mh
      have bkp := aul.cell i (by rw [win_length _ _ _ (by rw [List.length_set]; omega)]; omega)
      have bcs : Wd.g (win us 0 (zc.set i v)) i = v := by
       have := Lh us 0 (zc.set i v) (by rw [List.length_set]; omega) i (by rw [List.length_set]; omega)
       rw [Nat.zero_add] at this
       rw [this, Wd.qz, List.getD, List.getElem?_set_self om]; rfl
      rw [bcs] at bkp
      have bby := aul.frozen i
      have bko := aul.cell (i + 1) (by rw [win_length _ _ _ (by rw [List.length_set]; omega)]; omega)
      have bcr : Wd.g (win us 0 (zc.set i v)) (i + 1) = x2 := by
       have := Lh us 0 (zc.set i v) (by rw [List.length_set]; omega) (i + 1) (by rw [List.length_set]; omega)
       rw [Nat.zero_add] at this
       rw [this, Wd.qz, List.getD, List.getElem?_set_ne om]
       exact (Ga.out (i + 1) om).trans agi.symm
      rw [bcr] at bko
      clear hset hfin hx' agi hv hv2 hlo hlo2 Be mh gz bcs bcr hvT yo aum hvB Kb Rv hbr
      go_wp2_with fail
      have hii : IntKind.i64.wrap ((i : Int) + 1) = (i : Int) + 1 := IntWalk.i64_in _ om
      have hi1 : (0 : Int) ≤ (i : Int) + 1 := by omega
      have hi2 : ((i : Int) + 1).toNat = i + 1 := by omega
      have hi3 : (i : Int) + 1 < (k2 : Int) := by omega
      go_region
      all_goals
       go_wp2_with fail
       go_roundw
       case rel =>
        obtain ⟨r1, r2, r3, r4, r5⟩ := (aa HF) _ rfl
        exact ⟨i + 1, _, by omega, by go_num, r1, r2, r3, r4, by first | exact r5 | exact r5.drew⟩
       case measure => simp [intOf] <;> omega
     ·
      have d1 : decide ((i : Int) + 1 < (k2 : Int)) = false := decide_eq_false om
      have d1' : decide (i + 1 < k2) = false := decide_eq_false hin
      have hfin : ∀ W, W = wr.setCell ⟨bu, i, none⟩ (.int .u32 (v : Int)) → Hid (Wd.Eg eu (2 ^ s) rl (zc.set i v) (i + 1)) ∧ Hid (∀ j, i + 1 ≤ j → (zc.set i v).getD j 0 = rl.getD j 0) ∧ ZB .u32 W bu 156 (win us 0 (zc.set i v)) ∧ Hid (ZB .u32 W w4.heap.size 156 qs) ∧ Below w.heap.size w W := by
       rintro W rfl
       have hne : w4.heap.size ≠ bu := by have := (aa Zn).2; omega
       have hbw : w.heap.size ≤ bu := Nat.le_trans Jb.size hbu
       refine ⟨?_, fun j hj => ?_, hset _ _ mh, ?_, ?_⟩
       ·
        have := HI.out.step (De s om) (Nat.pow_pos om) (by rw [abk.out]; exact hlt) (by rw [← Wd.qz, ← hx']; exact yo)
        have h0 : rl.getD (i + 1) 0 = 0 := by simp only [List.getD]; rw [List.getElem?_eq_none (by rw [abk.out]; omega)]; rfl
        rw [h0, Nat.zero_mod, Nat.zero_mul, Nat.add_zero, ← Wd.qz, ← hx', ← hv] at this
        exact this
       ·
        simp only [List.getD]
        rw [List.getElem?_set_ne om]
        exact Ga.out j om
       ·
        exact (Below.heap_setCell _ _ _ w4.heap.size hne).trans (aa HQZ)
       ·
        exact hbr.setCell (p := ⟨bu, i, none⟩) hbw _
      have HF := hide hfin
      clear hset hfin hx' hv mh gz yo hvB hbr
      go_wp2_with fail
      go_roundw
      case rel =>
       obtain ⟨r1, r2, r3, r4, r5⟩ := (aa HF) _ rfl
       exact ⟨i + 1, _, by omega, by go_num, r1, r2, r3, r4, r5⟩
      case measure => simp [intOf] <;> omega
    ·
     have e : i = k2 := by omega
     subst e
     have hdn : Wd.val eu zc = n % m := by
      have h1 := HI.out
      rw [← abk.out] at h1
      rw [h1.done (De s om) (Nat.pow_pos om), HRV.out, V3.out]
     have hwt : (win us 0 zc).take i = zc := by simp [win, ← hzl]
     have hwz : Ws .u32 wr (bu + 1) (some ⟨bu, 0, none⟩) zc := by
      have := (mh.Et _ (Nat.lt_succ_self _)).Qh i
      rwa [hwt] at this
     have HDN := Lib.hid hdn; have HWZ := hide hwz
     have hzs : bu < wr.heap.size := mh.lt
     have bcl : ∀ x ∈ zc, x < eu := HI.out.lt
     have blw := hide bcl
     have hqz := aa HQZ
     have Lb := Ck (some ⟨w4.heap.size, 0, none⟩) qs.length qs wr.heap.size wr (hqz.Et _ hqz.lt) (Nat.le_refl _) (by rw [Mw.out]; omega)
     rw [Mw.out] at Lb
     have T3 := hide Lb
     clear hdn hwt hwz bcl Lb hqz mh
     go_wp2_with fail
     refine (aa T3).mono ?_
     rintro e w6 ⟨⟨k3, rfl, ht2, hk3⟩, Vn⟩
     obtain rfl : wr = w6 := Vn.symm
     clear Vn
     have q1 := qo.Ct (cap := lq) (aa HQZ) (aa awh) ht2 (by rw [Mw.out]; exact hk3) (by rw [Mw.out]; omega) om
     rw [V1.out] at q1
     have Q1 := hide q1
     have bco : k3 = (qs.take k3).length := by rw [List.length_take, Mw.out]; omega
     have HK3 := Lib.hid bco
     clear ht2 q1 T3 bco
     have aur := Ck (some ⟨bu, 0, none⟩) (xl.length + 1) zc (bu + 1) wr (aa HWZ) om om
     rw [hzl] at aur
     have T4 := hide aur
     clear aur
     go_wp2_with fail
     refine (aa T4).mono ?_
     rintro e w6 ⟨⟨k4, rfl, ht4, hk4⟩, Vn⟩
     obtain rfl : wr = w6 := Vn.symm
     clear Vn
     have q2 : qo wr (some ⟨bu, 0, none⟩) (xl.length + 1) (zc.take k4) (n % m) := by
      refine ⟨(((aa HWZ).Qh k4).more om), by rw [List.length_take]; omega, by omega, fun x hx => (aa blw) x (List.mem_of_mem_take hx), ht4.norm, ?_⟩
      rw [ht4.val, HDN.out]
     have Q2 := hide q2
     have bcn : k4 = (zc.take k4).length := by rw [List.length_take]; omega
     have HK4 := Lib.hid bcn
     clear ht4 q2 T4 bcn
     go_wp2_with fail
     go_ret2
     exact ⟨some ⟨w4.heap.size, 0, none⟩, lq, qs.take k3, some ⟨bu, 0, none⟩, xl.length + 1, zc.take k4, Sy HK3.out HK4.out, aa Q1, aa Q2, hbr⟩
  ·
   obtain ⟨j, rfl⟩ := Int.eq_ofNat_of_zero_le (show 0 ≤ i by omega)
   have hinv : Wd.Al eu V uz us qs (j + 1) := by have := HI.out; rwa [show ((j : Int) + 1).toNat = j + 1 by omega] at this
   have La : us.length = xl.length + 1 := hinv.Cw.trans HUL.out
   have hql := Mw.out
   have hqc := hqz.cell j om
   have hqf := hqz.frozen j
   have Uj := hide hinv; have Re := Lib.hid La
   obtain ⟨wd1, wd2, wd3⟩ := hinv.window Am (aa aif)
   have hwl : ((us.drop j).take (yl.length + 1)).length = yl.length + 1 := by rw [List.length_take, List.length_drop]; omega
   have hpre : Jq ((us.drop j).take (yl.length + 1)) (vz.take yl.length) yl.length := by
    refine ⟨hn2, HVN.out, hwl, fun x hx => hinv.lt x (List.mem_of_mem_drop (List.mem_of_mem_take hx)), fun x hx => Zb x (List.mem_of_mem_take hx), ?_, by rw [Ui.out]; exact wd2⟩
    rcases (aa HT).norm with h | h
    ·
     have := HVN.out; rw [h] at this; simp at this; omega
    ·
     rwa [HVN.out] at h
   have hds := akt bu j (xl.length + 1 - j) 156 yl.length us ((us.drop j).take (yl.length + 1)) (vz.take yl.length) (some ⟨bv, 0, none⟩) (yl.length + 1) (bv + 1) top next wo Pn om (by rw [hwl]) om om Yg (fun b o e => by injection e with e; injection e with e; omega) (by have := (aa Zn).1; omega) (by simp; omega) om hpre HTP.out HNX.out
   have HDS := hide hds
   clear hds
   have hfin : ∀ (W : World) (zr : List Nat) (q : Nat), StepT ((us.drop j).take (yl.length + 1)) (vz.take yl.length) zr q → Hid (Wd.Al eu V uz (win us j zr) (qs.set j q) j) := fun W zr q hok => by
    have hzl : zr.length = yl.length + 1 := hok.len.trans hwl
    refine hinv.step (n := yl.length) Am (aa aif) (aa HV0) om ?_ ?_ ?_ ?_ ?_
    ·
     rw [hok.quo, Ui.out]
    ·
     have e1 : (win us j zr).drop j = zr ++ us.drop (j + zr.length) := by
      simp only [win, List.append_assoc]
      rw [List.drop_append_of_le_length (by simp; omega), List.drop_of_length_le (by simp; omega), List.nil_append]
     have e2 : Wd.val eu (us.drop (j + zr.length)) = 0 := by
      have h1 := Wd.Qe eu (us.drop j) (yl.length + 1)
      rw [wd3, List.drop_drop] at h1
      have h2 : 0 < eu ^ min (yl.length + 1) (us.drop j).length := Nat.pow_pos (by rw [gp]; omega)
      rw [hzl]
      rcases Nat.eq_zero_or_pos (Wd.val eu (us.drop (j + (yl.length + 1)))) with h | h
      ·
       exact h
      ·
       have := Nat.mul_pos h2 h; omega
     rw [e1, Wd.val_append, e2, Nat.mul_zero, Nat.add_zero, hok.rem, Ui.out]
    ·
     rw [win_length _ _ _ om]
    ·
     intro x hx
     simp only [win, List.append_assoc, List.mem_append] at hx
     rcases hx with h | h | h
     ·
      exact hinv.lt x (List.mem_of_mem_take h)
     ·
      exact hok.lt x h
     ·
      exact hinv.lt x (List.mem_of_mem_drop h)
    ·
     intro t ht
     simp only [win, List.append_assoc, List.getD]
     rw [List.getElem?_append_left (by simp; omega), List.getElem?_take, if_pos ht]
   have Je := hide hfin
   clear hinv La hql HI wd1 wd2 wd3 hfin hpre
   go_wp2_with fail
   rw [show j + yl.length + 1 - j = yl.length + 1 by omega]
   refine (aa HDS).mono ?_
   rintro e w5 ⟨zr, q, rfl, hok, Nk, agk, hg5⟩
   have aml := (aa Je) w5 zr q hok
   have Tu := hqz.grown hg5 (by intro h; injection h with h; have := (aa Zn).2; omega)
   have bkb := Tu.cell j (by have := Mw.out; omega)
   have bka := Tu.frozen j
   have hv5 : Ws .u32 w5 (bv + 1) (some ⟨bv, 0, none⟩) (vz.take yl.length) := fun hl => by
    obtain ⟨b, o, e, hb, hc⟩ := Yg hl
    injection e with e; injection e with e1 e2
    subst e1 e2
    exact ⟨bv, 0, rfl, hb, fun t ht => (World.cell?_of_block (hg5.block bv (by have := (aa Zn).1; omega) (fun e => by injection e with e; omega))).trans (hc t ht)⟩
   have hb5 : Below w.heap.size w w5 := hbr.grown hg5 hbr.size (fun g e => by injection e with e; subst e; exact Nat.le_trans Jb.size hbu)
   have hs5 : w4.heap.size < w5.heap.size := Nat.lt_of_lt_of_le auu hg5.size
   have aun : w.heap.size ≤ w4.heap.size := Zd.size
   have aay : ∀ W, W = w5.setCell ⟨w4.heap.size, j, none⟩ (.int .u32 (q : Int)) → ZB .u32 W bu 156 (win us j zr) ∧ ZB .u32 W w4.heap.size 156 (qs.set j q) ∧ Ws .u32 W (bv + 1) (some ⟨bv, 0, none⟩) (vz.take yl.length) ∧ Below w.heap.size w W ∧ w4.heap.size < W.heap.size := by
    rintro W rfl
    exact ⟨(Below.heap_setCell w5 _ _ bu (by show bu ≠ w4.heap.size; have := (aa Zn).2; omega)).trans agk, Tu.Dl _ _, hv5.setCell (p := ⟨w4.heap.size, j, none⟩) (by show bv + 1 ≤ w4.heap.size; have := (aa Zn).1; omega) _, hb5.setCell (p := ⟨w4.heap.size, j, none⟩) aun _, by simp [World.setCell]; omega⟩
   have HF2 := hide aay
   clear hok hg5 aay agk Tu hv5 hb5
   go_wp2_with fail
   go_roundw
   case rel =>
    obtain ⟨f1, f2, f3, f4, f5⟩ := (aa HF2) _ rfl
    exact ⟨(j : Int) - 1, win us j zr, qs.set j q, by omega, by omega, by go_num, by rw [show ((j : Int) - 1 + 1).toNat = j by omega]; exact aml, by show _ = _; rw [List.length_set]; exact Mw.out, f1, f2, f3, f4, f5⟩
   case measure => simp [intOf] <;> omega
end Go.Proofs.YtjdnmdlnaoedoaaGreatDoor
namespace Go.Proofs.YtjdnmdlnaoedoaaGreatDoor
open Go.RowKit

theorem Fb (Ax Ay : Option Addr) (cx cy : Nat) (xl yl : List Nat) (n m : Nat) (w : World) (hx : qo w Ax cx xl n) (hy : qo w Ay cy yl m) (hm : 0 < m) (hk : xl.length + 1 ≤ 35184372088832) (hk2 : yl.length + 1 ≤ 35184372088832) :
  Calls Tryz.prog 158 #[.slice Ax xl.length cx, .slice Ay yl.length cy] w fun e w' => abg w (n / m) (n % m) e w' := by
 by_cases hlt : n < m
 ·
  exact aja Ax Ay cx cy xl yl n m w hx hy hlt
 ·
  by_cases h1 : yl.length = 1
  ·
   exact apu Ax Ay cx cy xl yl n m w hx hy hlt h1 om
  ·
   refine als Ax Ay cx cy xl yl n m w hx hy hlt hk hk2 ?_
   rcases Nat.eq_zero_or_pos yl.length with h | h
   ·
    exfalso
    have := hy.val
    rw [List.length_eq_zero_iff.1 h] at this
    simp [Wd.val] at this; omega
   ·
    omega

def memNum (w : World) : Value → Nat
 | .slice (some p) n _ => Wd.val eu ((List.range n).map fun i => match w.cell? ⟨p.block, p.off + i, none⟩ with | some (.int _ z) => z.toNat | _ => 0)
 | _ => 0
theorem acz {w : World} {A : Option Addr} {cap : Nat} {l : List Nat} {n : Nat} (h : qo w A cap l n) : memNum w (.slice A l.length cap) = n := by
 rcases Nat.eq_zero_or_pos l.length with h0 | h0
 ·
  have hv := h.val
  have hl := List.length_eq_zero_iff.1 h0
  subst hl
  rw [← hv]
  cases A <;> simp [memNum, Wd.val]
 ·
  obtain ⟨b, o, rfl, _, hc⟩ := h.ws h0
  show Wd.val eu _ = n
  rw [← h.val]
  congr 1
  apply List.ext_getElem (by simp)
  intro i h1 h2
  simp only [List.getElem_map, List.getElem_range]
  rw [hc i h2, Wd.qz]
  simp [List.getD, h2]

theorem aje (Ax Ay : Option Addr) (cx cy : Nat) (xl yl : List Nat) (n m K : Nat) (w : World) (hx : qo w Ax cx xl n) (hy : qo w Ay cy yl m) (hn : n < eu ^ K) (hm : m < eu ^ K) (hK : K + 1 ≤ 35184372088832) :
  Calls Tryz.prog 157 #[.slice Ax xl.length cx, .slice Ay yl.length cy] w fun e w' => ank w (n.gcd m) e w' := by
 go_enter Tryz.func157, Tryz.ntmps157
 go_wp2_with fail
 have HK := hide hK
 clear hK
 go_loopw [0, 1] (fun av bv wr => ∃ Aa ca la na Ab cb lb nb, av = .slice Aa la.length ca ∧ bv = .slice Ab lb.length cb ∧ qo wr Aa ca la na ∧ qo wr Ab cb lb nb ∧ na < eu ^ K ∧ nb < eu ^ K ∧ Hid (na.gcd nb = n.gcd m) ∧ Below w.heap.size w wr) (fun _ bv wr => memNum wr bv)
 case atStart => exact ⟨Ax, cx, xl, n, Ay, cy, yl, m, rfl, rfl, hx, hy, hn, hm, rfl, Below.refl _ _⟩
 case round =>
  clear hx hy hn hm
  obtain ⟨Aa, ca, la, na, Ab, cb, lb, nb, rfl, rfl, ha, hb, hna, hnb, HG, hbl⟩ := hrel
  have ha1 := ha.tu; have ha2 := ha.cap2; have hb1 := hb.tu; have hb2 := hb.cap2
  have la1 : la.length ≤ K := ha.len hna
  have lb1 : lb.length ≤ K := hb.len hnb
  by_cases h0 : lb.length = 0
  ·
   have e : nb = 0 := by rw [← hb.val, List.length_eq_zero_iff.1 h0]; rfl
   have hg := HG.out
   rw [e, Nat.gcd_zero_right] at hg
   have HGG := Lib.hid hg
   have HA := hide ha
   clear hg ha hb hna hnb e HG
   go_wp2_with fail
   go_ret
   exact ⟨Aa, ca, la, rfl, by rw [← HGG.out]; exact aa HA, hbl⟩
  ·
   have bck : 0 < nb := by
    rcases Nat.eq_zero_or_pos nb with h | h
    ·
     exfalso
     have := hb.len (k := 0) (by rw [h]; simp)
     omega
    ·
     exact h
   have hp := Fb Aa Ab ca cb la lb na nb wr ha hb bck (by have := aa HK; omega) (by have := aa HK; omega)
   have hg : nb.gcd (na % nb) = n.gcd m := by
    rw [← HG.out, Nat.gcd_comm nb (na % nb), ← Nat.gcd_rec nb na, Nat.gcd_comm]
   have hlt := Nat.mod_lt na bck
   have hmem := acz hb
   have HP := hide hp; have HGG := Lib.hid hg; have HB := hide hb; have HNB := hide hnb
   have vo := hide hlt; have HM := Lib.hid hmem
   clear hp hg ha hb hna hnb HG hlt hmem
   go_wp2_with fail
   refine (aa HP).mono ?_
   rintro e w' ⟨A5, c5, l5, A6, c6, l6, rfl, h5, h6, avb⟩
   have hb' := (aa HB).below avb
   have bkr : Below w.heap.size w w' := hbl.trans (avb.mono hbl.size)
   have HB2 := hide hb'; have H6 := hide h6
   clear hb' h5 h6 avb hbl
   go_wp2_with fail
   go_roundw
   case rel => exact ⟨Ab, cb, lb, nb, A6, c6, l6, na % nb, rfl, rfl, aa HB2, aa H6, aa HNB, Nat.lt_trans (aa vo) (aa HNB), HGG, bkr⟩
   case measure =>
    have := acz (aa H6)
    have h2 := HM.out
    have h3 := aa vo
    simp_all
end Go.Proofs.YtjdnmdlnaoedoaaGreatDoor
namespace Go.Proofs.YtjdnmdlnaoedoaaGreatDoor
open Go.RowKit

def Zl (cs : Array Value) : Prop := ∀ (i : Nat) (n : Int), cs[i]? ≠ some (Value.int .u32 n)
theorem Ec (A : Option Addr) (n c : Nat) (b : Bool) : Zl #[.slice A n c, .bool b] := by
 intro i n h
 match i, h with
 | 0, h => simp at h
 | 1, h => simp at h
 | i + 2, h => simp at h
theorem Ao (A : Option Addr) (n c : Nat) (b : Bool) (A' : Option Addr) (n' c' : Nat) (b' : Bool) : Zl #[.slice A n c, .bool b, .slice A' n' c', .bool b'] := by
 intro i n h
 match i, h with
 | 0, h => simp at h
 | 1, h => simp at h
 | 2, h => simp at h
 | 3, h => simp at h
 | i + 4, h => simp at h
theorem Ws.bao {w w' : World} {B g : Nat} {A : Option Addr} {l : List Nat} {T : TypeId} {cs : Array Value} (h : Ws .u32 w B A l) (hg : w.heap[g]? = some (.cells cs T (0, 0))) (hn : Zl cs) (hgr : w.grownBy w' (some g)) (hB : B ≤ w.heap.size) : Ws .u32 w' B A l := fun hl => by
 obtain ⟨b, off, rfl, hb, hc⟩ := h hl
 have hne : b ≠ g := by
  rintro rfl
  have := hc 0 hl
  simp only [World.cell?, hg, Option.isSome_none, Bool.false_eq_true, if_false] at this
  exact hn _ _ this
 exact ⟨b, off, rfl, hb, fun j hj => (World.cell?_of_block (hgr.block b om (fun e => hne (by injection e)))).trans (hc j hj)⟩
theorem qo.upto {w w' : World} {g : Nat} {A : Option Addr} {cap : Nat} {l : List Nat} {n : Nat} {T : TypeId} {cs : Array Value} (h : qo w A cap l n) (hg : w.heap[g]? = some (.cells cs T (0, 0))) (hn : Zl cs) (hgr : w.grownBy w' (some g)) : qo w' A cap l n :=
 ⟨(h.ws.bao hg hn hgr (Nat.le_refl _)).more hgr.size, h.tu, h.cap2, h.lt, h.norm, h.val⟩
theorem mo (w : World) (g : Nat) (u0 u1 u2 u3 : Value) : w.grownBy ((((w.setCell ⟨g, 0, none⟩ u0).setCell ⟨g, 1, none⟩ u1).setCell ⟨g, 2, none⟩ u2).setCell ⟨g, 3, none⟩ u3) (some g) :=
 ni (ni (ni (ni (ug _ _) _ _) _ _) _ _) _ _

structure ik (w : World) (A : Option Addr) (cap : Nat) (l : List Nat) (m : Bool) (z : Int) : Prop where
 nat : qo w A cap l z.natAbs
 sign : m = decide (z < 0)
theorem ik.below {w w' : World} {A : Option Addr} {cap : Nat} {l : List Nat} {m : Bool} {z : Int} (h : ik w A cap l m z) (hb : Below w.heap.size w w') : ik w' A cap l m z := ⟨h.nat.below hb, h.sign⟩
theorem ik.upto {w w' : World} {g : Nat} {A : Option Addr} {cap : Nat} {l : List Nat} {m : Bool} {z : Int} {T : TypeId} {cs : Array Value} (h : ik w A cap l m z) (hg : w.heap[g]? = some (.cells cs T (0, 0))) (hn : Zl cs) (hgr : w.grownBy w' (some g)) : ik w' A cap l m z := ⟨h.nat.upto hg hn hgr, h.sign⟩

def Ba (w : World) (z : Int) (e : Ending) (w' : World) : Prop := ∃ A cap l m, e = .returned (.agg #[.slice A l.length cap, .bool m]) ∧ ik w' A cap l m z ∧ Below w.heap.size w w'

theorem qo.Gm {w : World} {A : Option Addr} {cap : Nat} {l : List Nat} {n : Nat} (h : qo w A cap l n) : n = 0 ↔ l.length = 0 := by
 constructor
 ·
  intro e
  have := h.len (k := 0) (by rw [e]; simp)
  omega
 ·
  intro e
  rw [← h.val, List.length_eq_zero_iff.1 e]; rfl

theorem Ah (A : Option Addr) (cap : Nat) (l : List Nat) (n : Nat) (s : Bool) (w : World) (h : qo w A cap l n) :
  Calls Tryz.prog 159 #[.slice A l.length cap, .bool s] w fun e w' => Ba w (if s then -(n : Int) else (n : Int)) e w' := by
 have hc1 := h.tu; have hc2 := h.cap2
 have hz := h.Gm
 have hab : (if s then -(n : Int) else (n : Int)).natAbs = n := by cases s <;> simp
 have hsg : s = true → decide (0 < l.length) = decide ((if s then -(n : Int) else (n : Int)) < 0) := by
  rintro rfl
  simp only [if_true]
  exact decide_eq_decide.2 om
 have auv : ¬ s = true → false = decide ((if s then -(n : Int) else (n : Int)) < 0) := by
  intro hs
  rw [Bool.not_eq_true] at hs
  subst hs
  exact (decide_eq_false (by simp)).symm
 obtain ⟨z, hzz⟩ : ∃ z, z = if s then -(n : Int) else (n : Int) := ⟨_, rfl⟩
 rw [← hzz] at hab hsg auv ⊢
 have HF : Hid (∀ W, Below w.heap.size w W → qo W A cap l z.natAbs) := fun W hW => by rw [hab]; exact h.below hW
 have qm := hide hsg; have HS2 := hide auv
 clear h hz hab hsg auv hzz
 go_enter Tryz.func159, Tryz.ntmps159
 go_wp2_with fail
 ·
  have hs : s = true := by assumption
  exact bodyPost_ret (v := .agg #[.slice A l.length cap, .bool (decide (0 < l.length))]) (by simp [results, Tryz.results159, go_sem]) rfl ⟨A, cap, l, _, rfl, ⟨(aa HF) _ ((Below.refl _ _).alloc (Nat.le_refl _) _), (aa qm) hs⟩, (Below.refl _ _).alloc (Nat.le_refl _) _⟩
 ·
  have hs : ¬ s = true := by assumption
  exact bodyPost_ret (v := .agg #[.slice A l.length cap, .bool false]) (by simp [results, Tryz.results159, go_sem]) rfl ⟨A, cap, l, _, rfl, ⟨(aa HF) _ ((Below.refl _ _).alloc (Nat.le_refl _) _), (aa HS2) hs⟩, (Below.refl _ _).alloc (Nat.le_refl _) _⟩

theorem Yn (A : Option Addr) (cap n : Nat) (s : Bool) (w : World) :
  Calls Tryz.prog 122 #[.agg #[.slice A n cap, .bool s]] w fun e w' => e = .returned (.bool (decide (n = 0))) ∧ Below w.heap.size w w' := by
 by_cases h : n = 0
 ·
  subst h
  go_enter Tryz.func122, Tryz.ntmps122
  go_wp2_with fail
  all_goals first | go_ret | skip
  all_goals exact ⟨rfl, (Below.refl _ _).alloc (Nat.le_refl _) _⟩
 ·
  have hb : ((n : Int) == 0) = false := beq_eq_false_iff_ne.2 om
  have hd : decide (n = 0) = false := decide_eq_false h
  rw [hd]
  clear hd
  go_enter Tryz.func122, Tryz.ntmps122
  go_wp2_with fail
  all_goals first | go_ret | skip
  all_goals exact ⟨rfl, (Below.refl _ _).alloc (Nat.le_refl _) _⟩

theorem Zz (A : Option Addr) (cap : Nat) (l : List Nat) (m : Bool) (z : Int) (w : World) (h : ik w A cap l m z) :
  Calls Tryz.prog 118 #[.agg #[.slice A l.length cap, .bool m]] w fun e w' => e = .returned (.bool (decide (z = 1))) ∧ Below w.heap.size w w' := by
 have hc1 := h.nat.tu; have hc2 := h.nat.cap2
 by_cases h1 : l.length = 1
 ·
  have hb : ((l.length : Int) == 1) = true := by rw [h1]; rfl
  obtain ⟨b, o, rfl, hbb, hc⟩ := h.nat.ws om
  have hc0 := ((Below.refl w.heap.size w).alloc (Nat.le_refl _) (.cells #[.slice (some ⟨b, o, none⟩) l.length cap, .bool m] 61)).cell (p := ⟨b, o + 0, none⟩) hbb |>.trans (hc 0 om)
  rw [Nat.add_zero] at hc0
  have hv : Wd.g l 0 = z.natAbs := by rw [Te eu l h1]; exact h.nat.val
  have hs := h.sign
  rw [hv] at hc0
  have hres : decide (z = 1) = ((z.natAbs : Int) == 1 && !m) := by
   rw [hs]
   by_cases hz : z = 1
   ·
    subst hz; rfl
   ·
    rw [decide_eq_false hz]
    by_cases h2 : z = -1
    ·
     subst h2; rfl
    ·
     have : ((z.natAbs : Int) == 1) = false := beq_eq_false_iff_ne.2 om
     rw [this]; rfl
  have hl0 : 0 < l.length := by omega
  have HR := Lib.hid hres
  clear hc hv hs h hres h1
  cases m
  all_goals
   by_cases hv : ((z.natAbs : Nat) : Int) = 1
   ·
    have hv1 : (((z.natAbs : Nat) : Int) == 1) = true := by rw [hv]; rfl
    have HV := Lib.hid hv1
    rw [hv] at hc0
    clear hv hv1
    go_enter Tryz.func118, Tryz.ntmps118
    go_wp2_with fail
    all_goals first | go_ret | skip
    all_goals exact ⟨by rw [HR.out, HV.out]; rfl, (Below.refl _ _).alloc (Nat.le_refl _) _⟩
   ·
    have hv1 : (((z.natAbs : Nat) : Int) == 1) = false := beq_eq_false_iff_ne.2 hv
    have hv0 := hv1
    have HV := Lib.hid hv0
    clear hv0
    obtain ⟨t, ht⟩ : ∃ t, t = z.natAbs := ⟨_, rfl⟩
    rw [← ht] at hc0 hv hv1
    clear ht
    go_enter Tryz.func118, Tryz.ntmps118
    go_wp2_with fail
    all_goals first | go_ret | skip
    all_goals exact ⟨by rw [HR.out, HV.out]; rfl, (Below.refl _ _).alloc (Nat.le_refl _) _⟩
 ·
  have hb : ((l.length : Int) == 1) = false := beq_eq_false_iff_ne.2 om
  have hd : decide (z = 1) = false := decide_eq_false (by
   rintro rfl
   apply h1
   have h0 := h.nat.len (k := 1) (by simp [gp])
   have h3 : ¬ l.length = 0 := fun e => by have := h.nat.Gm.2 e; simp at this
   omega)
  rw [hd]
  clear hd h
  go_enter Tryz.func118, Tryz.ntmps118
  go_wp2_with fail
  all_goals first | go_ret | skip
  all_goals exact ⟨rfl, (Below.refl _ _).alloc (Nat.le_refl _) _⟩

theorem Ym (A : Option Addr) (cap : Nat) (l : List Nat) (m : Bool) (z : Int) (w : World) (h : ik w A cap l m z) :
  Calls Tryz.prog 156 #[.agg #[.slice A l.length cap, .bool m]] w fun e w' => Ba w (-z) e w' := by
 have hv : (if (!m) then -(z.natAbs : Int) else (z.natAbs : Int)) = -z := by
  rw [h.sign]
  by_cases hz : z < 0
  ·
   rw [decide_eq_true hz]; simp; omega
  ·
   rw [decide_eq_false hz]; simp; omega
 have HS := hide (fun W (hW : Below w.heap.size w W) => Ah A cap l z.natAbs (!m) W (h.nat.below hW))
 rw [hv] at HS
 clear h hv
 go_enter Tryz.func156, Tryz.ntmps156
 go_wp2_with fail
 obtain ⟨n0, n1, hsz, hw0⟩ := uu w (.cells #[.slice A l.length cap, .bool m] 61) (.cells #[.slice none 0 0, .bool false] 61)
 generalize ((w.alloc (.cells #[.slice A l.length cap, .bool m] 61)).alloc (.cells #[.slice none 0 0, .bool false] 61)) = W0 at *
 have q1 : w.heap.size + 1 < W0.heap.size := by omega
 have Ad : W0.cell? ⟨w.heap.size + 1, 0, none⟩ = some (.slice none 0 0) := ah n1 0
 have Ac : W0.cell? ⟨w.heap.size + 1, 1, none⟩ = some (.bool false) := ah n1 1
 have Nh := bf n1 0
 have Ng := bf n1 1
 have NR := Lib.hid n1
 clear n0 n1
 refine ((aa HS) _ hw0).mono ?_
 rintro e w' ⟨A5, c5, l5, m5, rfl, yx, hb⟩
 obtain ⟨hc, hfz⟩ := fu hb
 have hblk : w'.heap[w.heap.size + 1]? = some (.cells #[.slice none 0 0, .bool false] 61 (0, 0)) := (hb.block _ q1).trans NR.out
 have kg := Lib.hid hblk
 have jh : Below w.heap.size w w' := bz hw0 hb
 clear hblk
 go_wp2_with fail
 exact bodyPost_ret (v := .agg #[.slice A5 l5.length c5, .bool m5]) (by simp [results, Tryz.results156, go_sem, hc, Ad, Ac, q1]) rfl
  ⟨A5, c5, l5, m5, rfl, yx.upto kg.out (Ec _ _ _ _) (lg _ _ _ _), jh.grown (lg _ _ _ _) jh.size (fun k hk => by injection hk with hk; omega)⟩

end Go.Proofs.YtjdnmdlnaoedoaaGreatDoor
namespace Go.Proofs.YtjdnmdlnaoedoaaGreatDoor
open Go.RowKit

theorem anp {w : World} {b : Nat} {T : TypeId} {lo hi : Nat} (h : w.heap[b]? = some (.cells #[.int .u32 (lo : Int), .int .u32 (hi : Int)] T (0, 0))) : ZB .u32 w b T [lo, hi] := h

theorem Js (x : Int) (w : World) (hx : -9223372036854775808 ≤ x) (hx2 : x ≤ 9223372036854775807) :
  Calls Tryz.prog 116 #[.int .i64 x] w fun e w' => Ba w x e w' ∧ ∃ (A : Option Addr) (cap : Nat) (l : List Nat) (m : Bool), e = .returned (.agg #[.slice A l.length cap, .bool m]) ∧ l.length ≤ 2 := by
 obtain ⟨a, ha⟩ : ∃ a, a = x.natAbs := ⟨_, rfl⟩
 obtain ⟨lo, hlo⟩ : ∃ t, t = a % eu := ⟨_, rfl⟩
 obtain ⟨hi, hhi⟩ : ∃ t, t = a / eu := ⟨_, rfl⟩
 have ha2 : a ≤ 9223372036854775808 := by omega
 have e2 : (a : Int) % 4294967296 = (lo : Int) := by rw [hlo, gp]; omega
 have e3 : (a : Int) / 4294967296 = (hi : Int) := by rw [hhi, gp]; omega
 have e4 : (hi : Int) % 4294967296 = (hi : Int) := by rw [hhi, gp]; omega
 have e5 : IntKind.u32.wrap (a : Int) = (lo : Int) := by rw [IntKind.wrap_u32]; exact e2
 have e6 : IntKind.u32.wrap (hi : Int) = (hi : Int) := by rw [IntKind.wrap_u32]; exact e4
 have hlB : ∀ t ∈ [lo, hi], t < eu := by
  intro t ht
  simp only [List.mem_cons, List.not_mem_nil, or_false] at ht
  rcases ht with rfl | rfl
  ·
   rw [hlo]; exact Nat.mod_lt _ (by rw [gp]; omega)
  ·
   rw [hhi, gp]; omega
 have hval : Wd.val eu [lo, hi] = x.natAbs := by
  rw [← ha]
  simp only [Wd.val, Nat.mul_zero, Nat.add_zero]
  rw [hlo, hhi]
  exact Nat.mod_add_div _ _
 have HLB := hide hlB; have aco := Lib.hid hval
 by_cases hn : x < 0
 ·
  have d1 : decide (x < 0) = true := decide_eq_true hn
  have e1 : IntKind.u64.wrap (-IntKind.u64.wrap x) = (a : Int) := by
   rw [IntKind.wrap_u64, IntKind.wrap_u64]; omega
  clear hx hx2 ha hlo hhi ha2 hlB hval
  go_enter Tryz.func116, Tryz.ntmps116
  go_wp2_with fail
  obtain ⟨n0, n1, hsz, hw0⟩ := uu w (.cells #[.slice none 0 0, .bool false] 61) (.cells #[.int .u32 (lo : Int), .int .u32 (hi : Int)] 156)
  generalize ((w.alloc (.cells #[.slice none 0 0, .bool false] 61)).alloc (.cells #[.int .u32 (lo : Int), .int .u32 (hi : Int)] 156)) = W0 at *
  have k0 : W0.cell? ⟨w.heap.size, 0, none⟩ = some (.slice none 0 0) := ah n0 0
  have k1 : W0.cell? ⟨w.heap.size, 1, none⟩ = some (.bool false) := ah n0 1
  have f0 := bf n0 0
  have f1 := bf n0 1
  have q0 : w.heap.size < W0.heap.size := by omega
  have hzb := anp n1
  have NR := Lib.hid n0
  have htr := Ck (some ⟨w.heap.size + 1, 0, none⟩) 2 [lo, hi] W0.heap.size W0 (hzb.Et _ hzb.lt) (by simp) om
  have HZB := hide hzb
  clear n0 n1 hzb
  refine htr.mono ?_
  rintro e w' ⟨⟨k, rfl, ht, hk⟩, hw'⟩
  obtain rfl : W0 = w' := hw'.symm
  clear hw'
  have yw := qo.Ct (cap := 2) (aa HZB) (aa HLB) ht hk (by simp) om
  rw [aco.out] at yw
  have hkl : k = ([lo, hi].take k).length := by rw [List.length_take]; omega
  have hl2 : ([lo, hi].take k).length ≤ 2 := by rw [List.length_take]; exact Nat.min_le_right _ _
  generalize [lo, hi].take k = l5 at *
  subst hkl
  have yx : ik W0 (some ⟨w.heap.size + 1, 0, none⟩) 2 l5 true x := ⟨yw, d1.symm⟩
  have HF5 := hide yx
  clear yw yx ht
  go_wp2_with fail
  exact bodyPost_ret (v := .agg #[.slice (some ⟨w.heap.size + 1, 0, none⟩) l5.length 2, .bool true]) (by simp [results, Tryz.results116, go_sem, k0, k1, q0]) rfl
   ⟨⟨_, 2, l5, true, rfl, (aa HF5).upto NR.out (Ec _ _ _ _) (lg _ _ _ _), hw0.grown (lg _ _ _ _) hw0.size (fun k hk => by injection hk with hk; omega)⟩, _, _, l5, true, rfl, hl2⟩
 ·
  have d1 : decide (x < 0) = false := decide_eq_false hn
  have e1 : IntKind.u64.wrap x = (a : Int) := by
   rw [IntKind.wrap_u64]; omega
  clear hx hx2 ha hlo hhi ha2 hlB hval
  go_enter Tryz.func116, Tryz.ntmps116
  go_wp2_with fail
  obtain ⟨n0, n1, hsz, hw0⟩ := uu w (.cells #[.slice none 0 0, .bool false] 61) (.cells #[.int .u32 (lo : Int), .int .u32 (hi : Int)] 156)
  generalize ((w.alloc (.cells #[.slice none 0 0, .bool false] 61)).alloc (.cells #[.int .u32 (lo : Int), .int .u32 (hi : Int)] 156)) = W0 at *
  have k0 : W0.cell? ⟨w.heap.size, 0, none⟩ = some (.slice none 0 0) := ah n0 0
  have k1 : W0.cell? ⟨w.heap.size, 1, none⟩ = some (.bool false) := ah n0 1
  have f0 := bf n0 0
  have f1 := bf n0 1
  have q0 : w.heap.size < W0.heap.size := by omega
  have hzb := anp n1
  have NR := Lib.hid n0
  have htr := Ck (some ⟨w.heap.size + 1, 0, none⟩) 2 [lo, hi] W0.heap.size W0 (hzb.Et _ hzb.lt) (by simp) om
  have HZB := hide hzb
  clear n0 n1 hzb
  refine htr.mono ?_
  rintro e w' ⟨⟨k, rfl, ht, hk⟩, hw'⟩
  obtain rfl : W0 = w' := hw'.symm
  clear hw'
  have yw := qo.Ct (cap := 2) (aa HZB) (aa HLB) ht hk (by simp) om
  rw [aco.out] at yw
  have hkl : k = ([lo, hi].take k).length := by rw [List.length_take]; omega
  have hl2 : ([lo, hi].take k).length ≤ 2 := by rw [List.length_take]; exact Nat.min_le_right _ _
  generalize [lo, hi].take k = l5 at *
  subst hkl
  have yx : ik W0 (some ⟨w.heap.size + 1, 0, none⟩) 2 l5 false x := ⟨yw, d1.symm⟩
  have HF5 := hide yx
  clear yw yx ht
  go_wp2_with fail
  exact bodyPost_ret (v := .agg #[.slice (some ⟨w.heap.size + 1, 0, none⟩) l5.length 2, .bool false]) (by simp [results, Tryz.results116, go_sem, k0, k1, q0]) rfl
   ⟨⟨_, 2, l5, false, rfl, (aa HF5).upto NR.out (Ec _ _ _ _) (lg _ _ _ _), hw0.grown (lg _ _ _ _) hw0.size (fun k hk => by injection hk with hk; omega)⟩, _, _, l5, false, rfl, hl2⟩

theorem akg {B : Nat} {w w1 w' : World} (h : Below B w w1) (e : ∃ k, w' = w1.drewN k) : Below B w w' := by
 obtain ⟨k, rfl⟩ := e; exact qb h k

theorem asr (A1 : Option Addr) (c1 : Nat) (l1 : List Nat) (m1 : Bool) (z1 : Int) (A2 : Option Addr) (c2 : Nat) (l2 : List Nat) (m2 : Bool) (z2 : Int) (w : World) (h1 : ik w A1 c1 l1 m1 z1) (h2 : ik w A2 c2 l2 m2 z2) :
  Calls Tryz.prog 140 #[.agg #[.slice A1 l1.length c1, .bool m1], .agg #[.slice A2 l2.length c2, .bool m2]] w fun e w' => e = .returned (.int .i64 (iw (z1 - z2))) ∧ Below w.heap.size w w' := by
 have ho : uk z1.natAbs z2.natAbs = -1 ∨ uk z1.natAbs z2.natAbs = 0 ∨ uk z1.natAbs z2.natAbs = 1 := by unfold uk; (repeat' split) <;> simp
 have hO := hide (fun W (hW : Below w.heap.size w W) => Hf A1 A2 c1 c2 l1 l2 z1.natAbs z2.natAbs W (h1.nat.below hW) (h2.nat.below hW))
 have s1 := h1.sign; have s2 := h2.sign
 have Be : m1 = false → m2 = false → uk z1.natAbs z2.natAbs = iw (z1 - z2) := by
  rintro rfl rfl
  have a1 := of_decide_eq_false s1.symm; have a2 := of_decide_eq_false s2.symm
  unfold uk iw; (repeat' split) <;> omega
 have hnn : m1 = true → m2 = true → -uk z1.natAbs z2.natAbs = iw (z1 - z2) := by
  rintro rfl rfl
  have a1 := of_decide_eq_true s1.symm; have a2 := of_decide_eq_true s2.symm
  unfold uk iw; (repeat' split) <;> omega
 have hnp : m1 = true → m2 = false → -1 = iw (z1 - z2) := by
  rintro rfl rfl
  have a1 := of_decide_eq_true s1.symm; have a2 := of_decide_eq_false s2.symm
  unfold iw; (repeat' split) <;> omega
 have hpn : m1 = false → m2 = true → 1 = iw (z1 - z2) := by
  rintro rfl rfl
  have a1 := of_decide_eq_false s1.symm; have a2 := of_decide_eq_true s2.symm
  unfold iw; (repeat' split) <;> omega
 obtain ⟨o, hoo⟩ : ∃ o, o = uk z1.natAbs z2.natAbs := ⟨_, rfl⟩
 obtain ⟨g, hg⟩ : ∃ g, g = iw (z1 - z2) := ⟨_, rfl⟩
 rw [← hoo] at ho hO Be hnn
 rw [← hg] at Be hnn hnp hpn ⊢
 have e1 : IntKind.i64.wrap (-o) = -o := IntWalk.i64_in _ om
 have hw0 := (uu w (.cells #[.slice A1 l1.length c1, .bool m1] 61) (.cells #[.slice A2 l2.length c2, .bool m2] 61)).2.2.2
 clear h1 h2 s1 s2 hoo hg ho
 cases m1 <;> cases m2
 ·
  have hh := Lib.hid (Be rfl rfl)
  clear Be hnn hnp hpn
  go_enter Tryz.func140, Tryz.ntmps140
  go_wp2_with fail
  refine ((aa hO) _ hw0).mono ?_
  rintro e w' ⟨rfl, hw'⟩
  have jh := akg hw0 hw'
  clear hw'
  go_wp2_with fail
  all_goals first | go_ret | skip
  exact ⟨by rw [hh.out]; rfl, jh⟩
 ·
  have hh := Lib.hid (hpn rfl rfl)
  clear Be hnn hnp hpn
  go_enter Tryz.func140, Tryz.ntmps140
  go_wp2_with fail
  all_goals first | (go_quiet (fail); go_wp2_with fail) | skip
  all_goals first | go_ret | skip
  exact ⟨by rw [← hh.out]; rfl, by first | exact hw0 | exact hw0.drew | exact qb hw0 _⟩
 ·
  have hh := Lib.hid (hnp rfl rfl)
  clear Be hnn hnp hpn
  go_enter Tryz.func140, Tryz.ntmps140
  go_wp2_with fail
  all_goals first | (go_quiet (fail); go_wp2_with fail) | skip
  all_goals first | go_ret | skip
  exact ⟨by rw [← hh.out]; rfl, by first | exact hw0 | exact hw0.drew | exact qb hw0 _⟩
 ·
  have hh := Lib.hid (hnn rfl rfl)
  clear Be hnn hnp hpn
  go_enter Tryz.func140, Tryz.ntmps140
  go_wp2_with fail
  refine ((aa hO) _ hw0).mono ?_
  rintro e w' ⟨rfl, hw'⟩
  have jh := akg hw0 hw'
  clear hw'
  go_wp2_with fail
  all_goals first | go_ret | skip
  exact ⟨by rw [← hh.out]; rfl, jh⟩
end Go.Proofs.YtjdnmdlnaoedoaaGreatDoor
namespace Go.Proofs.YtjdnmdlnaoedoaaGreatDoor
open Go.RowKit

theorem aeu (A1 : Option Addr) (c1 : Nat) (l1 : List Nat) (m1 : Bool) (z1 : Int) (A2 : Option Addr) (c2 : Nat) (l2 : List Nat) (m2 : Bool) (z2 : Int) (w : World) (h1 : ik w A1 c1 l1 m1 z1) (h2 : ik w A2 c2 l2 m2 z2) (hk : l1.length + l2.length ≤ 35184372088832) :
  Calls Tryz.prog 120 #[.agg #[.slice A1 l1.length c1, .bool m1], .agg #[.slice A2 l2.length c2, .bool m2]] w fun e w' => Ba w (z1 * z2) e w' := by
 have hv : (if (m1 != m2) then -((z1.natAbs * z2.natAbs : Nat) : Int) else ((z1.natAbs * z2.natAbs : Nat) : Int)) = z1 * z2 := by
  rw [h1.sign, h2.sign, ← Int.natAbs_mul]
  by_cases a : z1 < 0 <;> by_cases b : z2 < 0
  ·
   have := Int.mul_pos_of_neg_of_neg a b
   simp [a, b]; omega
  ·
   have : z1 * z2 ≤ 0 := Int.mul_nonpos_of_nonpos_of_nonneg om om
   simp [a, b]; omega
  ·
   have : z1 * z2 ≤ 0 := Int.mul_nonpos_of_nonneg_of_nonpos om om
   simp [a, b]; omega
  ·
   have : 0 ≤ z1 * z2 := Int.mul_nonneg om om
   simp [a, b]; omega
 have HT := hide (fun W (hW : Below w.heap.size w W) => akz A1 A2 c1 c2 l1 l2 z1.natAbs z2.natAbs W (h1.nat.below hW) (h2.nat.below hW) hk)
 obtain ⟨p, hp⟩ : ∃ p, p = z1.natAbs * z2.natAbs := ⟨_, rfl⟩
 obtain ⟨z, hz⟩ : ∃ z, z = z1 * z2 := ⟨_, rfl⟩
 rw [← hp] at HT hv
 rw [← hz] at hv ⊢
 obtain ⟨sg, hsg⟩ : ∃ s, s = (m1 != m2) := ⟨_, rfl⟩
 rw [← hsg] at hv
 have HV := Lib.hid hv
 have SG : (!(m1 == m2)) = sg := hsg.symm
 clear h1 h2 hk hp hz hv hsg
 go_enter Tryz.func120, Tryz.ntmps120
 go_wp2_with fail
 obtain ⟨n0, n1, n2, hsz, hw0⟩ := nu w (.cells #[.slice A1 l1.length c1, .bool m1] 61) (.cells #[.slice A2 l2.length c2, .bool m2] 61) (.cells #[.slice none 0 0, .bool false] 61)
 generalize (((w.alloc (.cells #[.slice A1 l1.length c1, .bool m1] 61)).alloc (.cells #[.slice A2 l2.length c2, .bool m2] 61)).alloc (.cells #[.slice none 0 0, .bool false] 61)) = W0 at *
 have k0 : W0.cell? ⟨w.heap.size, 0, none⟩ = some (.slice A1 l1.length c1) := ah n0 0
 have k1 : W0.cell? ⟨w.heap.size, 1, none⟩ = some (.bool m1) := ah n0 1
 have k2 : W0.cell? ⟨w.heap.size + 1, 0, none⟩ = some (.slice A2 l2.length c2) := ah n1 0
 have k3 : W0.cell? ⟨w.heap.size + 1, 1, none⟩ = some (.bool m2) := ah n1 1
 have q0 : w.heap.size < W0.heap.size := by omega
 have q1 : w.heap.size + 1 < W0.heap.size := by omega
 have q2 : w.heap.size + 1 + 1 < W0.heap.size := by omega
 have r0 : W0.cell? ⟨w.heap.size + 1 + 1, 0, none⟩ = some (.slice none 0 0) := ah n2 0
 have r1 : W0.cell? ⟨w.heap.size + 1 + 1, 1, none⟩ = some (.bool false) := ah n2 1
 have f0 := bf n2 0
 have f1 := bf n2 1
 have NR := Lib.hid n2
 clear n0 n1 n2 hsz
 go_region_held3 (fun w' => w'.cell? ⟨w.heap.size, 0, none⟩ = some (.slice A1 l1.length c1) ∧ w'.cell? ⟨w.heap.size, 1, none⟩ = some (.bool m1) ∧ w'.cell? ⟨w.heap.size + 1, 0, none⟩ = some (.slice A2 l2.length c2) ∧ w'.cell? ⟨w.heap.size + 1, 1, none⟩ = some (.bool m2)) ((first | with_reducible exact ⟨k0, k1, k2, k3⟩ | with_reducible exact ⟨(hc _ _ q0).trans k0, (hc _ _ q0).trans k1, (hc _ _ q1).trans k2, (hc _ _ q1).trans k3⟩ | with_reducible exact ⟨(zh _ _ _ _ om).trans ((hc _ _ q0).trans k0), (zh _ _ _ _ om).trans ((hc _ _ q0).trans k1), (zh _ _ _ _ om).trans ((hc _ _ q1).trans k2), (zh _ _ _ _ om).trans ((hc _ _ q1).trans k3)⟩ | exact ⟨k0, k1, k2, k3⟩ | exact ⟨(hc _ _ q0).trans k0, (hc _ _ q0).trans k1, (hc _ _ q1).trans k2, (hc _ _ q1).trans k3⟩)) (first | (go_at_call 164; refine ((aa HT) _ (bz hw0 (by (first | with_reducible assumption | (repeat (first | with_reducible exact Below.refl _ _ | with_reducible assumption | refine Below.drew ?_ | (refine Below.alloc ?_ (by simp <;> omega) _))))))).mono ?_; rintro e w' ⟨A5, c5, l5, rfl, yw, hb⟩; have hbw := cu (w := W0) bem hb; obtain ⟨hc, hfz⟩ := fu hbw) | (go_at_call 159; refine (Ah A5 c5 l5 p sg _ (by exact yw)).mono ?_; rw [HV.out]; rintro e w' ⟨A6, c6, l6, m6, rfl, Cr, hb⟩; have hbw := cu (w := W0) bem hb; obtain ⟨hc, hfz⟩ := fu hbw))
 all_goals
  have hblk : w'.heap[w.heap.size + 1 + 1]? = some (.cells #[.slice none 0 0, .bool false] 61 (0, 0)) := (hbw.block _ q2).trans NR.out
  have kg := Lib.hid hblk
  have jh : Below w.heap.size w w' := bz hw0 hbw
  clear hblk
  go_wp2_with fail
  exact bodyPost_ret (v := .agg #[.slice A6 l6.length c6, .bool m6]) (by simp [results, Tryz.results120, go_sem, hc, r0, r1, q2]) rfl
   ⟨A6, c6, l6, m6, rfl, Cr.upto kg.out (Ec _ _ _ _) (lg _ _ _ _), jh.grown (lg _ _ _ _) jh.size (fun k hk => by injection hk with hk; omega)⟩
end Go.Proofs.YtjdnmdlnaoedoaaGreatDoor
namespace Go.Proofs.YtjdnmdlnaoedoaaGreatDoor
open Go.RowKit

theorem asq (A1 : Option Addr) (c1 : Nat) (l1 : List Nat) (m1 : Bool) (A2 : Option Addr) (c2 : Nat) (l2 : List Nat) (m2 : Bool) (d : Int) (w : World) (h2 : ik w A2 c2 l2 m2 d) (hd : d ≠ 0) :
  Calls Tryz.prog 117 #[.agg #[.slice A1 l1.length c1, .bool m1, .slice A2 l2.length c2, .bool m2]] w fun e w' => e = .returned (.agg #[.slice A2 l2.length c2, .bool m2]) ∧ Below w.heap.size w w' := by
 have hl : ¬ l2.length = 0 := fun e => by have := h2.nat.Gm.2 e; omega
 have HI := hide (fun W => Yn A2 c2 l2.length m2 W)
 rw [decide_eq_false hl] at HI
 clear h2 hd
 go_enter Tryz.func117, Tryz.ntmps117
 go_wp2_with fail
 obtain ⟨n0, n1, hsz, hw0⟩ := uu w (.cells #[.slice A1 l1.length c1, .bool m1, .slice A2 l2.length c2, .bool m2] 63) (.cells #[.slice none 0 0, .bool false] 61)
 generalize ((w.alloc (.cells #[.slice A1 l1.length c1, .bool m1, .slice A2 l2.length c2, .bool m2] 63)).alloc (.cells #[.slice none 0 0, .bool false] 61)) = W0 at *
 have k2 : W0.cell? ⟨w.heap.size, 2, none⟩ = some (.slice A2 l2.length c2) := ah n0 2
 have k3 : W0.cell? ⟨w.heap.size, 3, none⟩ = some (.bool m2) := ah n0 3
 have q0 : w.heap.size < W0.heap.size := by omega
 have q1 : w.heap.size + 1 < W0.heap.size := by omega
 have r0 : W0.cell? ⟨w.heap.size + 1, 0, none⟩ = some (.slice none 0 0) := ah n1 0
 have r1 : W0.cell? ⟨w.heap.size + 1, 1, none⟩ = some (.bool false) := ah n1 1
 have f0 := bf n1 0
 have f1 := bf n1 1
 clear n0 n1 hsz
 refine ((aa HI) _).mono ?_
 rintro e w' ⟨rfl, hb⟩
 obtain ⟨hc, hfz⟩ := fu hb
 have jh : Below w.heap.size w w' := bz hw0 hb
 go_wp2_with fail
 exact bodyPost_ret (v := .agg #[.slice A2 l2.length c2, .bool m2]) (by simp [results, Tryz.results117, go_sem, hc, k2, k3, r0, r1, q1]) rfl
  ⟨rfl, jh.grown (lg _ _ _ _) jh.size (fun k hk => by injection hk with hk; omega)⟩

def bev (w : World) (z : Int) (e : Ending) (w' : World) : Prop := ∃ (v : Int) (ok : Bool), e = .returned (.tuple #[.int .i64 v, .bool ok]) ∧ ok = decide (-9223372036854775808 ≤ z ∧ z ≤ 9223372036854775807) ∧ (ok = true → v = z) ∧ Below w.heap.size w w'

theorem Us (l : List Nat) (h : 0 < l.length) : Wd.val eu (l.take 1) = Wd.g l 0 := by
 cases l with
 | nil => simp at h
 | cons a l => simp [Wd.val, Wd.qz, List.getD]
theorem aer (l : List Nat) (h : 1 < l.length) : Wd.val eu (l.take 2) = Wd.g l 0 + Wd.g l 1 * 2 ^ 32 := by
 cases l with
 | nil => simp at h
 | cons a l => cases l with
  | nil => simp at h
  | cons b l => simp [Wd.val, Wd.qz, List.getD, gp]; omega

theorem Zy (A : Option Addr) (cap : Nat) (l : List Nat) (m : Bool) (z : Int) (w : World) (h : ik w A cap l m z) :
  Calls Tryz.prog 130 #[.agg #[.slice A l.length cap, .bool m]] w fun e w' => bev w z e w' := by
 have hc1 := h.nat.tu; have hc2 := h.nat.cap2
 have hba : Below w.heap.size w (w.alloc (.cells #[.slice A l.length cap, .bool m] 61)) := (Below.refl _ _).alloc (Nat.le_refl _) _
 by_cases hl : l.length ≤ 2
 ·
  have d1 : decide ((2 : Int) < (l.length : Int)) = false := decide_eq_false om
  have hsg := h.sign
  have hn := (h.nat.below hba)
  have hbl := h.nat.Mc
  obtain ⟨n0, hsz, hw0⟩ := Xe w (.cells #[.slice A l.length cap, .bool m] 61)
  have HN := hide hn; have HBL := hide hbl; have Ic := Lib.hid hsg; have HW0 := hide hw0
  clear hba hn hbl hsg h hw0
  go_enter Tryz.func130, Tryz.ntmps130
  go_wp2_with fail
  all_goals first | omega | skip
  generalize (w.alloc (.cells #[.slice A l.length cap, .bool m] 61)) = W0 at *
  have k0 : W0.cell? ⟨w.heap.size, 0, none⟩ = some (.slice A l.length cap) := ah n0 0
  have k1 : W0.cell? ⟨w.heap.size, 1, none⟩ = some (.bool m) := ah n0 1
  clear n0 hsz
  go_loop [4, 5] (fun uv iv => ∃ i : Nat, i ≤ l.length ∧ iv = .int .i64 ((i : Nat) : Int) ∧ uv = .int .u64 ((Wd.val eu (l.take i) : Nat) : Int)) (fun _ iv => l.length - (intOf iv).toNat)
  case atStart => exact ⟨0, Nat.zero_le _, rfl, rfl⟩
  case round =>
   obtain ⟨i, hi, rfl, rfl⟩ := hrel
   by_cases hlt : i < l.length
   ·
    obtain ⟨b, o, rfl, hbb, hcell⟩ := (aa HN).ws om
    have hx := hcell i hlt
    clear hcell
    obtain ⟨x, Fg⟩ : ∃ x, x = Wd.g l i := ⟨_, rfl⟩
    rw [← Fg] at hx
    have yo : x < eu := by rw [Fg]; exact Wd.getD_lt (by rw [gp]; omega) _ (aa HN).lt i
    have e0 : IntKind.u64.wrap (x : Int) = (x : Int) := jf rfl (by rw [gp] at yo; rw [ic]; omega)
    have hi2 : i = 0 ∨ i = 1 := by omega
    rcases hi2 with rfl | rfl
    ·
     have hv : Wd.val eu (l.take 1) = x := by rw [Us l hlt, Fg]
     have hv0 : Wd.val eu (l.take 0) = 0 := rfl
     rw [Nat.add_zero] at hx
     rw [hv0]
     have g1 : Go.bits .or .u64 0 (x : Int) = (x : Int) := by
      have := bits_or_u64_nat 0 x om (by rw [gp] at yo; omega)
      simpa using this
     have HV := Lib.hid hv
     clear hv Fg hv0
     go_wp2_with fail
     go_round
     case rel => exact ⟨1, by omega, rfl, by rw [HV.out]⟩
     case measure => simp [intOf] <;> omega
    ·
     have hv : Wd.val eu (l.take 2) = Wd.g l 0 + x * 2 ^ 32 := by rw [aer l hlt, Fg]
     have hv0 : Wd.val eu (l.take 1) = Wd.g l 0 := Us l om
     have Ch : Wd.g l 0 < eu := Wd.getD_lt (by rw [gp]; omega) _ (aa HN).lt 0
     obtain ⟨y, Mg⟩ : ∃ x, x = Wd.g l 0 := ⟨_, rfl⟩
     rw [← Mg] at hv hv0 Ch
     rw [hv0]
     obtain ⟨p, hp⟩ : ∃ p, p = x * 2 ^ 32 := ⟨_, rfl⟩
     obtain ⟨s, hs⟩ : ∃ s, s = y + p := ⟨_, rfl⟩
     have g0 : IntKind.u64.wrap ((x : Int) * 2 ^ 32) = (p : Int) := jf (by rw [hp]; simp) (by rw [hp]; rw [gp] at yo; rw [ic]; omega)
     have g0' : IntKind.u64.wrap ((x : Int) * 4294967296) = (p : Int) := jf (by rw [hp]; simp) (by rw [hp]; rw [gp] at yo; rw [ic]; omega)
     have g1 : Go.bits .or .u64 (y : Int) (p : Int) = (s : Int) := by
      rw [bits_or_u64_nat y p (by rw [gp] at Ch; omega) (by rw [hp]; rw [gp] at yo; omega), hs, hp, Oi (by rw [gp] at Ch; omega)]
     rw [← hp, ← hs] at hv
     have HV := Lib.hid hv
     clear hv Fg hv0 Mg hp hs
     go_wp2_with fail
     go_round
     case rel => exact ⟨2, by omega, rfl, by rw [HV.out]⟩
     case measure => simp [intOf] <;> omega
   ·
    have e : i = l.length := by omega
    subst e
    have hv : Wd.val eu (l.take l.length) = z.natAbs := by rw [List.take_length]; exact (aa HN).val
    rw [hv]
    obtain ⟨a, ha⟩ : ∃ a, a = z.natAbs := ⟨_, rfl⟩
    have haB : a < fo := by
     have := aa HBL
     have h2 : eu ^ l.length ≤ eu ^ 2 := Nat.pow_le_pow_right (by rw [gp]; omega) hl
     rw [← ha] at this; rw [ic]; rw [gp] at *; omega
    rw [← ha]
    clear hv hlt
    go_wp2_with fail
    ·
     have hm : m = true := by assumption
     have hz : z < 0 := of_decide_eq_true (Ic.out.symm.trans hm)
     go_ret2
     refine ⟨_, _, rfl, decide_eq_decide.2 om, fun h => ?_, aa HW0⟩
     have h2 := of_decide_eq_true h
     simp only [wrap64, IntKind.wrap_u64]
     omega
    ·
     have hm : ¬ m = true := by rw [show m = false by assumption]; exact Bool.false_ne_true
     have hz : ¬ z < 0 := fun h => hm (Ic.out.trans (decide_eq_true h))
     go_ret2
     refine ⟨_, _, rfl, decide_eq_decide.2 om, fun h => ?_, aa HW0⟩
     have h2 := of_decide_eq_true h
     rw [IntWalk.wrap64_in _ om]
     omega
 ·
  have d1 : decide ((2 : Int) < (l.length : Int)) = true := decide_eq_true om
  have hnot : ¬ (-9223372036854775808 ≤ z ∧ z ≤ 9223372036854775807) := by
   intro hz
   have := h.nat.len (k := 2) (by rw [gp]; omega)
   omega
  have HNO := hide hnot
  clear h hnot
  go_enter Tryz.func130, Tryz.ntmps130
  go_wp2_with fail
  all_goals first | omega | skip
  go_ret2
  exact ⟨0, false, rfl, (decide_eq_false (aa HNO)).symm, (fun h => Bool.noConfusion h), hba⟩
end Go.Proofs.YtjdnmdlnaoedoaaGreatDoor
namespace Go.Proofs.YtjdnmdlnaoedoaaGreatDoor
open Go.RowKit

def abp (n d : Int) : Int := if Wd.xh n d then 0 else 1

theorem asj (n d : Int) (h1 : d < 1) (w : World) :
  Calls Tryz.prog 56 #[.agg #[.int .i64 n, .int .i64 d]] w fun e w' => e = .returned (.int .i64 1) ∧ Below w.heap.size w w' := by
 have d1 : decide (d < 1) = true := decide_eq_true om
 clear h1
 go_enter Tryz.func56, Tryz.ntmps56
 go_wp2
 go_ret
 exact ⟨rfl, (Below.refl _ _).alloc (Nat.le_refl _) _⟩
theorem asi (n d : Int) (h1 : ¬ d < 1) (h2 : 1000000000000 < d) (w : World) :
  Calls Tryz.prog 56 #[.agg #[.int .i64 n, .int .i64 d]] w fun e w' => e = .returned (.int .i64 1) ∧ Below w.heap.size w w' := by
 have d1 : decide (d < 1) = false := decide_eq_false om
 have d2 : decide (1000000000000 < d) = true := decide_eq_true om
 clear h1 h2
 go_enter Tryz.func56, Tryz.ntmps56
 go_wp2
 go_ret
 exact ⟨rfl, (Below.refl _ _).alloc (Nat.le_refl _) _⟩
theorem ash (n d : Int) (h1 : ¬ d < 1) (h2 : ¬ 1000000000000 < d) (h3 : n < -1000000000000) (w : World) :
  Calls Tryz.prog 56 #[.agg #[.int .i64 n, .int .i64 d]] w fun e w' => e = .returned (.int .i64 1) ∧ Below w.heap.size w w' := by
 have d1 : decide (d < 1) = false := decide_eq_false om
 have d2 : decide (1000000000000 < d) = false := decide_eq_false om
 have d3 : decide (n < -1000000000000) = true := decide_eq_true om
 clear h1 h2 h3
 go_enter Tryz.func56, Tryz.ntmps56
 go_wp2
 go_ret
 exact ⟨rfl, (Below.refl _ _).alloc (Nat.le_refl _) _⟩
theorem asg (n d : Int) (h1 : ¬ d < 1) (h2 : ¬ 1000000000000 < d) (h3 : ¬ n < -1000000000000) (h4 : 1000000000000 < n) (w : World) :
  Calls Tryz.prog 56 #[.agg #[.int .i64 n, .int .i64 d]] w fun e w' => e = .returned (.int .i64 1) ∧ Below w.heap.size w w' := by
 have d1 : decide (d < 1) = false := decide_eq_false om
 have d2 : decide (1000000000000 < d) = false := decide_eq_false om
 have d3 : decide (n < -1000000000000) = false := decide_eq_false om
 have d4 : decide (1000000000000 < n) = true := decide_eq_true om
 clear h1 h2 h3 h4
 go_enter Tryz.func56, Tryz.ntmps56
 go_wp2
 go_ret
 exact ⟨rfl, (Below.refl _ _).alloc (Nat.le_refl _) _⟩
theorem val_ok (n d : Int) (h1 : ¬ d < 1) (h2 : ¬ 1000000000000 < d) (h3 : ¬ n < -1000000000000) (h4 : ¬ 1000000000000 < n) (h5 : n.natAbs.gcd d.natAbs = 1) (w : World) (hT : qy w) :
  Calls Tryz.prog 56 #[.agg #[.int .i64 n, .int .i64 d]] w fun e w' => e = .returned (.int .i64 0) ∧ Below w.heap.size w w' := by
 have d1 : decide (d < 1) = false := decide_eq_false om
 have d2 : decide (1000000000000 < d) = false := decide_eq_false om
 have d3 : decide (n < -1000000000000) = false := decide_eq_false om
 have d4 : decide (1000000000000 < n) = false := decide_eq_false om
 have e1 : wrap64 (-n) = -n := IntWalk.wrap64_in _ om
 have e1' : IntKind.i64.wrap (-n) = -n := IntWalk.i64_in _ om
 obtain ⟨a, ha⟩ : ∃ a, a = n.natAbs := ⟨_, rfl⟩
 obtain ⟨b, hb⟩ : ∃ b, b = d.natAbs := ⟨_, rfl⟩
 have e2 : max n (-n) = ((a : Nat) : Int) := by omega
 have e3 : IntKind.u64.wrap ((a : Nat) : Int) = ((a : Nat) : Int) := by rw [IntKind.wrap_u64]; omega
 have e4 : IntKind.u64.wrap d = ((b : Nat) : Int) := by rw [IntKind.wrap_u64]; omega
 rw [← ha, ← hb] at h5
 have HG := hide (fun W (hW : qy W) => Qq a b (by rw [ic]; omega) (by rw [ic]; omega) W hW)
 have HT := hide hT
 obtain ⟨g, hg⟩ : ∃ g, g = a.gcd b := ⟨_, rfl⟩
 rw [← hg] at h5 HG
 have d5 : ((g : Int) == 1) = true := beq_iff_eq.2 om
 have d6 : ((g : Int) != 1) = false := by simp [bne, d5]
 clear h1 h2 h3 h4 h5 ha hb hg hT
 go_enter Tryz.func56, Tryz.ntmps56
 go_wp2_with fail
 refine ((aa HG) _ ((aa HT).alloc _)).mono ?_
 rintro e w' ⟨rfl, rfl⟩
 go_wp2
 go_ret
 exact ⟨rfl, (Below.refl _ _).alloc (Nat.le_refl _) _⟩
theorem asf (n d : Int) (h1 : ¬ d < 1) (h2 : ¬ 1000000000000 < d) (h3 : ¬ n < -1000000000000) (h4 : ¬ 1000000000000 < n) (h5 : ¬ n.natAbs.gcd d.natAbs = 1) (w : World) (hT : qy w) :
  Calls Tryz.prog 56 #[.agg #[.int .i64 n, .int .i64 d]] w fun e w' => e = .returned (.int .i64 1) ∧ Below w.heap.size w w' := by
 have d1 : decide (d < 1) = false := decide_eq_false om
 have d2 : decide (1000000000000 < d) = false := decide_eq_false om
 have d3 : decide (n < -1000000000000) = false := decide_eq_false om
 have d4 : decide (1000000000000 < n) = false := decide_eq_false om
 have e1 : wrap64 (-n) = -n := IntWalk.wrap64_in _ om
 have e1' : IntKind.i64.wrap (-n) = -n := IntWalk.i64_in _ om
 obtain ⟨a, ha⟩ : ∃ a, a = n.natAbs := ⟨_, rfl⟩
 obtain ⟨b, hb⟩ : ∃ b, b = d.natAbs := ⟨_, rfl⟩
 have e2 : max n (-n) = ((a : Nat) : Int) := by omega
 have e3 : IntKind.u64.wrap ((a : Nat) : Int) = ((a : Nat) : Int) := by rw [IntKind.wrap_u64]; omega
 have e4 : IntKind.u64.wrap d = ((b : Nat) : Int) := by rw [IntKind.wrap_u64]; omega
 rw [← ha, ← hb] at h5
 have HG := hide (fun W (hW : qy W) => Qq a b (by rw [ic]; omega) (by rw [ic]; omega) W hW)
 have HT := hide hT
 obtain ⟨g, hg⟩ : ∃ g, g = a.gcd b := ⟨_, rfl⟩
 rw [← hg] at h5 HG
 have d5 : ((g : Int) == 1) = false := beq_eq_false_iff_ne.2 om
 have d6 : ((g : Int) != 1) = true := by simp [bne, d5]
 clear h1 h2 h3 h4 h5 ha hb hg hT
 go_enter Tryz.func56, Tryz.ntmps56
 go_wp2_with fail
 refine ((aa HG) _ ((aa HT).alloc _)).mono ?_
 rintro e w' ⟨rfl, rfl⟩
 go_wp2
 go_ret
 exact ⟨rfl, (Below.refl _ _).alloc (Nat.le_refl _) _⟩
theorem ajh (n d : Int) (w : World) (hT : qy w) :
  Calls Tryz.prog 56 #[.agg #[.int .i64 n, .int .i64 d]] w fun e w' => e = .returned (.int .i64 (abp n d)) ∧ Below w.heap.size w w' := by
 unfold abp
 by_cases h1 : d < 1
 ·
  rw [if_neg (by unfold Wd.xh; omega)]; exact asj n d h1 w
 by_cases h2 : 1000000000000 < d
 ·
  rw [if_neg (by unfold Wd.xh; omega)]; exact asi n d h1 h2 w
 by_cases h3 : n < -1000000000000
 ·
  rw [if_neg (by unfold Wd.xh; omega)]; exact ash n d h1 h2 h3 w
 by_cases h4 : 1000000000000 < n
 ·
  rw [if_neg (by unfold Wd.xh; omega)]; exact asg n d h1 h2 h3 h4 w
 by_cases h5 : n.natAbs.gcd d.natAbs = 1
 ·
  rw [if_pos (by unfold Wd.xh; omega)]; exact val_ok n d h1 h2 h3 h4 h5 w hT
 ·
  rw [if_neg (by unfold Wd.xh; omega)]; exact asf n d h1 h2 h3 h4 h5 w hT
end Go.Proofs.YtjdnmdlnaoedoaaGreatDoor
namespace Go.Proofs.YtjdnmdlnaoedoaaGreatDoor
open Go.RowKit

theorem ayj (n d : Int) (w : World) :
  Calls Tryz.prog 60 #[.agg #[.int .i64 n, .int .i64 d]] w fun e w' => e = .returned (.bool (decide (Wd.xh n d))) ∧ Below w.heap.size w w' := by
 have hba : Below w.heap.size w (w.alloc (.cells #[.int .i64 n, .int .i64 d] 23)) := (Below.refl _ _).alloc (Nat.le_refl _) _
 have HB := hide hba
 by_cases hr : 1 ≤ d ∧ d ≤ 1000000000000 ∧ -1000000000000 ≤ n ∧ n ≤ 1000000000000
 ·
  obtain ⟨r1, r2, r3, r4⟩ := hr
  have hok : decide (n.natAbs.gcd d.natAbs = 1) = decide (Wd.xh n d) := decide_eq_decide.2 (by
   unfold Wd.xh
   constructor
   ·
    intro h; refine ⟨?_, ?_, ?_, ?_, ?_⟩ <;> first | omega | exact h
   ·
    rintro ⟨_, _, _, _, h⟩; exact h)
  rw [← hok]
  obtain ⟨rb, hrb⟩ : ∃ b, b = decide (n.natAbs.gcd d.natAbs = 1) := ⟨_, rfl⟩
  rw [← hrb]
  have HRB := Lib.hid hrb
  clear hok hba hrb
  have d1 : decide (d < 1) = false := decide_eq_false om
  have d2 : decide (1000000000000 < d) = false := decide_eq_false om
  have d3 : decide (n < -1000000000000) = false := decide_eq_false om
  have d4 : decide (1000000000000 < n) = false := decide_eq_false om
  have en : IntKind.i64.wrap (-n) = -n := IntWalk.i64_in _ om
  obtain ⟨a, ha⟩ : ∃ a, a = n.natAbs := ⟨_, rfl⟩
  obtain ⟨b, hb⟩ : ∃ b, b = d.natAbs := ⟨_, rfl⟩
  go_enter Tryz.func60, Tryz.ntmps60
  go_wp2_with fail
  all_goals first | omega | skip
  all_goals go_quiet (fail)
  all_goals go_wp2_with fail
  all_goals
   have HRR := hide (And.intro r1 (And.intro r2 (And.intro r3 r4)))
   go_loopw [3, 4] (fun av bv wr => ∃ (a b : Nat), av = .int .i64 ((a : Nat) : Int) ∧ bv = .int .i64 ((b : Nat) : Int) ∧ a ≤ 1000000000000 ∧ b ≤ 1000000000000 ∧ Hid (a.gcd b = n.natAbs.gcd d.natAbs) ∧ Below w.heap.size w wr) (fun _ bv _ => (intOf bv).toNat)
   case atStart =>
    refine ⟨n.natAbs, d.natAbs, ?_, ?_, by omega, by omega, rfl, by first | exact aa HB | exact (aa HB).drew | exact qb (aa HB) _⟩
    ·
     show Value.int .i64 _ = Value.int .i64 _
     congr 1; omega
    ·
     show Value.int .i64 _ = Value.int .i64 _
     congr 1; omega
   case round =>
    obtain ⟨a, b, rfl, rfl, ha, hb, HG, hbl⟩ := hrel
    by_cases h0 : b = 0
    ·
     subst h0
     have hg := HG.out
     rw [Nat.gcd_zero_right] at hg
     have hres : ((a : Int) == 1) = rb := by
      rw [HRB.out]
      by_cases h : a = 1
      ·
       exact (show ((a : Int) == 1) = true by rw [h]; rfl).trans (decide_eq_true (hg.symm.trans h)).symm
      ·
       exact (show ((a : Int) == 1) = false from beq_eq_false_iff_ne.2 om).trans (decide_eq_false (fun e => h (hg.trans e))).symm
     have blv := Lib.hid hres
     clear hg hres
     go_wp2_with fail
     all_goals first | omega | skip
     go_ret
     exact ⟨by rw [← blv.out]; rfl, hbl⟩
    ·
     have dp : decide ((0 : Int) < (b : Int)) = true := decide_eq_true om
     have dp' : decide (0 < b) = true := decide_eq_true om
     have e1 : ((a : Int)).tmod (b : Int) = ((a % b : Nat) : Int) := (Int.ofNat_tmod _ _).symm
     have e2 : ((b : Int) == 0) = false := beq_eq_false_iff_ne.2 om
     have e3 : ¬ ((b : Int) = 0) := by omega
     have hm := Nat.mod_lt a (Nat.pos_of_ne_zero h0)
     obtain ⟨r, hr⟩ : ∃ r, r = a % b := ⟨_, rfl⟩
     rw [← hr] at e1 hm
     have e4 : IntKind.i64.wrap (r : Int) = (r : Int) := IntWalk.i64_in _ om
     have hgg : b.gcd r = n.natAbs.gcd d.natAbs := by
      rw [← HG.out, hr, Nat.gcd_comm b (a % b), ← Nat.gcd_rec b a, Nat.gcd_comm]
     have HGG := Lib.hid hgg
     clear hgg hr HG
     go_wp2_with fail
     all_goals first | omega | skip
     go_quiet (fail)
     go_wp2_with fail
     go_roundw
     case rel => exact ⟨b, r, by go_num, by go_num, by omega, by omega, HGG, by first | exact hbl | exact hbl.drew | exact qb hbl _⟩
     case measure => simp [intOf] <;> omega
 ·
  have hok : decide (Wd.xh n d) = false := decide_eq_false (by
   unfold Wd.xh
   rintro ⟨a1, a2, a3, a4, _⟩
   exact hr ⟨by omega, by omega, by omega, by omega⟩)
  rw [hok]
  clear hok hba
  go_enter Tryz.func60, Tryz.ntmps60
  go_wp2_with fail
  all_goals first | omega | skip
  all_goals
   go_ret
   exact ⟨rfl, aa HB⟩
end Go.Proofs.YtjdnmdlnaoedoaaGreatDoor
namespace Go.Proofs.YtjdnmdlnaoedoaaGreatDoor
open Go.RowKit

def Ra (n1 d1 n2 d2 : Int) : Int := if Wd.xh n1 d1 ∧ Wd.xh n2 d2 then 0 else 1

theorem aqo (n1 d1 n2 d2 : Int) (g : Nat) (w : World) (hT : qy w) (hg : g < w.heap.size)
  (k0 : w.cell? ⟨g, 0, none⟩ = some (.int .i64 n1)) (k1 : w.cell? ⟨g, 1, none⟩ = some (.int .i64 d1)) (k2 : w.cell? ⟨g, 2, none⟩ = some (.int .i64 n2)) (k3 : w.cell? ⟨g, 3, none⟩ = some (.int .i64 d2)) :
  Calls Tryz.prog 112 #[.slice (some ⟨g, 0, none⟩) 2 2] w fun e w' => e = .returned (.int .i64 (Ra n1 d1 n2 d2)) ∧ Below w.heap.size w w' := by
 have HT := hide hT
 have HK := hide (And.intro k0 (And.intro k1 (And.intro k2 k3)))
 obtain ⟨r, hr⟩ : ∃ r, r = Ra n1 d1 n2 d2 := ⟨_, rfl⟩
 rw [← hr]
 have HR := Lib.hid hr
 have Um := hide (fun W (hW : qy W) => ajh n1 d1 W hW)
 have Nn := hide (fun W (hW : qy W) => ajh n2 d2 W hW)
 clear hT hr k0 k1 k2 k3
 go_enter Tryz.func112, Tryz.ntmps112
 go_wp2
 go_loopw [8] (fun iv wr => ∃ i : Nat, i ≤ 2 ∧ iv = .int .i64 ((i : Nat) : Int) ∧ Hid (0 < i → Wd.xh n1 d1) ∧ Hid (1 < i → Wd.xh n2 d2) ∧ Below w.heap.size w wr) (fun iv _ => 2 - (intOf iv).toNat)
 case atStart => exact ⟨0, by omega, rfl, fun h => by omega, fun h => by omega, Below.refl _ _⟩
 case round =>
  obtain ⟨i, hi, rfl, h1, h2, hb⟩ := hrel
  have hTr : qy wr := (aa HT).below hb
  have kk : ∀ o v, w.cell? ⟨g, o, none⟩ = some v → wr.cell? ⟨g, o, none⟩ = some v := fun o v hv => (hb.cell (p := ⟨g, o, none⟩) hg).trans hv
  have k0 := kk _ _ (aa HK).1
  have k1 := kk _ _ (aa HK).2.1
  have k2 := kk _ _ (aa HK).2.2.1
  have k3 := kk _ _ (aa HK).2.2.2
  have Un := hide hTr
  clear kk hTr hg
  by_cases i2 : i = 2
  ·
   subst i2
   have hr : r = 0 := by rw [HR.out]; unfold Ra; rw [if_pos ⟨(aa h1) om, (aa h2) om⟩]
   subst hr
   go_wp2
   go_ret
   exact ⟨rfl, hb⟩
  by_cases i1 : i = 1
  ·
   subst i1
   by_cases ok : Wd.xh n2 d2
   ·
    have hv : abp n2 d2 = 0 := if_pos ok
    rw [hv] at Nn
    clear i2 hi hv
    go_wp2_with fail
    refine ((aa Nn) _ (by first | exact (aa Un).alloc _ | exact ((aa Un).alloc _).alloc _ | exact (aa Un).drew.alloc _)).mono ?_
    rintro e w' ⟨rfl, hb2⟩
    have hb3 : Below w.heap.size w w' := bz (hb.alloc hb.size _) hb2
    go_wp2
    go_roundw
    case rel => exact ⟨2, by omega, by go_num, fun _ => (aa h1) om, fun _ => ok, hb3⟩
    case measure => simp [intOf]
   ·
    have hv : abp n2 d2 = 1 := if_neg ok
    have hr : r = 1 := by rw [HR.out]; unfold Ra; rw [if_neg (fun h => ok h.2)]
    subst hr
    rw [hv] at Nn
    clear i2 hi hv
    go_wp2_with fail
    refine ((aa Nn) _ (by first | exact (aa Un).alloc _ | exact ((aa Un).alloc _).alloc _ | exact (aa Un).drew.alloc _)).mono ?_
    rintro e w' ⟨rfl, hb2⟩
    have hb3 : Below w.heap.size w w' := bz (hb.alloc hb.size _) hb2
    go_wp2
    go_ret
    exact ⟨rfl, hb3⟩
  ·
   have i0 : i = 0 := by omega
   subst i0
   by_cases ok : Wd.xh n1 d1
   ·
    have hv : abp n1 d1 = 0 := if_pos ok
    rw [hv] at Um
    clear i1 i2 hi hv
    go_wp2_with fail
    refine ((aa Um) _ (by first | exact (aa Un).alloc _ | exact ((aa Un).alloc _).alloc _ | exact (aa Un).drew.alloc _)).mono ?_
    rintro e w' ⟨rfl, hb2⟩
    have hb3 : Below w.heap.size w w' := bz (hb.alloc hb.size _) hb2
    go_wp2
    go_roundw
    case rel => exact ⟨1, by omega, by go_num, fun _ => ok, fun h => by omega, hb3⟩
    case measure => simp [intOf]
   ·
    have hv : abp n1 d1 = 1 := if_neg ok
    have hr : r = 1 := by rw [HR.out]; unfold Ra; rw [if_neg (fun h => ok h.1)]
    subst hr
    rw [hv] at Um
    clear i1 i2 hi hv
    go_wp2_with fail
    refine ((aa Um) _ (by first | exact (aa Un).alloc _ | exact ((aa Un).alloc _).alloc _ | exact (aa Un).drew.alloc _)).mono ?_
    rintro e w' ⟨rfl, hb2⟩
    have hb3 : Below w.heap.size w w' := bz (hb.alloc hb.size _) hb2
    go_wp2
    go_ret
    exact ⟨rfl, hb3⟩
end Go.Proofs.YtjdnmdlnaoedoaaGreatDoor
namespace Go.Proofs.YtjdnmdlnaoedoaaGreatDoor
open Go.RowKit

end Go.Proofs.YtjdnmdlnaoedoaaGreatDoor
namespace Go.Proofs.YtjdnmdlnaoedoaaGreatDoor
open Go.RowKit

def Ex (w : World) (b : Nat) (z : Int) : Prop := ∃ A cap l m, w.heap[b]? = some (.cells #[.slice A (List.length l) cap, .bool m] 61 (0, 0)) ∧ ik w A cap l m z
theorem Ex.below {w w' : World} {b : Nat} {z : Int} (h : Ex w b z) (hb : Below w.heap.size w w') : Ex w' b z := by
 obtain ⟨A, cap, l, m, h1, h2⟩ := h
 exact ⟨A, cap, l, m, (hb.block _ (lt_of_block h1)).trans h1, h2.below hb⟩
theorem Ex.lt {w : World} {b : Nat} {z : Int} (h : Ex w b z) : b < w.heap.size := by
 obtain ⟨A, cap, l, m, h1, _⟩ := h; exact lt_of_block h1
theorem Ex.put {w : World} {b : Nat} {z0 z : Int} {A : Option Addr} {cap : Nat} {l : List Nat} {m : Bool} (h : Ex w b z0) (hf : ik w A cap l m z) :
  Ex ((w.setCell ⟨b, 0, none⟩ (.slice A l.length cap)).setCell ⟨b, 1, none⟩ (.bool m)) b z := by
 obtain ⟨A0, c0, l0, m0, h1, _⟩ := h
 exact ⟨A, cap, l, m, Sv h1, hf.upto h1 (Ec _ _ _ _) (lg _ _ _ _)⟩
theorem Ex.other {w : World} {b b' : Nat} {z z' : Int} (u0 u1 : Value) (h : Ex w b z) (hb : Ex w b' z') (hne : b ≠ b') : Ex ((w.setCell ⟨b', 0, none⟩ u0).setCell ⟨b', 1, none⟩ u1) b z := by
 obtain ⟨A, cap, l, m, h1, h2⟩ := h
 obtain ⟨A0, c0, l0, m0, h3, _⟩ := hb
 have hg := lg w b' u0 u1
 exact ⟨A, cap, l, m, (hg.block b (lt_of_block h1) (fun e => hne (by injection e))).trans h1, h2.upto h3 (Ec _ _ _ _) hg⟩
theorem ik.put {w : World} {b : Nat} {z z' : Int} {A : Option Addr} {cap : Nat} {l : List Nat} {m : Bool} (u0 u1 : Value) (hf : ik w A cap l m z) (hb : Ex w b z') : ik ((w.setCell ⟨b, 0, none⟩ u0).setCell ⟨b, 1, none⟩ u1) A cap l m z := by
 obtain ⟨A0, c0, l0, m0, h1, _⟩ := hb
 exact hf.upto h1 (Ec _ _ _ _) (lg _ _ _ _)

structure Wq (w W : World) (n d : Int) : Prop where
 bn : Ex W w.heap.size n
 bd : Ex W (w.heap.size + 1) d
 bq : W.heap[w.heap.size + 1 + 1]? = some (.cells #[.slice none 0 0, .bool false, .slice none 0 0, .bool false] 63 (0, 0))
 hb : Below w.heap.size w W
theorem Wq.below {w W W' : World} {n d : Int} (h : Wq w W n d) (hb : Below W.heap.size W W') : Wq w W' n d :=
 ⟨h.bn.below hb, h.bd.below hb, (hb.block _ (lt_of_block h.bq)).trans h.bq, bz h.hb hb⟩
theorem Wq.put {w W : World} {n d n' d' : Int} {A1 : Option Addr} {c1 : Nat} {l1 : List Nat} {m1 : Bool} {A2 : Option Addr} {c2 : Nat} {l2 : List Nat} {m2 : Bool} (h : Wq w W n d) (h1 : ik W A1 c1 l1 m1 n') (h2 : ik W A2 c2 l2 m2 d') :
  Wq w ((((W.setCell ⟨w.heap.size, 0, none⟩ (.slice A1 l1.length c1)).setCell ⟨w.heap.size, 1, none⟩ (.bool m1)).setCell ⟨w.heap.size + 1, 0, none⟩ (.slice A2 l2.length c2)).setCell ⟨w.heap.size + 1, 1, none⟩ (.bool m2)) n' d' := by
 have a1 := h.bn.put h1
 have a2 := h.bd.other (.slice A1 l1.length c1) (.bool m1) h.bn om
 have a3 := h2.put (.slice A1 l1.length c1) (.bool m1) h.bn
 have g1 := lg W w.heap.size (.slice A1 l1.length c1) (.bool m1)
 generalize ((W.setCell ⟨w.heap.size, 0, none⟩ (.slice A1 l1.length c1)).setCell ⟨w.heap.size, 1, none⟩ (.bool m1)) = W1 at *
 have b1 := a2.put a3
 have b2 := a1.other (.slice A2 l2.length c2) (.bool m2) a2 om
 have g2 := lg W1 (w.heap.size + 1) (.slice A2 l2.length c2) (.bool m2)
 have q1 := (g1.block _ (lt_of_block h.bq) (fun e => by injection e with e; omega)).trans h.bq
 exact ⟨b2, b1, (g2.block _ (lt_of_block q1) (fun e => by injection e with e; omega)).trans q1,
  (h.hb.grown g1 h.hb.size (fun k hk => by injection hk with hk; omega)).grown g2 (by have := g1.size; have := h.hb.size; omega) (fun k hk => by injection hk with hk; omega)⟩

theorem Wq.keep {w W : World} {n d : Int} (u0 u1 u2 u3 : Value) {A : Option Addr} {cap : Nat} {l : List Nat} {m : Bool} {z : Int} (h : Wq w W n d) (x : ik W A cap l m z) :
  ik ((((W.setCell ⟨w.heap.size, 0, none⟩ u0).setCell ⟨w.heap.size, 1, none⟩ u1).setCell ⟨w.heap.size + 1, 0, none⟩ u2).setCell ⟨w.heap.size + 1, 1, none⟩ u3) A cap l m z :=
 (x.put u0 u1 h.bn).put u2 u3 (h.bd.other u0 u1 h.bn om)

def QR (w : World) (q : Rat) (e : Ending) (w' : World) : Prop := ∃ A1 c1 l1 m1 A2 c2 l2 m2, e = .returned (.agg #[.slice A1 (List.length l1) c1, .bool m1, .slice A2 (List.length l2) c2, .bool m2]) ∧ ik w' A1 c1 l1 m1 q.num ∧ ik w' A2 c2 l2 m2 (q.den : Int) ∧ Below w.heap.size w w'

theorem amr (n d : Int) (hd : 0 < d) : (Rat.divInt n d).num = (if decide (n < 0) = true then -((n.natAbs / (n.natAbs.gcd d.natAbs) : Nat) : Int) else ((n.natAbs / (n.natAbs.gcd d.natAbs) : Nat) : Int)) ∧ ((Rat.divInt n d).den : Int) = ((d.natAbs / (n.natAbs.gcd d.natAbs) : Nat) : Int) := by
 obtain ⟨h1, h2⟩ := Wd.Pt n d om
 rw [Int.sign_eq_one_of_pos hd, Int.one_mul] at h1 h2
 rw [h1, h2]
 generalize n.natAbs.gcd d.natAbs = g
 constructor
 ·
  by_cases hn : n < 0
  ·
   rw [if_pos (decide_eq_true hn)]
   obtain ⟨k, hk⟩ : ∃ k : Nat, n = -(k : Int) := ⟨n.natAbs, by omega⟩
   subst hk
   rw [Int.neg_tdiv, Int.natAbs_neg, Int.natAbs_natCast, Int.ofNat_tdiv]
  ·
   rw [if_neg (by simpa using hn)]
   obtain ⟨k, hk⟩ : ∃ k : Nat, n = (k : Int) := ⟨n.natAbs, by omega⟩
   subst hk
   rw [Int.natAbs_natCast, Int.ofNat_tdiv]
 ·
  obtain ⟨k, hk⟩ : ∃ k : Nat, d = (k : Int) := ⟨d.natAbs, by omega⟩
  subst hk
  rw [Int.natAbs_natCast, Int.ofNat_tdiv]
theorem aeg (n d : Int) (hd : d ≠ 0) : Rat.divInt (-n) (-d) = Rat.divInt n d := by
 rw [Rat.divInt_eq_divInt_iff om hd, Int.neg_mul, Int.mul_neg]
end Go.Proofs.YtjdnmdlnaoedoaaGreatDoor
namespace Go.Proofs.YtjdnmdlnaoedoaaGreatDoor
open Go.RowKit

structure QV (w : World) (A1 : Option Addr) (c1 : Nat) (l1 : List Nat) (m1 : Bool) (A2 : Option Addr) (c2 : Nat) (l2 : List Nat) (m2 : Bool) (q : Rat) : Prop where
 num : ik w A1 c1 l1 m1 q.num
 den : ∃ d : Int, ik w A2 c2 l2 m2 d ∧ (d = (q.den : Int) ∨ (d = 0 ∧ q.den = 1))
theorem QV.below {w w' : World} {A1 : Option Addr} {c1 : Nat} {l1 : List Nat} {m1 : Bool} {A2 : Option Addr} {c2 : Nat} {l2 : List Nat} {m2 : Bool} {q : Rat} (h : QV w A1 c1 l1 m1 A2 c2 l2 m2 q) (hb : Below w.heap.size w w') : QV w' A1 c1 l1 m1 A2 c2 l2 m2 q := by
 obtain ⟨d, h2, h3⟩ := h.den
 exact ⟨h.num.below hb, d, h2.below hb, h3⟩
theorem QV.of {w : World} {A1 : Option Addr} {c1 : Nat} {l1 : List Nat} {m1 : Bool} {A2 : Option Addr} {c2 : Nat} {l2 : List Nat} {m2 : Bool} {q : Rat} (h1 : ik w A1 c1 l1 m1 q.num) (h2 : ik w A2 c2 l2 m2 (q.den : Int)) : QV w A1 c1 l1 m1 A2 c2 l2 m2 q :=
 ⟨h1, _, h2, .inl rfl⟩
theorem ik.len {w : World} {A : Option Addr} {cap : Nat} {l : List Nat} {m : Bool} {z : Int} {K : Nat} (h : ik w A cap l m z) (hz : z.natAbs < eu ^ K) : l.length ≤ K := h.nat.len hz

theorem Sq (w : World) :
  Calls Tryz.prog 129 #[] w fun e w' => Ba w 1 e w' := by
 go_enter Tryz.func129, Tryz.ntmps129
 go_wp2_with fail
 obtain ⟨n0, n1, hsz, hw0⟩ := uu w (.cells #[.slice (some ⟨w.heap.size + 1, 0, none⟩) 1 1, .bool false] 61) (.cells #[.int .u32 1] 156)
 generalize ((w.alloc (.cells #[.slice (some ⟨w.heap.size + 1, 0, none⟩) 1 1, .bool false] 61)).alloc (.cells #[.int .u32 1] 156)) = W0 at *
 have hz : ZB .u32 W0 (w.heap.size + 1) 156 [1] := n1
 have hn : qo W0 (some ⟨w.heap.size + 1, 0, none⟩) 1 [1] 1 := ⟨hz.Et _ hz.lt, by simp, by omega, by intro x hx; rw [List.mem_singleton] at hx; subst hx; exact Am, .inr (by simp), by simp [Wd.val]⟩
 have k0 : W0.cell? ⟨w.heap.size, 0, none⟩ = some (.slice (some ⟨w.heap.size + 1, 0, none⟩) 1 1) := ah n0 0
 have k1 : W0.cell? ⟨w.heap.size, 1, none⟩ = some (.bool false) := ah n0 1
 exact bodyPost_ret (v := .agg #[.slice (some ⟨w.heap.size + 1, 0, none⟩) 1 1, .bool false]) (by simp [results, Tryz.results129, go_sem, k0, k1]) rfl
  ⟨_, 1, [1], false, rfl, ⟨hn, rfl⟩, hw0⟩

theorem aew (A1 : Option Addr) (c1 : Nat) (l1 : List Nat) (m1 : Bool) (A2 : Option Addr) (c2 : Nat) (l2 : List Nat) (m2 : Bool) (w : World) (h2 : ik w A2 c2 l2 m2 0) :
  Calls Tryz.prog 117 #[.agg #[.slice A1 l1.length c1, .bool m1, .slice A2 l2.length c2, .bool m2]] w fun e w' => Ba w 1 e w' := by
 have hl : l2.length = 0 := h2.nat.Gm.1 rfl
 have HI := hide (fun W => Yn A2 c2 l2.length m2 W)
 rw [decide_eq_true hl] at HI
 have HO := hide Sq
 clear h2 hl
 go_enter Tryz.func117, Tryz.ntmps117
 go_wp2_with fail
 obtain ⟨n0, n1, hsz, hw0⟩ := uu w (.cells #[.slice A1 l1.length c1, .bool m1, .slice A2 l2.length c2, .bool m2] 63) (.cells #[.slice none 0 0, .bool false] 61)
 generalize ((w.alloc (.cells #[.slice A1 l1.length c1, .bool m1, .slice A2 l2.length c2, .bool m2] 63)).alloc (.cells #[.slice none 0 0, .bool false] 61)) = W0 at *
 have q1 : w.heap.size + 1 < W0.heap.size := by omega
 have r0 : W0.cell? ⟨w.heap.size + 1, 0, none⟩ = some (.slice none 0 0) := ah n1 0
 have r1 : W0.cell? ⟨w.heap.size + 1, 1, none⟩ = some (.bool false) := ah n1 1
 have f0 := bf n1 0
 have f1 := bf n1 1
 have NR := Lib.hid n1
 clear n0 n1 hsz
 refine ((aa HI) _).mono ?_
 rintro e W1 ⟨rfl, hb⟩
 have HB := hide hb
 clear hb
 go_wp2_with fail
 refine ((aa HO) _).mono ?_
 rintro e w' ⟨A5, c5, l5, m5, rfl, yx, hb2⟩
 have hb := bz (aa HB) hb2
 obtain ⟨hc, hfz⟩ := fu hb
 have hblk : w'.heap[w.heap.size + 1]? = some (.cells #[.slice none 0 0, .bool false] 61 (0, 0)) := (hb.block _ q1).trans NR.out
 have kg := Lib.hid hblk
 have jh : Below w.heap.size w w' := bz hw0 hb
 clear hblk hb2
 go_wp2_with fail
 exact bodyPost_ret (v := .agg #[.slice A5 l5.length c5, .bool m5]) (by simp [results, Tryz.results117, go_sem, hc, r0, r1, q1]) rfl
  ⟨A5, c5, l5, m5, rfl, yx.upto kg.out (Ec _ _ _ _) (lg _ _ _ _), jh.grown (lg _ _ _ _) jh.size (fun k hk => by injection hk with hk; omega)⟩

theorem Qg (A1 : Option Addr) (c1 : Nat) (l1 : List Nat) (m1 : Bool) (A2 : Option Addr) (c2 : Nat) (l2 : List Nat) (m2 : Bool) (q : Rat) (w : World) (h : QV w A1 c1 l1 m1 A2 c2 l2 m2 q) :
  Calls Tryz.prog 117 #[.agg #[.slice A1 l1.length c1, .bool m1, .slice A2 l2.length c2, .bool m2]] w fun e w' => Ba w (q.den : Int) e w' := by
 obtain ⟨d, h2, rfl | ⟨rfl, h1⟩⟩ := h.den
 ·
  refine (asq A1 c1 l1 m1 A2 c2 l2 m2 _ w h2 (by have := q.den_nz; omega)).mono ?_
  rintro e w' ⟨rfl, hb⟩
  exact ⟨A2, c2, l2, m2, rfl, h2.below hb, hb⟩
 ·
  rw [h1]
  exact aew A1 c1 l1 m1 A2 c2 l2 m2 w h2
end Go.Proofs.YtjdnmdlnaoedoaaGreatDoor
namespace Go.Proofs.YtjdnmdlnaoedoaaGreatDoor
open Go.RowKit

namespace Wd
structure Hw (B : Nat) (xl yl l : List Nat) (i c : Nat) : Prop where
 len : l.length = i
 lt : ∀ x ∈ l, x < B
 c1 : c ≤ 1
 eq : Wd.val B l + B ^ i * c = Wd.val B (xl.take i) + Wd.val B (yl.take i)
theorem Hw.start (B : Nat) (xl yl : List Nat) : Hw B xl yl [] 0 0 := ⟨rfl, by simp, by omega, by simp [val]⟩
theorem Yx {B : Nat} {l : List Nat} {d : Nat} (h : ∀ x ∈ l, x < B) (hd : d < B) : ∀ x ∈ l ++ [d], x < B := by
 intro t ht
 rw [List.mem_append] at ht
 rcases ht with h1 | h1
 ·
  exact h t h1
 ·
  rw [List.mem_singleton] at h1; subst h1; exact hd
theorem Hw.step {B : Nat} {xl yl l : List Nat} {i c x y s : Nat} (hB : 1 < B) (h : Hw B xl yl l i c) (hx : x = xl.getD i 0) (yo : x < B) (hy : y = yl.getD i 0) (Ch : y < B) (hs : s = c + x + y) :
  Hw B xl yl (l ++ [s % B]) (i + 1) (s / B) := by
 have hc := h.c1
 refine ⟨by simp [h.len], Yx h.lt (Nat.mod_lt _ om), ?_, ?_⟩
 ·
  exact Nat.lt_succ_iff.1 ((Nat.div_lt_iff_lt_mul om).2 om)
 ·
  rw [Bi, h.len, Nat.pow_succ, mi, mi, ← hx, ← hy]
  have e := Nat.mod_add_div s B
  have h1 := h.eq
  have e2 : B ^ i * (s % B) + B ^ i * B * (s / B) = B ^ i * c + B ^ i * x + B ^ i * y := by
   rw [Nat.mul_assoc, ← Nat.mul_add, e, hs, Nat.mul_add, Nat.mul_add]
  omega
theorem Hw.done {B : Nat} {xl yl l : List Nat} {i c : Nat} (h : Hw B xl yl l i c) (hx : xl.length ≤ i) (hy : yl.length ≤ i) : Wd.val B (l ++ [c]) = Wd.val B xl + Wd.val B yl := by
 have h1 := h.eq
 rw [jk _ _ _ hx, jk _ _ _ hy] at h1
 rw [Bi, h.len, h1]
structure Ia (B : Nat) (xl yl l : List Nat) (i b : Nat) : Prop where
 len : l.length = i
 lt : ∀ x ∈ l, x < B
 b1 : b ≤ 1
 eq : Wd.val B l + Wd.val B (yl.take i) = Wd.val B (xl.take i) + B ^ i * b
theorem Ia.start (B : Nat) (xl yl : List Nat) : Ia B xl yl [] 0 0 := ⟨rfl, by simp, by omega, by simp [val]⟩
theorem Ia.step {B : Nat} {xl yl l : List Nat} {i b x y d b' : Nat} (h : Ia B xl yl l i b) (hx : x = xl.getD i 0) (hy : y = yl.getD i 0) (hd : d < B) (hb : b' ≤ 1) (hs : d + y + b = x + B * b') :
  Ia B xl yl (l ++ [d]) (i + 1) b' := by
 refine ⟨by simp [h.len], Yx h.lt hd, hb, ?_⟩
 rw [Bi, h.len, Nat.pow_succ, mi, mi, ← hx, ← hy]
 have h1 := h.eq
 have e2 : B ^ i * d + B ^ i * y + B ^ i * b = B ^ i * x + B ^ i * B * b' := by
  rw [← Nat.mul_add, ← Nat.mul_add, hs, Nat.mul_add, Nat.mul_assoc]
 omega
theorem Ia.done {B : Nat} {xl yl l : List Nat} {i b : Nat} (h : Ia B xl yl l i b) (hx : xl.length = i) (hy : yl.length ≤ i) (hle : Wd.val B yl ≤ Wd.val B xl) : Wd.val B l = Wd.val B xl - Wd.val B yl := by
 have h1 := h.eq
 rw [jk B xl i om, jk B yl i hy] at h1
 have h2 := Cf l h.lt
 rw [h.len] at h2
 have hb := h.b1
 rcases (show b = 0 ∨ b = 1 by omega) with rfl | rfl
 ·
  omega
 ·
  rw [Nat.mul_one] at h1; omega
end Wd

theorem apv {w : World} {base g cap B : Nat} {T : TypeId} {l : List Nat} {n : Nat} (hn : n = l.length) (h : w.ownsRow base T 1 (.slice (some ⟨g, 0, none⟩) n cap) n (yh .u32 l)) (hB : g < B) :
  Ws .u32 w B (some ⟨g, 0, none⟩) l ∧ l.length ≤ cap ∧ cap ≤ maxLen := by
 subst hn
 obtain ⟨_, ⟨h1, _⟩ | ⟨g', cap', cur, he, hb, hh, hn, hc, hs, ht⟩⟩ := h
 ·
  injection h1 with h2; cases h2
 ·
  injection he with e1 _ e2
  injection e1 with e1; injection e1 with e1
  subst e1 e2
  refine ⟨fun hl => ⟨g, 0, rfl, hB, fun j hj => ?_⟩, hn, hc⟩
  have hj2 : (cur.toList.take (l.length * 1))[j]? = some (.int .u32 ((Wd.g l j : Nat) : Int)) := by
   rw [ht]
   simp [yh, Wd.g, List.getD, hj]
  rw [List.getElem?_take] at hj2
  simp only [World.cell?, hh, Option.isSome_none, Bool.false_eq_true, if_false]
  rw [if_pos om] at hj2
  simpa using hj2
theorem afp {w : World} {base g cap : Nat} {T : TypeId} {l : List Value} {n : Nat} (h : w.ownsRow base T 1 (.slice (some ⟨g, 0, none⟩) n cap) n l) : g < w.heap.size := by
 obtain ⟨_, ⟨h1, _⟩ | ⟨g', cap', cur, he, hb, hh, hn, hc, hs, ht⟩⟩ := h
 ·
  injection h1 with h2; cases h2
 ·
  injection he with e1 _ e2
  injection e1 with e1; injection e1 with e1
  subst e1
  exact lt_of_block hh
theorem ada (n : Nat) (h : n ≤ 35184372088832) (w : World) : (Instr.makeSlice 59 (.int .i64 0) (.int .i64 (n : Int))).run Tryz.prog w =
  .ok (.slice (some ⟨w.heap.size, 0, none⟩) 0 n) (w.alloc (.cells (wz .u32 (List.replicate n 0)) 156)) := by
 obtain ⟨i0, hi, hz0, hz1, hz2⟩ := info_parts aat
 have hr := run_make (P := Tryz.prog) w 59 156 i0 (.int .u32 0) Tryz.underlying59 hi hz0 .i64 .i64 0 n om om (by rw [hz2]; omega) om
 simp only [Int.toNat_natCast, Int.toNat_zero] at hr
 rw [hr, hz1, Ka]
theorem afo (w : World) (n : Nat) (h : n ≤ 35184372088832) (T : TypeId) : (w.alloc (.cells (wz .u32 (List.replicate n 0)) T)).ownsRow w.heap.size T 1 (.slice (some ⟨w.heap.size, 0, none⟩) 0 n) 0 (yh .u32 []) :=
 ⟨by simp [yh], .inr ⟨w.heap.size, n, _, rfl, Nat.le_refl _, heap_alloc_new w _, Nat.zero_le _, by unfold maxLen; omega, by simp [wz], by simp [yh]⟩⟩
theorem ato {w : World} {base g n C d : Nat} {T : TypeId} {l : List Nat} (h : w.ownsRow base T 1 (.slice (some ⟨g, 0, none⟩) n C) n (yh .u32 l ++ [.int .u32 (d : Int)])) : w.ownsRow base T 1 (.slice (some ⟨g, 0, none⟩) n C) n (yh .u32 (l ++ [d])) := by
 simpa [yh] using h
theorem qo.aah {w : World} {A : Option Addr} {cap : Nat} {zs : List Nat} {k : Nat} (hz : Ws .u32 w w.heap.size A zs) (hlt : ∀ x ∈ zs, x < eu) (ht : Wd.Gz zs (zs.take k)) (hk : k ≤ zs.length) (hc : zs.length ≤ cap) (hc2 : cap ≤ 9223372036854775807) :
  qo w A cap (zs.take k) (Wd.val eu zs) :=
 ⟨hz.Qh k, by simp; omega, hc2, fun x hx => hlt x (List.mem_of_mem_take hx), ht.norm, ht.val _⟩
theorem one_cell (w : World) (v : Value) (T : TypeId) : ∀ j u, [v][j]? = some u → (w.alloc (.cells #[v] T)).cell? ((⟨w.heap.size, 0, none⟩ : Addr).add j) = some u := by
 intro j u hj
 match j, hj with
 | 0, hj => simp at hj; subst hj; simp [Addr.add]
 | j + 1, hj => simp at hj
theorem Oj (d : Nat) : ∀ u ∈ [Value.int .u32 (d : Int)], u.oneCell' = true := by
 intro u hu
 rw [List.mem_singleton] at hu; subst hu; rfl
theorem Dx {w X w1 : World} {n C d : Nat} {l : List Nat} {W0 : Nat} (hW : W0 = w.heap.size) (hb : Below W0 w X) (hlt : W0 ≤ X.heap.size)
  (hown1 : w1.ownsRow W0 156 1 (.slice (some ⟨W0, 0, none⟩) n C) n (yh .u32 l ++ [.int .u32 ((d : Nat) : Int)])) (hgrow1 : X.grownBy w1 (some W0)) :
  w1.ownsRow W0 156 1 (.slice (some ⟨W0, 0, none⟩) n C) n (yh .u32 (l ++ [d])) ∧ Below W0 w w1 :=
 ⟨ato hown1, hb.grown hgrow1 hlt (fun k hk => by injection hk with hk; omega)⟩
end Go.Proofs.YtjdnmdlnaoedoaaGreatDoor
