/- Part 3 of the texts beneath a law of layer 1: NatQuo, Tz, NatGcd, NatTop, NatAdd, Int, Int2, Int3, IntLim, IntAddC. -/
import Derived.Test.YtfbcdfoohpkfeaaDoorCs2
import Derived.Shelf.Spec.TrailingZeros
import Derived.Test.YtfbcdfoohpkfeaaDoorProg
import Derived.KernelRfl
import Derived.Laws.Bits64b
import Derived.Deep.LoopGhost
import Derived.Laws.CopyOwn
import Derived.Deep.RegionHeld3
import Derived.IntWalk
/- Quotients of numbers of many words. -/
namespace Go.Proofs.YtfbcdfoohpkfeaaDoor
open Go.RowKit

theorem belowN {B : Nat} {a w : World} (h : Below B a w) (n : Nat) : Below B a (w.drewN n) := ⟨h.os, h.tape, h.output, h.size, h.block⟩

theorem one_word (B : Nat) (l : List Nat) (h : l.length = 1) : Wd.g l 0 = Wd.val B l := by
  match l, h with
  | [a], _ => simp [Wd.val, Wd.g]

/-- What a quotient hands back: two numbers. -/
def QuoR (w : World) (q r : Nat) (e : Ending) (w' : World) : Prop :=
  ∃ A cap l A' cap' l', e = .returned (.tuple #[.slice A l.length cap, .slice A' l'.length cap']) ∧ NatV w' A cap l q ∧ NatV w' A' cap' l' r ∧ Below w.heap.size w w'
theorem ret_slice_int {A : Option Addr} {cap k n : Nat} {r s : Int} (h : k = n) (h' : r = s) : Ending.returned (.tuple #[.slice A k cap, .int .u64 r]) = .returned (.tuple #[.slice A n cap, .int .u64 s]) := by rw [h, h']
theorem ret_slices {A A' : Option Addr} {cap cap' k n k' n' : Nat} (h : k = n) (h' : k' = n') : Ending.returned (.tuple #[.slice A k cap, .slice A' k' cap']) = .returned (.tuple #[.slice A n cap, .slice A' n' cap']) := by rw [h, h']

set_option maxRecDepth 100000 in
set_option maxHeartbeats 1000000 in
theorem divWord_any (Ax : Option Addr) (cx : Nat) (xl : List Nat) (n y : Nat) (w : World) (hx : NatV w Ax cx xl n) (hy : y < B64) (hy0 : 0 < y) (hk : xl.length ≤ 35184372088832) :
    Calls Tryd.prog 105 #[.slice Ax xl.length cx, .int .u64 ((y : Nat) : Int)] w fun e w' =>
      ∃ A cap l, e = .returned (.tuple #[.slice A l.length cap, .int .u64 ((n % y : Nat) : Int)]) ∧ NatV w' A cap l (n / y) ∧ Below w.heap.size w w' := by
  have hmk := make64 xl.length hk
  have hx1 := hx.cap1; have hx2 := hx.cap2
  go_enter Tryd.func105, Tryd.ntmps105
  go_wp2
  go_loopw [7, 8] (fun rv iv wr => ∃ (i : Int) (r : Nat) (qc : List Nat), -1 ≤ i ∧ i < xl.length ∧ iv = .int .i64 i ∧ rv = .int .u64 ((r : Nat) : Int) ∧ Hid (Wd.DivInv B64 xl qc y (i + 1).toNat r) ∧ ZB .u64 wr w.heap.size 64 qc ∧ Below w.heap.size w wr) (fun _ iv _ => (intOf iv + 1).toNat)
  case atStart =>
    refine ⟨(xl.length : Int) - 1, 0, List.replicate xl.length 0, by omega, by omega, rfl, rfl, ?_, heap_alloc_new w _, (Below.refl _ _).alloc (Nat.le_refl _) _⟩
    rw [show ((xl.length : Int) - 1 + 1).toNat = xl.length by omega]
    exact Wd.DivInv.start _ _ _ (by simp) hy0 (zeros_lt (by rw [B64_eq]; omega) _)
  case round =>
    obtain ⟨i, r, qc, hi1, hi2, rfl, rfl, HI, hzr, hg⟩ := hrel
    have hlen := HI.out.len
    by_cases h0 : i < 0
    · have e : i = -1 := by omega
      subst e
      obtain ⟨v1, v2⟩ := HI.out.done
      rw [hx.val] at v1 v2
      have V1 := Lib.hid v1; have V2 := Lib.hid v2
      clear v1 v2
      go_wp2_with fail
      have htr := trim_any (some ⟨w.heap.size, 0, none⟩) qc.length qc (wr.heap.size) wr (hzr.ws0 _ hzr.lt) (Nat.le_refl _) (by omega)
      rw [hlen] at htr
      refine htr.mono ?_
      rintro e w' ⟨⟨k, rfl, ht, hk2⟩, rfl⟩
      go_wp2_with fail
      go_ret2
      have hk3 : k = (qc.take k).length := by simp; omega
      refine ⟨some ⟨w.heap.size, 0, none⟩, xl.length, qc.take k, ret_slice_int hk3 (by rw [V2.out]), ?_, hg⟩
      have := NatV.of_trim (cap := xl.length) hzr HI.out.lt ht (by omega) (by omega) (by omega)
      rwa [V1.out] at this
    · obtain ⟨j, rfl⟩ := Int.eq_ofNat_of_zero_le (show 0 ≤ i by omega)
      have hjx : j < xl.length := by omega
      obtain ⟨bx, ox, rfl, hbx, hcx⟩ := hx.ws (by omega)
      have hxc := (hg.cell (p := ⟨bx, ox + j, none⟩) hbx).trans (hcx j hjx)
      clear hcx
      have hzc := hzr.cell j (by omega)
      have hzf := hzr.frozen j
      obtain ⟨xj, hxj⟩ : ∃ t, t = Wd.g xl j := ⟨_, rfl⟩
      rw [← hxj] at hxc
      have hxB : xj < B64 := by rw [hxj]; exact Wd.getD_lt (by rw [B64_eq]; omega) _ hx.lt _
      have hinv : Wd.DivInv B64 xl qc y (j + 1) r := by have := HI.out; rwa [show ((j : Int) + 1).toNat = j + 1 by omega] at this
      have hry := hinv.r1
      obtain ⟨q, hq⟩ : ∃ t, t = (r * B64 + xj) / y := ⟨_, rfl⟩
      obtain ⟨s, hs⟩ : ∃ t, t = (r * B64 + xj) % y := ⟨_, rfl⟩
      have hdiv := div64_any r xj y hy hxB hry
      rw [← hq, ← hs] at hdiv
      have hfin : ∀ W k, W = (wr.drewN k).setCell ⟨w.heap.size, j, none⟩ (.int .u64 (q : Int)) → Hid (Wd.DivInv B64 xl (qc.set j q) y j s) ∧ ZB .u64 W w.heap.size 64 (qc.set j q) ∧ Below w.heap.size w W := by
        rintro W k rfl
        refine ⟨?_, (hzr.drewN k).set_ _ _, (belowN hg k).setCell (p := ⟨w.heap.size, j, none⟩) (Nat.le_refl _) _⟩
        rw [hq, hs, hxj]
        exact hinv.step hjx (by rw [← Wd.g_def, ← hxj]; exact hxB)
      have HF := hide hfin
      have HD := hide hdiv
      clear hfin hdiv hq hs hxj hxB hinv hry hzr hg HI
      go_wp2_with fail
      refine ((unhide HD) _).mono ?_
      rintro e w' ⟨rfl, k, rfl⟩
      go_wp2_with fail
      go_roundw
      case rel =>
        obtain ⟨r1, r2, r3⟩ := (unhide HF) _ k rfl
        exact ⟨(j : Int) - 1, s, qc.set j q, by omega, by omega, rfl, rfl, by rw [show ((j : Int) - 1 + 1).toNat = j by omega]; exact r1, r2, r3⟩
      case measure => simp [intOf] <;> omega

/-- The long way of a quotient. -/
theorem left2 (Ax : Option Addr) (cx : Nat) (xl : List Nat) (n s : Nat) (w : World) (hx : NatV w Ax cx xl n) (hs : s < 64) (hk : xl.length + 1 ≤ 35184372088832) :
    Calls Tryd.prog 108 #[.slice Ax xl.length cx, .int .u64 ((s : Nat) : Int)] w fun e w' =>
      ∃ b zr, e = .returned (.slice (some ⟨b, 0, none⟩) (xl.length + 1) (xl.length + 1)) ∧ w.heap.size ≤ b ∧ zr.length = xl.length + 1 ∧ (∀ x ∈ zr, x < B64) ∧ Wd.val B64 zr = n * 2 ^ s ∧ ZB .u64 w' b 64 zr ∧ Below w.heap.size w w' :=
  (left_any Ax cx xl n s w hx hs hk).mono fun e w' ⟨zr, h1, h2, h3, h4, h5, h6⟩ => ⟨w.heap.size, zr, h1, Nat.le_refl _, h2, h3, h4, h5, h6⟩

theorem norm_len_eq {B : Nat} (hB : 1 < B) (l : List Nat) (hn : Wd.Norm l) (hl : ∀ x ∈ l, x < B) (k : Nat) (hk : 0 < k) (h1 : B ^ (k - 1) ≤ Wd.val B l) (h2 : Wd.val B l < B ^ k) : l.length = k := by
  have a1 := Wd.norm_len hB l hn k h2
  have a2 := Wd.val_lt l hl
  apply Classical.byContradiction
  intro h
  have : B ^ l.length ≤ B ^ (k - 1) := Nat.pow_le_pow_right (by omega) (by omega)
  omega

/-- What the shift of the divisor's top word does to the whole. -/
theorem shift_bounds (yl : List Nat) (m s : Nat) (hs64 : s ≤ 64) (hn : 1 ≤ yl.length) (hlt : ∀ x ∈ yl, x < B64) (hv : Wd.val B64 yl = m) (hs1 : yl.getD (yl.length - 1) 0 * 2 ^ s < B64) (ht : yl.getD (yl.length - 1) 0 ≠ 0) :
    B64 ^ (yl.length - 1) * 2 ^ s ≤ m * 2 ^ s ∧ m * 2 ^ s < B64 ^ yl.length := by
  have h2 := Wd.val_take_succ B64 yl (yl.length - 1) (by omega)
  rw [show yl.length - 1 + 1 = yl.length by omega, Wd.val_take_all _ _ _ (Nat.le_refl _), hv] at h2
  have h3 := Wd.val_lt (B := B64) (yl.take (yl.length - 1)) (fun x hx => hlt x (List.mem_of_mem_take hx))
  rw [List.length_take, Nat.min_eq_left (by omega)] at h3
  have e : B64 ^ yl.length = B64 ^ (yl.length - 1) * B64 := by rw [← Nat.pow_succ, show (yl.length - 1).succ = yl.length by omega]
  rw [e]
  generalize hP : B64 ^ (yl.length - 1) = P at *
  generalize yl.getD (yl.length - 1) 0 = t at *
  have hS : 0 < 2 ^ s := Nat.pow_pos (by omega)
  have hsp := pow_split' s hs64
  generalize 2 ^ s = S at *
  generalize 2 ^ (64 - s) = T at *
  have h6 : t * S + S ≤ B64 := by
    rw [← hsp, Nat.mul_comm S] at hs1 ⊢
    have := Nat.lt_of_mul_lt_mul_right hs1
    have h7 : (t + 1) * S ≤ T * S := Nat.mul_le_mul_right _ this
    rwa [Nat.add_mul, Nat.one_mul] at h7
  constructor
  · refine Nat.mul_le_mul_right _ ?_
    have : P * 1 ≤ P * t := Nat.mul_le_mul_left _ (by omega)
    omega
  · have h4 : m + 1 ≤ P * (t + 1) := by rw [Nat.mul_add, Nat.mul_one]; omega
    have h5 : (m + 1) * S ≤ P * (t + 1) * S := Nat.mul_le_mul_right _ h4
    rw [Nat.add_mul, Nat.one_mul, Nat.mul_assoc, Nat.add_mul, Nat.one_mul] at h5
    have : P * (t * S + S) ≤ P * B64 := Nat.mul_le_mul_left _ h6
    omega

set_option maxRecDepth 100000 in
set_option maxHeartbeats 1000000 in
theorem div_long (Ax Ay : Option Addr) (cx cy : Nat) (xl yl : List Nat) (n m : Nat) (w : World) (hx : NatV w Ax cx xl n) (hy : NatV w Ay cy yl m) (hm : 0 < m) (hk : xl.length + 1 ≤ 35184372088832) (hk2 : yl.length + 1 ≤ 35184372088832)
    (hn2 : 2 ≤ yl.length) (hny : yl.length ≤ xl.length) (o3 : Int) (HC : Hid (Calls Tryd.prog 93 #[.slice Ax xl.length cx, .slice Ay yl.length cy] w fun e w' => e = .returned (.int .i64 o3) ∧ ∃ k, w' = w.drewN k)) (ho : decide (o3 < 0) = false) :
    Calls Tryd.prog 81 #[.slice Ax xl.length cx, .slice Ay yl.length cy] w fun e w' => QuoR w (n / m) (n % m) e w' := by
  have hx1 := hx.cap1; have hx2 := hx.cap2; have hy1 := hy.cap1; have hy2 := hy.cap2
  have hb1 : ((yl.length : Int) == 1) = false := by simp; omega
  obtain ⟨by', oy, hA, hby, hcy⟩ := hy.ws (by omega)
  subst hA
  have hyt := hcy (yl.length - 1) (by omega)
  obtain ⟨yt, hytt⟩ : ∃ t, t = Wd.g yl (yl.length - 1) := ⟨_, rfl⟩
  rw [← hytt] at hyt
  have hyB : yt < B64 := by rw [hytt]; exact Wd.getD_lt (by rw [B64_eq]; omega) _ hy.lt _
  have hy0 : yt ≠ 0 := by
    rw [hytt]
    rcases hy.norm with h | h
    · rw [h] at hn2; simp at hn2
    · exact h
  obtain ⟨s, hs, hs1, hs2, hlz⟩ := lz_spec yt hyB (by omega) w
  obtain ⟨vb1, vb2⟩ := shift_bounds yl m s (by omega) (by omega) hy.lt hy.val (by rw [← Wd.g_def, ← hytt]; exact hs2) (by rw [← Wd.g_def, ← hytt]; exact hy0)
  obtain ⟨lq, hlq⟩ : ∃ t, t = xl.length + 1 - yl.length := ⟨_, rfl⟩
  have hlqI : ((lq : Nat) : Int) = (xl.length : Int) + 1 - (yl.length : Int) := by omega
  have hmk := make64 lq (by omega)
  rw [hlqI] at hmk
  have hlq1 : lq + yl.length = xl.length + 1 := by omega
  have HLZ := hide hlz
  have HLQ := Lib.hid hlqI
  have HYT := Lib.hid hytt
  have HV1 := hide vb1; have HV2 := hide vb2
  clear hlz hytt hcy vb1 vb2 hs1 hs2 hlqI hlq
  go_enter Tryd.func81, Tryd.ntmps81
  go_wp2_with fail
  refine (unhide HC).mono ?_
  rintro e w' ⟨rfl, k, rfl⟩
  go_wp2_with fail
  refine ((unhide HLZ) _).mono ?_
  rintro e w1 ⟨rfl, hw1⟩
  have hb1w : Below w.heap.size w w1 := by rw [hw1]; exact belowN (Below.refl _ _) k
  clear hw1
  go_wp2_with fail
  refine (left2 _ cy yl m s w1 (hy.below hb1w) hs hk2).mono ?_
  rintro e w2 ⟨bv, vz, rfl, hbv, hvl, hvlt, hvv, hvz, hb2⟩
  have HVL := Lib.hid hvl; have HVV := Lib.hid hvv
  clear hvl hvv
  go_wp2_with fail
  have htr := trim_any (some ⟨bv, 0, none⟩) vz.length vz w2.heap.size w2 (hvz.ws0 _ hvz.lt) (Nat.le_refl _) (by have := HVL.out; omega)
  rw [HVL.out] at htr
  refine htr.mono ?_
  rintro e w3 ⟨⟨kv, rfl, ht, hkv⟩, hw3⟩
  obtain rfl : w2 = w3 := hw3.symm
  clear hw3
  have hvn : (vz.take kv).length = yl.length := by
    refine norm_len_eq B64_pos _ ht.norm (fun x hx => hvlt x (List.mem_of_mem_take hx)) _ (by omega) ?_ ?_
    · rw [ht.val, HVV.out]; exact Nat.le_trans (Nat.le_mul_of_pos_right _ (Nat.pow_pos (by omega))) (unhide HV1)
    · rw [ht.val, HVV.out]; exact unhide HV2
  have hkv2 : kv = yl.length := by have := HVL.out; rw [List.length_take] at hvn; omega
  subst hkv2
  have hx2w : NatV w2 Ax cx xl n := (hx.below hb1w).below hb2
  go_wp2_with fail
  refine (left2 Ax cx xl n s w2 hx2w hs hk).mono ?_
  rintro e w4 ⟨bu, uz, rfl, hbu, hul, hult, huv, huz, hb3⟩
  have hvz3 := hvz.below hb3 hvz.lt
  have hbvu : bv < bu := Nat.lt_of_lt_of_le hvz.lt hbu
  have HUL := Lib.hid hul; have HUV := Lib.hid huv
  have HT := hide ht; have HVN := Lib.hid hvn
  have hbw4 : Below w.heap.size w w4 := hb1w.trans ((hb2.mono hb1w.size).trans (hb3.mono (Nat.le_trans hb1w.size hb2.size)))
  clear hul huv ht hvn
  obtain ⟨V, hV⟩ : ∃ t, t = m * 2 ^ s := ⟨_, rfl⟩
  have hvval : Wd.val B64 (vz.take yl.length) = V := by rw [(unhide HT).val, HVV.out, hV]
  have hVlt : V < B64 ^ yl.length := by rw [hV]; exact unhide HV2
  have hV0 : 0 < V := by rw [hV]; exact Nat.mul_pos hm (Nat.pow_pos (by omega))
  have htop : Wd.val B64 uz < V * B64 ^ lq := by
    rw [HUV.out, hV]
    have h1 := hx.lt_pow
    have h2 := unhide HV1
    have h3 : B64 ^ (yl.length - 1) * B64 ^ lq = B64 ^ xl.length := by rw [← Nat.pow_add, show yl.length - 1 + lq = xl.length by omega]
    have h4 : B64 ^ (yl.length - 1) * 2 ^ s * B64 ^ lq ≤ m * 2 ^ s * B64 ^ lq := Nat.mul_le_mul_right _ h2
    have h5 : n * 2 ^ s < B64 ^ xl.length * 2 ^ s := Nat.mul_lt_mul_of_pos_right h1 (Nat.pow_pos (by omega))
    have h6 : B64 ^ (yl.length - 1) * 2 ^ s * B64 ^ lq = B64 ^ xl.length * 2 ^ s := by
      rw [← h3]; simp only [Nat.mul_comm, Nat.mul_left_comm, Nat.mul_assoc]
    omega
  have hstart : Wd.LongInv B64 V uz uz (List.replicate lq 0) lq := Wd.LongInv.start _ _ _ hult (zeros_lt (by rw [B64_eq]; omega) _) (by simp) htop
  have hbuq : bu < w4.heap.size := huz.lt
  have hvws : Ws .u64 w4 (bv + 1) (some ⟨bv, 0, none⟩) (vz.take yl.length) := (hvz3.ws0 _ (Nat.lt_succ_self _)).take_ _
  have HVALS := Lib.hid hvval; have HVLT := hide hVlt; have HV0 := hide hV0; have HVV2 := Lib.hid hV; have HST := hide hstart
  have hlq0 : 0 < lq := by omega
  clear hvval hVlt hV hstart htop hyt hy0
  go_wp2_with fail
  go_loopw [12] (fun iv wr => ∃ (i : Int) (us qs : List Nat), -1 ≤ i ∧ i < lq ∧ iv = .int .i64 i ∧ Hid (Wd.LongInv B64 V uz us qs (i + 1).toNat) ∧ Hid (qs.length = lq) ∧ ZB .u64 wr bu 64 us ∧ ZB .u64 wr w4.heap.size 64 qs ∧ Ws .u64 wr (bv + 1) (some ⟨bv, 0, none⟩) (vz.take yl.length) ∧ Below w.heap.size w wr ∧ w4.heap.size < wr.heap.size) (fun iv _ => (intOf iv + 1).toNat)
  case atStart =>
    refine ⟨(lq : Int) - 1, uz, List.replicate lq 0, by omega, by omega, rfl, ?_, by show _ = _; simp, huz.alloc _, heap_alloc_new w4 _, hvws.alloc (by omega) _, hbw4.alloc hbw4.size _, by simp⟩
    rw [show ((lq : Int) - 1 + 1).toNat = lq by omega]
    exact HST
  case round =>
    obtain ⟨i, us, qs, hi1, hi2, rfl, HI, HQL, huzr, hqz, hvr, hbr, hszr⟩ := hrel
    obtain ⟨wo, rfl⟩ : ∃ wo : World, wo = wr := ⟨_, rfl⟩
    by_cases h0 : i < 0
    · have e : i = -1 := by omega
      subst e
      obtain ⟨v1, v2⟩ := HI.out.done
      have hS : 0 < 2 ^ s := Nat.pow_pos (by omega)
      obtain ⟨sd1, sd2⟩ := Wd.scaled_div (N := n) (Y := m) (S := 2 ^ s) hS
      rw [HUV.out, HVV2.out] at v1 v2
      rw [sd1] at v1
      have v3 : Wd.val B64 us / 2 ^ s = n % m := by rw [v2]; exact sd2
      have V1 := Lib.hid v1; have V3 := Lib.hid v3
      have husl : us.length = xl.length + 1 := HI.out.lenu.trans HUL.out
      have HLT1 := hide HI.out.lt; have HLT2 := hide HI.out.ltq
      have htr1 := trim_any (some ⟨w4.heap.size, 0, none⟩) qs.length qs wo.heap.size wo (hqz.ws0 _ hqz.lt) (Nat.le_refl _) (by have := HQL.out; omega)
      have htr2 := trim_any (some ⟨bu, 0, none⟩) us.length us wo.heap.size wo (huzr.ws0 _ huzr.lt) (Nat.le_refl _) (by omega)
      rw [HQL.out] at htr1
      rw [husl] at htr2
      have T1 := hide htr1; have T2 := hide htr2
      have HUSL := Lib.hid husl
      clear v1 v2 sd1 sd2 v3 htr1 htr2 husl HI
      go_wp2_with fail
      refine (unhide T1).mono ?_
      rintro e w5 ⟨⟨k1, rfl, ht1, hk1⟩, hw5⟩
      obtain rfl : wo = w5 := hw5.symm
      clear hw5
      go_wp2_with fail
      refine (unhide T2).mono ?_
      rintro e w6 ⟨⟨k2, rfl, ht2, hk2⟩, hw6⟩
      obtain rfl : wo = w6 := hw6.symm
      clear hw6
      go_wp2_with fail
      have e1 : (us.take k2).length = k2 := by have := HUSL.out; rw [List.length_take]; omega
      have hrt := right_any (some ⟨bu, 0, none⟩) (xl.length + 1) (us.take k2) s wo ((huzr.ws0 _ huzr.lt).take_ _) (by have := HUSL.out; omega) (by omega) (fun x hx => (unhide HLT1) x (List.mem_of_mem_take hx)) hs (by have := HUSL.out; omega)
      rw [e1, ht2.val, V3.out] at hrt
      refine hrt.mono ?_
      rintro e w7 ⟨A', cap', l', rfl, hr', hb'⟩
      go_wp2_with fail
      go_ret2
      have e2 : k1 = (qs.take k1).length := by have := HQL.out; rw [List.length_take]; omega
      have hq' := NatV.of_trim (cap := lq) hqz (unhide HLT2) ht1 (by rw [HQL.out]; exact hk1) (by rw [HQL.out]; exact Nat.le_refl _) (by omega)
      rw [V1.out] at hq'
      exact ⟨some ⟨w4.heap.size, 0, none⟩, lq, qs.take k1, A', cap', l', ret_slices e2 rfl, hq'.below hb', hr', hbr.trans (hb'.mono hbr.size)⟩
    · obtain ⟨j, rfl⟩ := Int.eq_ofNat_of_zero_le (show 0 ≤ i by omega)
      have hinv : Wd.LongInv B64 V uz us qs (j + 1) := by have := HI.out; rwa [show ((j : Int) + 1).toNat = j + 1 by omega] at this
      have husl : us.length = xl.length + 1 := hinv.lenu.trans HUL.out
      have hql := HQL.out
      have hqc := hqz.cell j (by omega)
      have hqf := hqz.frozen j
      have HINV := hide hinv; have HUSL := Lib.hid husl
      obtain ⟨wd1, wd2, wd3⟩ := hinv.window B64_pos (unhide HVLT)
      have hwl : ((us.drop j).take (yl.length + 1)).length = yl.length + 1 := by rw [List.length_take, List.length_drop]; omega
      have hds := divStep_any bu j (xl.length + 1 - j) 64 yl.length us ((us.drop j).take (yl.length + 1)) (vz.take yl.length) (some ⟨bv, 0, none⟩) (yl.length + 1) (bv + 1) wo huzr (by omega) (by rw [hwl]) (by omega) (by omega) hvr (by omega) (by simp; omega) (by omega) (by omega) HVN.out hwl
        (fun x hx => hinv.lt x (List.mem_of_mem_drop (List.mem_of_mem_take hx))) (fun x hx => hvlt x (List.mem_of_mem_take hx)) (by rw [HVALS.out]; exact wd2)
      have HDS := hide hds
      clear hds
      have hfin : ∀ (W : World) (zr : List Nat) (q : Nat), StepOk ((us.drop j).take (yl.length + 1)) (vz.take yl.length) zr q → Hid (Wd.LongInv B64 V uz (win us j zr) (qs.set j q) j) := fun W zr q hok => by
        have hzl : zr.length = yl.length + 1 := hok.len.trans hwl
        refine hinv.step (n := yl.length) B64_pos (unhide HVLT) (unhide HV0) (by omega) ?_ ?_ ?_ ?_ ?_
        · rw [hok.quo, HVALS.out]
        · have e1 : (win us j zr).drop j = zr ++ us.drop (j + zr.length) := by
            simp only [win, List.append_assoc]
            rw [List.drop_append_of_le_length (by simp; omega), List.drop_of_length_le (by simp; omega), List.nil_append]
          have e2 : Wd.val B64 (us.drop (j + zr.length)) = 0 := by
            have h1 := Wd.val_split B64 (us.drop j) (yl.length + 1)
            rw [wd3, List.drop_drop] at h1
            have h2 : 0 < B64 ^ min (yl.length + 1) (us.drop j).length := Nat.pow_pos (by rw [B64_eq]; omega)
            rw [hzl]
            rcases Nat.eq_zero_or_pos (Wd.val B64 (us.drop (j + (yl.length + 1)))) with h | h
            · exact h
            · have := Nat.mul_pos h2 h; omega
          rw [e1, Wd.val_append, e2, Nat.mul_zero, Nat.add_zero, hok.rem, HVALS.out]
        · rw [win_length _ _ _ (by omega)]
        · intro x hx
          simp only [win, List.append_assoc, List.mem_append] at hx
          rcases hx with h | h | h
          · exact hinv.lt x (List.mem_of_mem_take h)
          · exact hok.lt x h
          · exact hinv.lt x (List.mem_of_mem_drop h)
        · intro t ht
          simp only [win, List.append_assoc, List.getD]
          rw [List.getElem?_append_left (by simp; omega), List.getElem?_take, if_pos ht]
      have HFIN := hide hfin
      clear hinv husl hql HI wd1 wd2 wd3 hfin
      go_wp2_with fail
      rw [show j + yl.length + 1 - j = yl.length + 1 by omega]
      refine (unhide HDS).mono ?_
      rintro e w5 ⟨zr, q, rfl, hok, hqB, huz5, hg5⟩
      have hinv5 := (unhide HFIN) w5 zr q hok
      have hqz5 := hqz.grown hg5 (by intro h; injection h with h; omega)
      have hqc5 := hqz5.cell j (by have := HQL.out; omega)
      have hqf5 := hqz5.frozen j
      have hv5 : Ws .u64 w5 (bv + 1) (some ⟨bv, 0, none⟩) (vz.take yl.length) := hvr.grown hg5 (by omega) (fun g e => by injection e with e; omega)
      have hb5 : Below w.heap.size w w5 := hbr.grown hg5 hbr.size (fun g e => by injection e with e; subst e; exact Nat.le_trans hb1w.size (Nat.le_trans hb2.size hbu))
      have hs5 : w4.heap.size < w5.heap.size := Nat.lt_of_lt_of_le hszr hg5.size
      have hw4s : w.heap.size ≤ w4.heap.size := hbw4.size
      have hfin2 : ∀ W, W = w5.setCell ⟨w4.heap.size, j, none⟩ (.int .u64 (q : Int)) → ZB .u64 W bu 64 (win us j zr) ∧ ZB .u64 W w4.heap.size 64 (qs.set j q) ∧ Ws .u64 W (bv + 1) (some ⟨bv, 0, none⟩) (vz.take yl.length) ∧ Below w.heap.size w W ∧ w4.heap.size < W.heap.size := by
        rintro W rfl
        exact ⟨(Below.heap_setCell w5 _ _ bu (by show bu ≠ w4.heap.size; omega)).trans huz5, hqz5.set_ _ _, hv5.setCell (p := ⟨w4.heap.size, j, none⟩) (by show bv + 1 ≤ w4.heap.size; omega) _, hb5.setCell (p := ⟨w4.heap.size, j, none⟩) hw4s _, by simp [World.setCell]; omega⟩
      have HF2 := hide hfin2
      clear hok hg5 hfin2 huz5 hqz5 hv5 hb5
      go_wp2_with fail
      go_roundw
      case rel =>
        obtain ⟨f1, f2, f3, f4, f5⟩ := (unhide HF2) _ rfl
        exact ⟨(j : Int) - 1, win us j zr, qs.set j q, by omega, by omega, rfl, by rw [show ((j : Int) - 1 + 1).toNat = j by omega]; exact hinv5, by show _ = _; rw [List.length_set]; exact HQL.out, f1, f2, f3, f4, f5⟩
      case measure => simp [intOf] <;> omega

set_option maxRecDepth 100000 in
set_option maxHeartbeats 400000 in
theorem div_any (Ax Ay : Option Addr) (cx cy : Nat) (xl yl : List Nat) (n m : Nat) (w : World) (hx : NatV w Ax cx xl n) (hy : NatV w Ay cy yl m) (hm : 0 < m) (hk : xl.length + 1 ≤ 35184372088832) (hk2 : yl.length + 1 ≤ 35184372088832) :
    Calls Tryd.prog 81 #[.slice Ax xl.length cx, .slice Ay yl.length cy] w fun e w' => QuoR w (n / m) (n % m) e w' := by
  have hx1 := hx.cap1; have hx2 := hx.cap2; have hy1 := hy.cap1; have hy2 := hy.cap2
  have hyl : 0 < yl.length := by
    rcases Nat.eq_zero_or_pos yl.length with h | h
    · have := List.eq_nil_of_length_eq_zero h; subst this; have := hy.val; simp [Wd.val] at this; omega
    · exact h
  have hcmp := cmp_any Ax Ay cx cy xl yl n m w hx hy
  have HC := hide hcmp
  clear hcmp
  by_cases hlt : n < m
  · have ho : ord3 n m = -1 := by unfold ord3; rw [if_pos hlt]
    rw [ho] at HC
    have hq : n / m = 0 := Nat.div_eq_of_lt hlt
    have hr : n % m = n := Nat.mod_eq_of_lt hlt
    rw [hq, hr]
    clear ho hq hr
    go_enter Tryd.func81, Tryd.ntmps81
    go_wp2_with fail
    refine (unhide HC).mono ?_
    rintro e w' ⟨rfl, k, rfl⟩
    go_wp2_with fail
    go_ret2
    exact ⟨none, 0, [], Ax, cx, xl, rfl, NatV.nil_ _ _ (by omega), hx.below (belowN (Below.refl _ _) k), belowN (Below.refl _ _) k⟩
  · have ho : decide (ord3 n m < 0) = false := by unfold ord3; rw [if_neg hlt]; split <;> rfl
    obtain ⟨o3, ho3⟩ : ∃ t, t = ord3 n m := ⟨_, rfl⟩
    rw [← ho3] at HC ho
    have hny : yl.length ≤ xl.length := by
      apply Classical.byContradiction
      intro h
      have := Wd.val_lt_of_length B64_pos xl yl hx.lt hy.norm (by omega)
      rw [hx.val, hy.val] at this
      omega
    clear ho3
    by_cases h1 : yl.length = 1
    · have hb1 : ((yl.length : Int) == 1) = true := by simp; omega
      obtain ⟨by', oy, hA, hby, hcy⟩ := hy.ws (by omega)
      subst hA
      have hy0 := hcy 0 (by omega)
      rw [Nat.add_zero] at hy0
      have hm0 : Wd.g yl 0 = m := by rw [one_word B64 yl h1]; exact hy.val
      rw [hm0] at hy0
      have hmB : m < B64 := by rw [← hm0]; exact Wd.getD_lt (by rw [B64_eq]; omega) _ hy.lt _
      have HDW : ∀ k, Hid (Calls Tryd.prog 105 #[.slice Ax xl.length cx, .int .u64 ((m : Nat) : Int)] (w.drewN k) fun e w' =>
        ∃ A cap l, e = .returned (.tuple #[.slice A l.length cap, .int .u64 ((n % m : Nat) : Int)]) ∧ NatV w' A cap l (n / m) ∧ Below w.heap.size w w') := fun k =>
        (divWord_any Ax cx xl n m (w.drewN k) (hx.below (belowN (Below.refl _ _) k)) hmB hm (by omega)).mono fun e w' ⟨A, cap, l, h1, h2, h3⟩ => ⟨A, cap, l, h1, h2, (belowN (Below.refl _ _) k).trans h3⟩
      have hrB : n % m < B64 := Nat.lt_trans (Nat.mod_lt _ hm) hmB
      have HRB := hide hrB
      obtain ⟨r, hr⟩ : ∃ t, t = n % m := ⟨_, rfl⟩
      rw [← hr] at HDW HRB ⊢
      clear hm0 h1 hcy hr hrB
      go_enter Tryd.func81, Tryd.ntmps81
      go_wp2_with fail
      refine (unhide HC).mono ?_
      rintro e w' ⟨rfl, k, rfl⟩
      go_wp2_with fail
      refine (unhide (HDW k)).mono ?_
      rintro e w1 ⟨A, cap, l, rfl, hq, hb⟩
      go_wp2_with fail
      refine (natOf_any r HRB.out w1).mono ?_
      rintro e w2 ⟨A', cap', l', rfl, hr', hb'⟩
      go_wp2_with fail
      go_ret2
      exact ⟨A, cap, l, A', cap', l', rfl, hq.below hb', hr', hb.trans (hb'.mono hb.size)⟩
    · have hb1 : ((yl.length : Int) == 1) = false := by simp; omega
      exact div_long Ax Ay cx cy xl yl n m w hx hy hm hk hk2 (by omega) hny o3 HC ho
end Go.Proofs.YtfbcdfoohpkfeaaDoor
/- math/bits.TrailingZeros64 at this dump. -/
namespace Go.Proofs.YtfbcdfoohpkfeaaDoor
open Go.Shelf
def tzRen : Go.Shelf.Ren := ⟨fun | 29 => 65 | n => n, fun | 0 => 0 | 3 => 3 | 4 => 4 | 5 => 5 | 22 => 64 | 25 => 101 | 54 => 133 | n => n, fun | 1 => 0 | n => n⟩
theorem tzLays : Go.Proofs.Lays7.n29 Tryd.prog tzRen := {
  mixed := by kernel_rfl
  f29 := Tryd.func65.trans (congrArg some (by kernel_rfl))
  t0 := by kernel_rfl
  a0 := fun _ => by kernel_rfl
  z0 := fun _ => by kernel_rfl
  v0 := fun _ => by kernel_rfl
  i0 := by kernel_rfl
  t3 := by kernel_rfl
  a3 := fun _ => by kernel_rfl
  z3 := fun _ => by kernel_rfl
  v3 := fun _ => by kernel_rfl
  i3 := by kernel_rfl
  t4 := by kernel_rfl
  a4 := fun _ => by kernel_rfl
  z4 := fun _ => by kernel_rfl
  v4 := fun _ => by kernel_rfl
  i4 := by kernel_rfl
  t5 := by kernel_rfl
  a5 := fun _ => by kernel_rfl
  z5 := fun _ => by kernel_rfl
  v5 := fun _ => by kernel_rfl
  i5 := by kernel_rfl
  t22 := by kernel_rfl
  a22 := fun _ => by kernel_rfl
  z22 := fun _ => by kernel_rfl
  v22 := fun _ => by kernel_rfl
  i22 := by kernel_rfl
  t25 := by kernel_rfl
  a25 := fun _ => by kernel_rfl
  z25 := fun _ => by kernel_rfl
  v25 := fun _ => by kernel_rfl
  i25 := by kernel_rfl
  t54 := by kernel_rfl
  a54 := fun _ => by kernel_rfl
  z54 := fun _ => by kernel_rfl
  g1 := by kernel_rfl }
theorem tz64_any (x : Nat) (hx : x < 18446744073709551616) (w : World) (hT : TabAt 0 Lib.deBruijn64tab w) :
    Calls Tryd.prog 65 #[.int .u64 ((x : Nat) : Int)] w fun e w' => e = .returned (.int .i64 (Lib.ctz 64 x : Int)) ∧ w' = w :=
  Any7.bits_TrailingZeros64 tzLays x hx w (fun _ => hT)
end Go.Proofs.YtfbcdfoohpkfeaaDoor
/- The greatest common divisor of two words of 64 bits. -/
namespace Go.Proofs.YtfbcdfoohpkfeaaDoor
open Go.RowKit

/-- The library's table stands where it was laid. -/
def Tab (w : World) : Prop := TabAt 0 Lib.deBruijn64tab w ∧ 0 < w.heap.size
theorem Tab.below {w w' : World} (h : Tab w) (hb : Below w.heap.size w w') : Tab w' :=
  ⟨fun j hj => (hb.cell (p := ⟨0, j, none⟩) h.2).trans (h.1 j hj), Nat.lt_of_lt_of_le h.2 hb.size⟩
theorem Tab.drew {w : World} (h : Tab w) : Tab w.drew := h
theorem Tab.drewN {w : World} (h : Tab w) (n : Nat) : Tab (w.drewN n) := h
theorem Tab.alloc {w : World} (h : Tab w) (o : Obj) : Tab (w.alloc o) := h.below ((Below.refl _ _).alloc (Nat.le_refl _) _)

theorem ctz_odd2 (x : Nat) (h0 : x ≠ 0) (hx : x < 18446744073709551616) : ∃ u, Wd.Odd2 x (Lib.ctz 64 x) u ∧ Lib.ctz 64 x < 64 := by
  unfold Lib.ctz
  rw [if_neg h0]
  obtain ⟨m, hm, hlt⟩ := Lib.ctzFrom_spec 64 x (by omega) (by simpa using hx)
  exact ⟨2 * m + 1, ⟨hm, by omega⟩, hlt⟩

theorem wrap_diff {a b : Nat} (h : b ≤ a) (ha : a < B64) : IntKind.u64.wrap ((a : Int) - (b : Int)) = ((a - b : Nat) : Int) := by
  rw [IntKind.wrap_u64]; rw [B64_eq] at ha; omega

set_option maxRecDepth 100000 in
set_option maxHeartbeats 1000000 in
theorem gcd64_any (x y : Nat) (hx : x < B64) (hy : y < B64) (w : World) (hT : Tab w) :
    Calls Tryd.prog 32 #[.int .u64 ((x : Nat) : Int), .int .u64 ((y : Nat) : Int)] w fun e w' => e = .returned (.int .u64 ((x.gcd y : Nat) : Int)) ∧ w' = w := by
  by_cases h0 : x = 0 ∨ y = 0
  · have hor : Go.bits .or .u64 (x : Int) (y : Int) = ((x.gcd y : Nat) : Int) := by
      rw [bits_or_u64_nat x y hx hy]
      rcases h0 with rfl | rfl <;> simp
    rcases h0 with rfl | rfl
    all_goals
      go_enter Tryd.func32, Tryd.ntmps32
      go_wp2
      all_goals
        go_ret
        exact ⟨ret_int (by first | exact hor | simp_all), rfl⟩
  · have b1 : ((x : Int) == 0) = false := by simp; omega
    have b2 : ((y : Int) == 0) = false := by simp; omega
    obtain ⟨o, ho⟩ : ∃ o, o = x ||| y := ⟨_, rfl⟩
    have hor : Go.bits .or .u64 (x : Int) (y : Int) = ((o : Nat) : Int) := by rw [bits_or_u64_nat x y hx hy, ho]
    obtain ⟨u, hu, ha64⟩ := ctz_odd2 x (by omega) hx
    obtain ⟨v, hv, hb64⟩ := ctz_odd2 y (by omega) hy
    have ho0 : o ≠ 0 := by rw [ho]; intro h; rw [Nat.or_eq_zero_iff] at h; omega
    have hoB : o < B64 := by rw [ho]; exact Nat.or_lt_two_pow (n := 64) hx hy
    obtain ⟨ow, how, ho64⟩ := ctz_odd2 o ho0 hoB
    have hstart := Wd.GcdInv.start hu hv ⟨ow, by rw [← ho]; exact how⟩
    obtain ⟨t, ht⟩ : ∃ t, t = Lib.ctz 64 o := ⟨_, rfl⟩
    obtain ⟨a, ha⟩ : ∃ a, a = Lib.ctz 64 x := ⟨_, rfl⟩
    have c1 := tz64_any o hoB w hT.1
    have c2 := tz64_any x hx w hT.1
    rw [← ht] at c1 hstart ho64
    rw [← ha] at c2 hu ha64
    have hdx : (x : Int) / 2 ^ a = (u : Int) := by
      have := Wd.odd2_div hu
      rw [← this]; simp
    have hub := Wd.odd2_le hu
    have HC1 := hide c1
    have HC2 := hide c2
    have HST := hide hstart
    have hG : 0 < x.gcd y ∧ x.gcd y < B64 := ⟨Nat.gcd_pos_of_pos_left _ (by omega), Nat.lt_of_le_of_lt (Nat.gcd_le_left _ (by omega)) hx⟩
    obtain ⟨G, hGG⟩ : ∃ G, G = x.gcd y := ⟨_, rfl⟩
    rw [← hGG] at hstart hG
    have HST := hide hstart
    have HGG := Lib.hid hGG
    have HG := hide hG
    clear h0 ho hv hb64 how hstart hu c1 c2 ht ha hGG hG
    go_enter Tryd.func32, Tryd.ntmps32
    go_wp2_with fail
    refine (unhide HC1).mono ?_
    rintro e w' ⟨rfl, rfl⟩
    go_wp2_with fail
    refine (unhide HC2).mono ?_
    rintro e w' ⟨rfl, rfl⟩
    go_wp2_with fail
    have HT := hide hT
    clear hT HC1 HC2 b1 b2 hor hdx ha64
    go_loop [0, 1] (fun xv yv => ∃ p q : Nat, xv = .int .u64 ((p : Nat) : Int) ∧ yv = .int .u64 ((q : Nat) : Int) ∧ p < B64 ∧ q < B64 ∧ Hid (Wd.GcdInv G t p q)) (fun xv yv => (intOf xv).toNat + (intOf yv).toNat)
    case atStart => exact ⟨u, y, rfl, rfl, by omega, hy, HST⟩
    case round =>
      obtain ⟨p, q, rfl, rfl, hp, hq, HI⟩ := hrel
      by_cases hq0 : q = 0
      · subst hq0
        have e1 := HI.out.done
        have hs : IntKind.u64.wrap ((p : Int) * 2 ^ t) = (G : Int) := by
          have h2 := (unhide HG).2
          rw [B64_eq] at h2
          rw [IntKind.wrap_u64, show (p : Int) * 2 ^ t = ((p * 2 ^ t : Nat) : Int) by simp, ← e1]
          omega
        clear e1
        have hb0 : (((0 : Nat) : Int) != 0) = false := rfl
        go_wp2_with fail
        go_ret
        exact ⟨ret_int (by rw [HGG.out]), rfl⟩
      · have hb0 : ((q : Int) != 0) = true := by simp; omega
        obtain ⟨v, hv, hb64⟩ := ctz_odd2 q hq0 hq
        obtain ⟨b, hb⟩ : ∃ b, b = Lib.ctz 64 q := ⟨_, rfl⟩
        have c3 := tz64_any q hq w' (unhide HT).1
        rw [← hb] at c3 hv hb64
        have HC3 := hide c3
        have hvb := Wd.odd2_le hv
        have hdy : (q : Int) / 2 ^ b = (v : Int) := by
          have := Wd.odd2_div hv
          rw [← this]; simp
        have hp1 := HI.out.1
        by_cases hlt : v < p
        · have hn := HI.out.step_gt hv hlt
          have HN := Lib.hid hn
          have hw := wrap_diff (Nat.le_of_lt hlt) hp
          clear hn c3 hb hv
          go_wp2_with fail
          refine (unhide HC3).mono ?_
          rintro e w2 ⟨rfl, rfl⟩
          go_wp2_with fail
          go_round
          case rel => exact ⟨v, p - v, rfl, by go_num, by omega, by omega, HN⟩
          case measure => simp [intOf] <;> omega
        · have hn := HI.out.step_le hv (by omega)
          have HN := Lib.hid hn
          have hw := wrap_diff (show p ≤ v by omega) (show v < B64 by omega)
          clear hn c3 hb hv
          go_wp2_with fail
          refine (unhide HC3).mono ?_
          rintro e w2 ⟨rfl, rfl⟩
          go_wp2_with fail
          go_round
          case rel => exact ⟨p, v - p, rfl, by go_num, by omega, by omega, HN⟩
          case measure => simp [intOf] <;> omega
end Go.Proofs.YtfbcdfoohpkfeaaDoor
/- The greatest common divisor and the sum of numbers of many words. -/
namespace Go.Proofs.YtfbcdfoohpkfeaaDoor
open Go.RowKit

/-- The words of a number fit into so many places. -/
def lim : Nat := 17592186044416
theorem lim_eq : lim = 17592186044416 := rfl

theorem nat_one {w : World} {A : Option Addr} {cap : Nat} {l : List Nat} {n : Nat} (h : NatV w A cap l n) (hl : l.length ≤ 1) : Wd.g l 0 = n ∧ n < B64 := by
  rw [← h.val]
  match l, hl, h.lt with
  | [], _, _ => exact ⟨rfl, by rw [B64_eq]; show 0 < _; omega⟩
  | [a], _, hlt => exact ⟨by simp [Wd.val, Wd.g], by have := hlt a (by simp); simpa [Wd.val] using this⟩

set_option maxRecDepth 100000 in
set_option maxHeartbeats 1000000 in
theorem ngcd_any (Ax Ay : Option Addr) (cx cy : Nat) (xl yl : List Nat) (n m : Nat) (w : World) (hx : NatV w Ax cx xl n) (hy : NatV w Ay cy yl m) (hT : Tab w) (hk : xl.length ≤ lim) (hk2 : yl.length ≤ lim) :
    Calls Tryd.prog 78 #[.slice Ax xl.length cx, .slice Ay yl.length cy] w fun e w' => NatR w (n.gcd m) e w' := by
  have HT := hide hT
  clear hT
  go_enter Tryd.func78, Tryd.ntmps78
  go_wp2_with fail
  go_loopg [0, 1] m (fun g xv yv wr => ∃ (A A' : Option Addr) (c c' : Nat) (l l' : List Nat) (n' m' : Nat), xv = .slice A l.length c ∧ yv = .slice A' l'.length c' ∧ NatV wr A c l n' ∧ NatV wr A' c' l' m' ∧ Hid (l.length ≤ lim) ∧ Hid (l'.length ≤ lim) ∧ Hid (n'.gcd m' = n.gcd m) ∧ Hid (m' ≤ g) ∧ Below w.heap.size w wr)
  case atStart => exact ⟨Ax, Ay, cx, cy, xl, yl, n, m, rfl, rfl, hx, hy, hk, hk2, rfl, Nat.le_refl _, Below.refl _ _⟩
  case round =>
    obtain ⟨A, A', c, c', l, l', n', m', rfl, rfl, h1, h2, hl1, hl2, hgcd, hmg, hb⟩ := hrel
    by_cases hone : l.length ≤ 1 ∧ l'.length ≤ 1
    · obtain ⟨o1, o2⟩ := hone
      have b1 : decide ((1 : Int) < (l.length : Int)) = false := by simp; omega
      have b2 : decide ((1 : Int) < (l'.length : Int)) = false := by simp; omega
      obtain ⟨e1, e2⟩ := nat_one h1 o1
      obtain ⟨e3, e4⟩ := nat_one h2 o2
      have hlim1 := limb_any A c l wr.heap.size 0 wr h1.ws h1.cap1 h1.cap2 (by omega)
      have hlim2 := limb_any A' c' l' wr.heap.size 0 wr h2.ws h2.cap1 h2.cap2 (by omega)
      rw [e1] at hlim1
      rw [e3] at hlim2
      have L1 := hide hlim1; have L2 := hide hlim2
      have hTr : Tab wr := (unhide HT).below hb
      have hgB : n'.gcd m' < B64 := by
        rcases Nat.eq_zero_or_pos n' with h | h
        · subst h; simp; exact e4
        · exact Nat.lt_of_le_of_lt (Nat.gcd_le_left _ h) e2
      have HGB := hide hgB
      have HG := hide (gcd64_any n' m' e2 e4 wr hTr)
      clear e1 e2 e3 e4 hlim1 hlim2 hTr hgB o1 o2
      go_wp2_with fail
      refine (unhide L1).mono ?_
      rintro e w1 ⟨rfl, hw1⟩
      obtain rfl : wr = w1 := hw1.symm
      clear hw1
      go_wp2_with fail
      refine (unhide L2).mono ?_
      rintro e w1 ⟨rfl, hw1⟩
      obtain rfl : wr = w1 := hw1.symm
      clear hw1
      go_wp2_with fail
      refine (unhide HG).mono ?_
      rintro e w1 ⟨rfl, hw1⟩
      obtain rfl : wr = w1 := hw1.symm
      clear hw1
      go_wp2_with fail
      refine (natOf_any _ (unhide HGB) wr).mono ?_
      rintro e w2 ⟨A2, cap2, l2, rfl, hr, hb2⟩
      go_wp2_with fail
      go_ret
      exact ⟨A2, cap2, l2, rfl, by rw [← hgcd.out]; exact hr, hb.trans (hb2.mono hb.size)⟩
    · have hc1 := h1.cap1; have hc2 := h1.cap2; have hc3 := h2.cap1; have hc4 := h2.cap2
      have b1 : (decide ((1 : Int) < (l.length : Int)) = true) ∨ (decide ((1 : Int) < (l.length : Int)) = false ∧ decide ((1 : Int) < (l'.length : Int)) = true) := by
        by_cases h : 1 < l.length
        · exact .inl (decide_eq_true (by omega))
        · exact .inr ⟨decide_eq_false (by omega), decide_eq_true (by omega)⟩
      by_cases h0 : l'.length = 0
      · have hz : ((l'.length : Int) == 0) = true := beq_iff_eq.2 (by omega)
        have hm0 : m' = 0 := by rw [← h2.val, List.eq_nil_of_length_eq_zero h0]; rfl
        have hgn : n' = n.gcd m := by rw [← hgcd.out, hm0, Nat.gcd_zero_right]
        have HGN := Lib.hid hgn
        clear hgn hm0 h0 hone
        rcases b1 with b1 | ⟨b1, b2⟩
        all_goals
          go_wp2_with fail
          go_ret
          exact ⟨A, c, l, rfl, by rw [← HGN.out]; exact h1, hb⟩
      · have hz : ((l'.length : Int) == 0) = false := beq_eq_false_iff_ne.2 (by omega)
        have hm0 : 0 < m' := by
          rw [← h2.val]; exact Wd.norm_val_pos (by rw [B64_eq]; omega) _ h2.norm (by intro h; rw [h] at h0; simp at h0)
        have HD := hide (div_any A A' c c' l l' n' m' wr h1 h2 hm0 (by have := hl1.out; rw [lim_eq] at this; omega) (by have := hl2.out; rw [lim_eq] at this; omega))
        have HM0 := hide hm0
        clear hm0 h0 hone
        rcases b1 with b1 | ⟨b1, b2⟩
        all_goals
          go_wp2_with fail
          refine (unhide HD).mono ?_
          rintro e w1 ⟨A1, cap1, l1, A2, cap2, l2, rfl, hq, hr, hb1⟩
          have hlt : n' % m' < m' := Nat.mod_lt _ (unhide HM0)
          have HLT := hide hlt
          have hlen : l2.length ≤ l'.length := by
            apply Classical.byContradiction
            intro h
            have := Wd.val_lt_of_length B64_pos l' l2 h2.lt hr.norm (by omega)
            rw [h2.val, hr.val] at this
            omega
          have HLEN := hide hlen
          clear hlt hlen
          go_wp2_with fail
          go_roundg (n' % m')
          case measure => have h1 := hmg.out; have h2 := HLT.out; omega
          case rel => exact ⟨A', A2, c', cap2, l', l2, m', n' % m', rfl, rfl, h2.below hb1, hr, hl2, Nat.le_trans (unhide HLEN) hl2.out, by show _ = _; rw [← hgcd.out, Nat.gcd_comm m', ← Nat.gcd_rec, Nat.gcd_comm], Nat.le_refl _, hb.trans (hb1.mono hb.size)⟩
end Go.Proofs.YtfbcdfoohpkfeaaDoor
/- The sum of two numbers of many words. -/
namespace Go.Proofs.YtfbcdfoohpkfeaaDoor
open Go.RowKit

theorem addr_add (b off j : Nat) : (⟨b, off, none⟩ : Addr).add j = ⟨b, off + j, none⟩ := by
  unfold Addr.add
  split
  · rename_i h; subst h; rfl
  · rfl

/-- The words of a list, as cells. -/
def wvals (k : IntKind) (l : List Nat) : List Value := l.map fun (x : Nat) => Value.int k (x : Int)
theorem wvals_get {k : IntKind} {l : List Nat} {j : Nat} {v : Value} (h : (wvals k l)[j]? = some v) : j < l.length ∧ v = .int k ((Wd.g l j : Nat) : Int) := by
  simp only [wvals, List.getElem?_map, Option.map_eq_some_iff] at h
  obtain ⟨x, hx, rfl⟩ := h
  obtain ⟨hl, rfl⟩ := List.getElem?_eq_some_iff.1 hx
  exact ⟨hl, by simp [Wd.g, List.getD, hl]⟩

theorem splice_words (k : IntKind) (l : List Nat) (n : Nat) (hn : l.length ≤ n) : (splice (wvals k (List.replicate n 0)) 0 (wvals k l)).toArray = wcells k (l ++ List.replicate (n - l.length) 0) := by
  simp [splice, wvals, wcells]

theorem oneCell_words (k : IntKind) (l : List Nat) : ∀ v ∈ wvals k l, v.oneCell' = true := by
  intro v hv
  simp only [wvals, List.mem_map] at hv
  obtain ⟨x, _, rfl⟩ := hv
  rfl

theorem val_append_zeros (B : Nat) (l : List Nat) (n : Nat) : Wd.val B (l ++ List.replicate n 0) = Wd.val B l := by
  rw [Wd.val_append, Wd.val_replicate_zero]; simp

theorem size64 : (Tryd.prog.info? 64).map (·.size) = some 1 := by kernel_rfl

theorem copy64 (A : Option Addr) (c : Nat) (l : List Nat) (wa : World) (B g : Nat) (hz : ZB .u64 wa g 64 (List.replicate (l.length + 1) 0)) (hws : Ws .u64 wa B A l) :
    ∃ W', (Builtin.copy_ #[44, 44] 3 #[.slice (some ⟨g, 0, none⟩) (l.length + 1) (l.length + 1), .slice A l.length c]).run Tryd.prog wa = .ok (goInt l.length) W' ∧ ZB .u64 W' g 64 (l ++ [0]) ∧ ∀ B', B' ≤ g → Below B' wa W' := by
  by_cases h0 : l.length = 0
  · have hl := List.eq_nil_of_length_eq_zero h0
    subst hl
    exact ⟨wa, run_copy_none wa 44 44 3 64 _ _ _ _ _ _ Tryd.underlying44 size64 (by simp), hz, fun B' _ => Below.refl _ _⟩
  · obtain ⟨b, off, rfl, _, hc⟩ := hws (by omega)
    have hlen : (wvals .u64 l).length = l.length := by simp [wvals]
    have hsp := splice_words .u64 l (l.length + 1) (by omega)
    rw [show l.length + 1 - l.length = 1 by omega] at hsp
    have hrun := run_copy_row (P := Tryd.prog) wa 44 44 3 64 g 0 (l.length + 1) (l.length + 1) ⟨b, off, none⟩ l.length c (wcells .u64 (List.replicate (l.length + 1) 0)) 64 (wvals .u64 l) Tryd.underlying44 size64 hz
      (by rw [hlen]; exact (Nat.min_eq_left (by omega)).symm) (fun j v hj => by
        obtain ⟨h1, rfl⟩ := wvals_get hj
        rw [addr_add]
        exact hc j h1) (by rw [hlen]; simp [wcells]) (oneCell_words _ _)
    rw [hlen] at hrun
    refine ⟨_, hrun, ?_, fun B' hB' => below_setRow (Below.refl _ _) hB' _⟩
    have e : ((wcells .u64 (List.replicate (l.length + 1) 0)).toList.take 0 ++ wvals .u64 l ++ (wcells .u64 (List.replicate (l.length + 1) 0)).toList.drop (0 + l.length)).toArray = wcells .u64 (l ++ [0]) := by
      rw [show [0] = List.replicate 1 0 from rfl, ← hsp]
      simp [splice, wcells, wvals]
    rw [e]
    exact setRow_heap wa g _ _ 64 (0, 0) hz

theorem add_val {B : Nat} (hB : 1 < B) {pl ql zr : List Nat} {n m c : Nat} (h1 : Wd.val B zr + B ^ (pl ++ [0]).length * c = Wd.val B (pl ++ [0]) + Wd.val B ql) (hp : Wd.val B pl = n) (hq : Wd.val B ql = m) (hn : n < B ^ pl.length) (hm : m < B ^ ql.length) (hl : ql.length ≤ pl.length) (hc : c ≤ 1) : Wd.val B zr = n + m := by
  have h2 : Wd.val B (pl ++ [0]) = n := by rw [show [0] = List.replicate 1 0 from rfl, val_append_zeros]; exact hp
  rw [h2, hq] at h1
  have h5 : B ^ ql.length ≤ B ^ pl.length := Nat.pow_le_pow_right (Nat.lt_trans Nat.zero_lt_one hB) hl
  have h6 : B ^ (pl ++ [0]).length = B ^ pl.length * B := by rw [List.length_append, List.length_singleton, Nat.pow_succ]
  have h7 : 2 * B ^ pl.length ≤ B ^ pl.length * B := by rw [Nat.mul_comm]; exact Nat.mul_le_mul_left _ hB
  rw [h6] at h1
  generalize B ^ pl.length * B = Q at *
  generalize B ^ pl.length = P at *
  generalize B ^ ql.length = R at *
  rcases (show c = 0 ∨ c = 1 by omega) with rfl | rfl <;> omega

theorem lt_snoc {l : List Nat} (h : ∀ x ∈ l, x < B64) : ∀ x ∈ l ++ [0], x < B64 := by
  intro t ht
  rw [List.mem_append] at ht
  rcases ht with h1 | h1
  · exact h t h1
  · rw [List.mem_singleton] at h1; subst h1; exact Nat.lt_trans Nat.zero_lt_one B64_pos

set_option maxRecDepth 100000 in
set_option maxHeartbeats 1000000 in
theorem add_any (Ax Ay : Option Addr) (cx cy : Nat) (xl yl : List Nat) (n m : Nat) (w : World) (hx : NatV w Ax cx xl n) (hy : NatV w Ay cy yl m) (hk : xl.length ≤ lim) (hk2 : yl.length ≤ lim) :
    Calls Tryd.prog 98 #[.slice Ax xl.length cx, .slice Ay yl.length cy] w fun e w' => NatR w (n + m) e w' := by
  have hx1 := hx.cap1; have hx2 := hx.cap2; have hy1 := hy.cap1; have hy2 := hy.cap2
  have hkk : xl.length ≤ 17592186044416 := by rw [← lim_eq]; exact hk
  have hkk2 : yl.length ≤ 17592186044416 := by rw [← lim_eq]; exact hk2
  by_cases hlt : xl.length < yl.length
  · have b1 : decide ((xl.length : Int) < (yl.length : Int)) = true := decide_eq_true (by omega)
    have b2 : decide (xl.length < yl.length) = true := decide_eq_true (by omega)
    have hmk := make64 (yl.length + 1) (by omega)
    simp only [Int.natCast_add, Int.cast_ofNat_Int] at hmk
    have hws : Ws .u64 (w.alloc (.cells (wcells .u64 (List.replicate (yl.length + 1) 0)) 64)) w.heap.size Ay yl := hy.ws.alloc (Nat.le_refl _) _
    obtain ⟨w1, hcopy, hz, hb0⟩ := copy64 Ay cy yl _ w.heap.size w.heap.size (heap_alloc_new w _) hws
    have hb1 : Below w.heap.size w w1 := ((Below.refl _ _).alloc (Nat.le_refl _) _).trans (hb0 _ (Nat.le_refl _))
    clear hb0 hws
    go_enter Tryd.func98, Tryd.ntmps98
    go_wp2_with fail
    have hx1 := hx.below hb1
    have hadd := addInto_any w.heap.size 0 (yl.length + 1) 64 (yl ++ [0]) (yl ++ [0]) xl Ax cx w.heap.size w1 hz (by simp) (by rw [List.drop_zero, List.take_of_length_le (Nat.le_refl _)]) (by simp) (by omega) (hx.ws.below hb1) (Nat.le_refl _) hx.cap1 hx.cap2 (by simp; omega) (lt_snoc hy.lt) hx.lt
    have e0 : (yl ++ [0]).length = yl.length + 1 := by simp
    rw [e0] at hadd
    refine hadd.mono ?_
    rintro e w2 ⟨zr, c, rfl, hok, hz2, hg2⟩
    have hl2 : zr.length = yl.length + 1 := by rw [hok.len]; simp
    rw [win_zero _ _ (by rw [hok.len])] at hz2
    have hval : Wd.val B64 zr = n + m := by rw [Nat.add_comm]; exact add_val B64_pos hok.eq hy.val hx.val hy.lt_pow hx.lt_pow (by omega) hok.c1
    have hb2 : Below w.heap.size w w2 := hb1.grown hg2 hb1.size (fun g e => by injection e with e; omega)
    have HL2 := Lib.hid hl2; have HVAL := Lib.hid hval; have HLT := hide hok.lt
    have htr := trim_any (some ⟨w.heap.size, 0, none⟩) zr.length zr w2.heap.size w2 (hz2.ws0 _ hz2.lt) (Nat.le_refl _) (by omega)
    rw [hl2] at htr
    have HTR := hide htr
    clear hl2 hval hok hadd htr
    go_wp2_with fail
    refine (unhide HTR).mono ?_
    rintro e w3 ⟨⟨k, rfl, ht, hk3⟩, hw3⟩
    obtain rfl : w2 = w3 := hw3.symm
    go_wp2_with fail
    go_ret
    have hk4 : k = (zr.take k).length := by have := HL2.out; rw [List.length_take]; omega
    have h := NatV.of_trim (cap := yl.length + 1) hz2 (unhide HLT) ht (by rw [HL2.out]; exact hk3) (by rw [HL2.out]; exact Nat.le_refl _) (by omega)
    rw [HVAL.out] at h
    exact ⟨some ⟨w.heap.size, 0, none⟩, yl.length + 1, zr.take k, ret_slice hk4, h, hb2⟩
  · have b1 : decide ((xl.length : Int) < (yl.length : Int)) = false := decide_eq_false (by omega)
    have b2 : decide (xl.length < yl.length) = false := decide_eq_false (by omega)
    have hmk := make64 (xl.length + 1) (by omega)
    simp only [Int.natCast_add, Int.cast_ofNat_Int] at hmk
    have hws : Ws .u64 (w.alloc (.cells (wcells .u64 (List.replicate (xl.length + 1) 0)) 64)) w.heap.size Ax xl := hx.ws.alloc (Nat.le_refl _) _
    obtain ⟨w1, hcopy, hz, hb0⟩ := copy64 Ax cx xl _ w.heap.size w.heap.size (heap_alloc_new w _) hws
    have hb1 : Below w.heap.size w w1 := ((Below.refl _ _).alloc (Nat.le_refl _) _).trans (hb0 _ (Nat.le_refl _))
    clear hb0 hws
    go_enter Tryd.func98, Tryd.ntmps98
    go_wp2_with fail
    have hy1 := hy.below hb1
    have hadd := addInto_any w.heap.size 0 (xl.length + 1) 64 (xl ++ [0]) (xl ++ [0]) yl Ay cy w.heap.size w1 hz (by simp) (by rw [List.drop_zero, List.take_of_length_le (Nat.le_refl _)]) (by simp) (by omega) (hy.ws.below hb1) (Nat.le_refl _) hy.cap1 hy.cap2 (by simp; omega) (lt_snoc hx.lt) hy.lt
    have e0 : (xl ++ [0]).length = xl.length + 1 := by simp
    rw [e0] at hadd
    refine hadd.mono ?_
    rintro e w2 ⟨zr, c, rfl, hok, hz2, hg2⟩
    have hl2 : zr.length = xl.length + 1 := by rw [hok.len]; simp
    rw [win_zero _ _ (by rw [hok.len])] at hz2
    have hval : Wd.val B64 zr = n + m := add_val B64_pos hok.eq hx.val hy.val hx.lt_pow hy.lt_pow (by omega) hok.c1
    have hb2 : Below w.heap.size w w2 := hb1.grown hg2 hb1.size (fun g e => by injection e with e; omega)
    have HL2 := Lib.hid hl2; have HVAL := Lib.hid hval; have HLT := hide hok.lt
    have htr := trim_any (some ⟨w.heap.size, 0, none⟩) zr.length zr w2.heap.size w2 (hz2.ws0 _ hz2.lt) (Nat.le_refl _) (by omega)
    rw [hl2] at htr
    have HTR := hide htr
    clear hl2 hval hok hadd htr
    go_wp2_with fail
    refine (unhide HTR).mono ?_
    rintro e w3 ⟨⟨k, rfl, ht, hk3⟩, hw3⟩
    obtain rfl : w2 = w3 := hw3.symm
    go_wp2_with fail
    go_ret
    have hk4 : k = (zr.take k).length := by have := HL2.out; rw [List.length_take]; omega
    have h := NatV.of_trim (cap := xl.length + 1) hz2 (unhide HLT) ht (by rw [HL2.out]; exact hk3) (by rw [HL2.out]; exact Nat.le_refl _) (by omega)
    rw [HVAL.out] at h
    exact ⟨some ⟨w.heap.size, 0, none⟩, xl.length + 1, zr.take k, ret_slice hk4, h, hb2⟩
end Go.Proofs.YtfbcdfoohpkfeaaDoor
/- Whole numbers without a limit. -/
namespace Go.Proofs.YtfbcdfoohpkfeaaDoor
open Go.RowKit

/-- Every old cell, and every old mark, reads as before. -/
theorem bcell {W w1 : World} (hb : Below W.heap.size W w1) : (∀ b o, b < W.heap.size → w1.cell? ⟨b, o, none⟩ = W.cell? ⟨b, o, none⟩) ∧ (∀ b o, b < W.heap.size → w1.frozen? ⟨b, o, none⟩ = W.frozen? ⟨b, o, none⟩) :=
  ⟨fun b o h => hb.cell (p := ⟨b, o, none⟩) h, fun b o h => hb.frozen (p := ⟨b, o, none⟩) h⟩

/-- The greatest word that is a small number, and one more. -/
def M63 : Nat := 9223372036854775808
theorem M63_eq : M63 = 9223372036854775808 := rfl

/-- The three parts of a whole number: small ones without words, the others by their amount and sign. -/
structure IntF (w : World) (s : Int) (neg : Bool) (A : Option Addr) (cap : Nat) (l : List Nat) (z : Int) : Prop where
  nat : ∃ n, NatV w A cap l n
  form : (l.length = 0 ∧ neg = false ∧ s = z ∧ z.natAbs < M63) ∨ (0 < l.length ∧ s = 0 ∧ neg = decide (z < 0) ∧ Wd.val B64 l = z.natAbs ∧ M63 ≤ z.natAbs)

theorem IntF.below {w w' : World} {s : Int} {neg : Bool} {A : Option Addr} {cap : Nat} {l : List Nat} {z : Int} (h : IntF w s neg A cap l z) (hb : Below w.heap.size w w') : IntF w' s neg A cap l z :=
  ⟨let ⟨n, hn⟩ := h.nat; ⟨n, hn.below hb⟩, h.form⟩
theorem IntF.small {w : World} {z : Int} (hz : z.natAbs < M63) : IntF w z false none 0 [] z := ⟨⟨0, NatV.nil_ _ _ (by omega)⟩, .inl ⟨rfl, rfl, rfl, hz⟩⟩

/-- What a call hands back: a whole number; what was there is as it was. -/
def IntR (w : World) (z : Int) (e : Ending) (w' : World) : Prop := ∃ s neg A cap l, e = .returned (.agg #[.int .i64 s, .bool neg, .slice A l.length cap]) ∧ IntF w' s neg A cap l z ∧ Below w.heap.size w w'

/-- A block of which no cell is a word. -/
def NoWord (cs : Array Value) : Prop := ∀ (i : Nat) (n : Int), cs[i]? ≠ some (Value.int .u64 n)
theorem noWord3 (s : Int) (b : Bool) (A : Option Addr) (n c : Nat) : NoWord #[.int .i64 s, .bool b, .slice A n c] := by
  intro i n h
  match i, h with
  | 0, h => simp at h
  | 1, h => simp at h
  | 2, h => simp at h
  | i + 3, h => simp at h

theorem Ws.upto {w w' : World} {B g : Nat} {A : Option Addr} {l : List Nat} {T : TypeId} {cs : Array Value} (h : Ws .u64 w B A l) (hg : w.heap[g]? = some (.cells cs T (0, 0))) (hn : NoWord cs) (hgr : w.grownBy w' (some g)) (hB : B ≤ w.heap.size) : Ws .u64 w' B A l := fun hl => by
  obtain ⟨b, off, rfl, hb, hc⟩ := h hl
  have hne : b ≠ g := by
    rintro rfl
    have := hc 0 hl
    simp only [World.cell?, hg, Option.isSome_none, Bool.false_eq_true, if_false] at this
    exact hn _ _ this
  exact ⟨b, off, rfl, hb, fun j hj => (World.cell?_of_block (hgr.block b (by omega) (fun e => hne (by injection e)))).trans (hc j hj)⟩
theorem NatV.upto {w w' : World} {g : Nat} {A : Option Addr} {cap : Nat} {l : List Nat} {n : Nat} {T : TypeId} {cs : Array Value} (h : NatV w A cap l n) (hg : w.heap[g]? = some (.cells cs T (0, 0))) (hn : NoWord cs) (hgr : w.grownBy w' (some g)) : NatV w' A cap l n :=
  ⟨(h.ws.upto hg hn hgr (Nat.le_refl _)).more hgr.size, h.cap1, h.cap2, h.lt, h.norm, h.val⟩
theorem IntF.upto {w w' : World} {g : Nat} {s : Int} {neg : Bool} {A : Option Addr} {cap : Nat} {l : List Nat} {z : Int} {T : TypeId} {cs : Array Value} (h : IntF w s neg A cap l z) (hg : w.heap[g]? = some (.cells cs T (0, 0))) (hn : NoWord cs) (hgr : w.grownBy w' (some g)) : IntF w' s neg A cap l z :=
  ⟨let ⟨n, hn'⟩ := h.nat; ⟨n, hn'.upto hg hn hgr⟩, h.form⟩

/-- The end of a call that hands back a whole number: three stores into the block of the result. -/
theorem set3_grown (w : World) (g : Nat) (u0 u1 u2 : Value) : w.grownBy (((w.setCell ⟨g, 0, none⟩ u0).setCell ⟨g, 1, none⟩ u1).setCell ⟨g, 2, none⟩ u2) (some g) :=
  grown_setCell (grown_setCell (grown_setCell (grown_refl _ _) _ _) _ _) _ _

set_option maxHeartbeats 400000 in
theorem isSmall_any (s : Int) (neg : Bool) (A : Option Addr) (cap n : Nat) (w : World) :
    Calls Tryd.prog 75 #[.agg #[.int .i64 s, .bool neg, .slice A n cap]] w fun e w' => e = .returned (.bool (decide (n = 0))) ∧ w' = w.alloc (.cells #[.int .i64 s, .bool neg, .slice A n cap] 46) := by
  by_cases h : n = 0
  · subst h
    go_enter Tryd.func75, Tryd.ntmps75
    go_wp2
    go_ret
    exact ⟨rfl, rfl⟩
  · have hb : ((n : Int) == 0) = false := beq_eq_false_iff_ne.2 (by omega)
    have hd : decide (n = 0) = false := decide_eq_false h
    rw [hd]
    clear hd
    go_enter Tryd.func75, Tryd.ntmps75
    go_wp2
    go_ret
    exact ⟨rfl, rfl⟩

set_option maxHeartbeats 400000 in
theorem size_any (s : Int) (hs1 : -9223372036854775808 ≤ s) (hs2 : s ≤ 9223372036854775807) (w : World) :
    Calls Tryd.prog 54 #[.int .i64 s] w fun e w' => e = .returned (.int .u64 ((s.natAbs : Nat) : Int)) ∧ w' = w := by
  by_cases h : s < 0
  · have e1 : IntKind.u64.wrap (-(IntKind.u64.wrap s)) = ((s.natAbs : Nat) : Int) := by
      rw [IntKind.wrap_u64, IntKind.wrap_u64]; omega
    have HE := Lib.hid e1
    clear e1 hs1 hs2
    go_enter Tryd.func54, Tryd.ntmps54
    go_wp2
    go_ret
    exact ⟨ret_int (by first | exact HE.out | (rw [← HE.out]; simp)), rfl⟩
  · have e1 : IntKind.u64.wrap s = ((s.natAbs : Nat) : Int) := by
      rw [IntKind.wrap_u64]; omega
    have HE := Lib.hid e1
    clear e1 hs1 hs2
    go_enter Tryd.func54, Tryd.ntmps54
    go_wp2
    go_ret
    exact ⟨ret_int (by first | exact HE.out | (rw [← HE.out]; simp)), rfl⟩

set_option maxHeartbeats 400000 in
theorem word_any (neg : Bool) (m : Nat) (hm : m < B64) (w : World) :
    Calls Tryd.prog 53 #[.bool neg, .int .u64 ((m : Nat) : Int)] w fun e w' => IntR w (if neg then -(m : Int) else (m : Int)) e w' := by
  by_cases h : M63 ≤ m
  · have b1 : decide ((9223372036854775807 : Int) < (m : Int)) = true := decide_eq_true (by rw [M63_eq] at h; omega)
    have hz : (if neg then -(m : Int) else (m : Int)).natAbs = m := by cases neg <;> simp
    have hn : decide ((if neg then -(m : Int) else (m : Int)) < 0) = neg := by rw [M63_eq] at h; cases neg <;> simp <;> omega
    obtain ⟨z, hzz⟩ : ∃ z, z = if neg then -(m : Int) else (m : Int) := ⟨_, rfl⟩
    rw [← hzz] at hz hn ⊢
    have HZ := Lib.hid hz; have HN := Lib.hid hn; have HM := hide h; have HMB := hide hm
    clear hz hn hzz h hm
    go_enter Tryd.func53, Tryd.ntmps53
    go_wp2
    refine bodyPost_ret (v := .agg #[.int .i64 0, .bool neg, .slice (some ⟨w.heap.size + 1, 0, none⟩) 1 1]) (by simp [results, Tryd.results53, go_sem]) rfl ⟨0, neg, some ⟨w.heap.size + 1, 0, none⟩, 1, [m], rfl, ?_, ?_⟩
    · have hz : ZB .u64 ((w.alloc (.cells #[.int .i64 0, .bool neg, .slice (some ⟨w.heap.size + 1, 0, none⟩) 1 1] 46)).alloc (.cells #[.int .u64 (m : Int)] 64)) (w.heap.size + 1) 64 [m] := by
        have : ZB .u64 ((w.alloc (.cells #[.int .i64 0, .bool neg, .slice (some ⟨w.heap.size + 1, 0, none⟩) 1 1] 46)).alloc (.cells #[.int .u64 (m : Int)] 64)) (w.alloc (.cells #[.int .i64 0, .bool neg, .slice (some ⟨w.heap.size + 1, 0, none⟩) 1 1] 46)).heap.size 64 [m] := heap_alloc_new _ _
        rwa [World.size_alloc] at this
      have h63 := HM.out
      rw [M63_eq] at h63
      exact ⟨⟨m, hz.ws0 _ hz.lt, by simp, by omega, by simpa using HMB.out, .inr (by simp; omega), by simp [Wd.val]⟩, .inr ⟨by simp, rfl, HN.out.symm, by rw [HZ.out]; simp [Wd.val], by rw [HZ.out]; exact HM.out⟩⟩
    · exact ((Below.refl _ _).alloc (Nat.le_refl _) _).alloc (by simp) _
  · have b1 : decide ((9223372036854775807 : Int) < (m : Int)) = false := decide_eq_false (by rw [M63_eq] at h; omega)
    have HM := hide h
    cases neg
    · have e1 : IntKind.i64.wrap (m : Int) = (m : Int) := IntWalk.i64_in _ (by rw [M63_eq] at h; omega)
      clear hm h
      go_enter Tryd.func53, Tryd.ntmps53
      go_wp2
      refine bodyPost_ret (v := .agg #[.int .i64 (m : Int), .bool false, .slice none 0 0]) (by simp [results, Tryd.results53, go_sem]) rfl ⟨(m : Int), false, none, 0, [], rfl, ?_, ?_⟩
      · exact IntF.small (by have := HM.out; simpa using this)
      · exact (Below.refl _ _).alloc (Nat.le_refl _) _
    · have e1 : IntKind.i64.wrap (m : Int) = (m : Int) := IntWalk.i64_in _ (by rw [M63_eq] at h; omega)
      have e2 : wrap64 (-(m : Int)) = -(m : Int) := IntWalk.wrap64_in _ ⟨by rw [M63_eq] at h; omega, by omega⟩
      clear hm h
      go_enter Tryd.func53, Tryd.ntmps53
      go_wp2
      refine bodyPost_ret (v := .agg #[.int .i64 (-(m : Int)), .bool false, .slice none 0 0]) (by simp [results, Tryd.results53, go_sem]) rfl ⟨-(m : Int), false, none, 0, [], rfl, ?_, ?_⟩
      · exact IntF.small (by have := HM.out; simpa using this)
      · exact (Below.refl _ _).alloc (Nat.le_refl _) _

set_option maxHeartbeats 400000 in
theorem newInt_any (n : Int) (h1 : -9223372036854775808 ≤ n) (h2 : n ≤ 9223372036854775807) (w : World) :
    Calls Tryd.prog 22 #[.int .i64 n] w fun e w' => IntR w n e w' := by
  have hs := size_any n h1 h2
  have hw : ∀ W, Calls Tryd.prog 53 #[.bool (decide (n < 0)), .int .u64 ((n.natAbs : Nat) : Int)] W fun e w' => IntR W n e w' := fun W => by
    have := word_any (decide (n < 0)) n.natAbs (by rw [B64_eq]; omega) W
    rwa [show (if decide (n < 0) = true then -((n.natAbs : Nat) : Int) else ((n.natAbs : Nat) : Int)) = n by by_cases h : n < 0 <;> simp [h] <;> omega] at this
  have HS := hide hs; have HW := hide hw
  clear hs hw h1 h2
  by_cases hn : n < 0
  all_goals
    have hd : decide (n < 0) = decide (n < 0) := rfl
    first
      | rw [decide_eq_true hn] at HW
      | rw [decide_eq_false hn] at HW
    clear hd
    go_enter Tryd.func22, Tryd.ntmps22
    go_wp2_with fail
    refine ((unhide HS) _).mono ?_
    rintro e w1 ⟨rfl, rfl⟩
    go_wp2_with fail
    refine ((unhide HW) _).mono ?_
    rintro e w2 ⟨s, neg, A, cap, l, rfl, hf, hb⟩
    obtain ⟨hc, hfz⟩ := bcell hb
    have hsz : w.heap.size < w2.heap.size := by have := hb.size; simp at this; omega
    have hblk : w2.heap[w.heap.size]? = some (.cells #[.int .i64 0, .bool false, .slice none 0 0] 46 (0, 0)) := (hb.block _ (by simp)).trans (heap_alloc_new w _)
    have HBLK := Lib.hid hblk
    clear hblk
    go_wp2_with fail
    exact bodyPost_ret (v := .agg #[.int .i64 s, .bool neg, .slice A l.length cap]) (by simp [results, Tryd.results22, go_sem, hc, hsz]) rfl
      ⟨s, neg, A, cap, l, rfl, hf.upto HBLK.out (noWord3 _ _ _ _ _) (set3_grown _ _ _ _ _), (((Below.refl _ _).alloc (Nat.le_refl _) _).trans (hb.mono (by simp))).grown (set3_grown _ _ _ _ _) (by omega) (fun k hk => by injection hk with hk; omega)⟩

/-- The sign of a whole number. -/
def sgn (z : Int) : Int := if z < 0 then -1 else if 0 < z then 1 else 0

set_option maxHeartbeats 400000 in
theorem cmp64_any (x y : Int) (w : World) :
    Calls Tryd.prog 79 #[.int .i64 x, .int .i64 y] w fun e w' => e = .returned (.int .i64 (sgn (x - y))) ∧ w' = w := by
  go_enter Tryd.func79, Tryd.ntmps79
  go_wp2
  · have h : x < y := by assumption
    go_ret
    exact ⟨ret_int (by unfold sgn; rw [if_pos (by omega)]), rfl⟩
  · have h : y < x := by assumption
    go_ret
    exact ⟨ret_int (by unfold sgn; rw [if_neg (by omega), if_pos (by omega)]), rfl⟩
  · have h1 : y ≤ x := by assumption
    have h2 : x ≤ y := by assumption
    go_ret
    exact ⟨ret_int (by unfold sgn; rw [if_neg (by omega), if_neg (by omega)]), rfl⟩
end Go.Proofs.YtfbcdfoohpkfeaaDoor
/- Whole numbers: amount, sign, opposite. -/
namespace Go.Proofs.YtfbcdfoohpkfeaaDoor
open Go.RowKit

theorem IntF.bounds {w : World} {s : Int} {neg : Bool} {A : Option Addr} {cap : Nat} {l : List Nat} {z : Int} (h : IntF w s neg A cap l z) : -9223372036854775808 ≤ s ∧ s ≤ 9223372036854775807 := by
  rcases h.form with ⟨_, _, rfl, h⟩ | ⟨_, rfl, _⟩
  · rw [M63_eq] at h; omega
  · omega

set_option maxRecDepth 100000 in
set_option maxHeartbeats 400000 in
theorem abs_any (s : Int) (neg : Bool) (A : Option Addr) (cap : Nat) (l : List Nat) (z : Int) (w : World) (h : IntF w s neg A cap l z) :
    Calls Tryd.prog 77 #[.agg #[.int .i64 s, .bool neg, .slice A l.length cap]] w fun e w' => NatR w z.natAbs e w' := by
  have hsm := fun W => isSmall_any s neg A cap l.length W
  have HSM := hide hsm
  clear hsm
  rcases h.form with ⟨h1, h2, h3, h4⟩ | ⟨h1, h2, h3, h4, h5⟩
  · rw [decide_eq_true h1] at HSM
    have hb := h.bounds
    have HSZ := hide (fun W => size_any s hb.1 hb.2 W)
    have hzB : z.natAbs < B64 := by rw [M63_eq] at h4; rw [B64_eq]; omega
    rw [h3] at HSZ
    obtain ⟨a, ha⟩ : ∃ a, a = z.natAbs := ⟨_, rfl⟩
    rw [← ha] at HSZ hzB ⊢
    have HZB := hide hzB
    subst h3
    clear hb hzB h1 h2 h4 h ha
    go_enter Tryd.func77, Tryd.ntmps77
    go_wp2_with fail
    refine ((unhide HSM) _).mono ?_
    rintro e w1 ⟨rfl, rfl⟩
    go_wp2_with fail
    refine ((unhide HSZ) _).mono ?_
    rintro e w1 ⟨rfl, rfl⟩
    go_wp2_with fail
    refine (natOf_any _ (unhide HZB) _).mono ?_
    rintro e w2 ⟨A', cap', l', rfl, hn, hb⟩
    go_wp2_with fail
    go_ret
    exact ⟨A', cap', l', rfl, hn, (((Below.refl _ _).alloc (Nat.le_refl _) _).alloc (by simp) _).trans (hb.mono (by simp; omega))⟩
  · rw [decide_eq_false (by omega)] at HSM
    obtain ⟨n, hn⟩ := h.nat
    have hnz : n = z.natAbs := by rw [← h4, hn.val]
    subst hnz
    have HN := hide hn
    clear h1 h2 h3 h4 h5 h hn
    go_enter Tryd.func77, Tryd.ntmps77
    go_wp2_with fail
    refine ((unhide HSM) _).mono ?_
    rintro e w1 ⟨rfl, rfl⟩
    go_wp2_with fail
    go_ret
    exact ⟨A, cap, l, rfl, (unhide HN).below (((Below.refl _ _).alloc (Nat.le_refl _) _).alloc (by simp) _), ((Below.refl _ _).alloc (Nat.le_refl _) _).alloc (by simp) _⟩

set_option maxRecDepth 100000 in
set_option maxHeartbeats 400000 in
theorem sign_any (s : Int) (neg : Bool) (A : Option Addr) (cap : Nat) (l : List Nat) (z : Int) (w : World) (h : IntF w s neg A cap l z) :
    Calls Tryd.prog 50 #[.agg #[.int .i64 s, .bool neg, .slice A l.length cap]] w fun e w' => e = .returned (.int .i64 (sgn z)) ∧ Below w.heap.size w w' := by
  have HSM := hide (fun W => isSmall_any s neg A cap l.length W)
  rcases h.form with ⟨h1, h2, h3, h4⟩ | ⟨h1, h2, h3, h4, h5⟩
  · rw [decide_eq_true h1] at HSM
    have HC := hide (fun W => cmp64_any z 0 W)
    rw [Int.sub_zero] at HC
    subst h3
    clear h1 h2 h4 h
    go_enter Tryd.func50, Tryd.ntmps50
    go_wp2_with fail
    refine ((unhide HSM) _).mono ?_
    rintro e w1 ⟨rfl, rfl⟩
    go_wp2_with fail
    refine ((unhide HC) _).mono ?_
    rintro e w1 ⟨rfl, rfl⟩
    go_wp2_with fail
    go_ret
    exact ⟨rfl, ((Below.refl _ _).alloc (Nat.le_refl _) _).alloc (by simp) _⟩
  · rw [decide_eq_false (by omega)] at HSM
    have hs : sgn z = if neg = true then -1 else 1 := by
      unfold sgn; rw [h3]; rw [M63_eq] at h5
      by_cases hz : z < 0
      · simp [hz]
      · simp [hz]; omega
    have HO := hide (fun W => order_any neg W)
    cases neg
    all_goals
      simp only [Bool.false_eq_true, if_false, if_true] at hs HO
      have HS := Lib.hid hs
      clear h1 h2 h3 h4 h5 h hs
      go_enter Tryd.func50, Tryd.ntmps50
      go_wp2_with fail
      refine ((unhide HSM) _).mono ?_
      rintro e w1 ⟨rfl, rfl⟩
      go_wp2_with fail
      refine ((unhide HO) _).mono ?_
      rintro e w1 ⟨rfl, rfl⟩
      go_wp2_with fail
      go_ret
      exact ⟨ret_int HS.out.symm, ((Below.refl _ _).alloc (Nat.le_refl _) _).alloc (by simp) _⟩

set_option maxRecDepth 100000 in
set_option maxHeartbeats 400000 in
theorem neg_any (s : Int) (neg : Bool) (A : Option Addr) (cap : Nat) (l : List Nat) (z : Int) (w : World) (h : IntF w s neg A cap l z) :
    Calls Tryd.prog 51 #[.agg #[.int .i64 s, .bool neg, .slice A l.length cap]] w fun e w' => IntR w (-z) e w' := by
  have HSM := hide (fun W => isSmall_any s neg A cap l.length W)
  rcases h.form with ⟨h1, h2, h3, h4⟩ | ⟨h1, h2, h3, h4, h5⟩
  · rw [decide_eq_true h1] at HSM
    subst h3
    have e1 : wrap64 (-s) = -s := IntWalk.wrap64_in _ (by rw [M63_eq] at h4; omega)
    have H4 := hide h4
    clear h1 h2 h4 h
    go_enter Tryd.func51, Tryd.ntmps51
    go_wp2_with fail
    refine ((unhide HSM) _).mono ?_
    rintro e w1 ⟨rfl, rfl⟩
    go_wp2_with fail
    refine bodyPost_ret (v := .agg #[.int .i64 (-s), .bool false, .slice none 0 0]) (by simp [results, Tryd.results51, go_sem]) rfl ⟨-s, false, none, 0, [], rfl, IntF.small (by have := unhide H4; simpa using this), ?_⟩
    exact (((Below.refl _ _).alloc (Nat.le_refl _) _).alloc (by simp) _).alloc (by simp; omega) _
  · rw [decide_eq_false (by omega)] at HSM
    have hf : IntF w 0 (!neg) A cap l (-z) := by
      refine ⟨h.nat, .inr ⟨h1, rfl, ?_, by rw [h4]; simp, by simpa using h5⟩⟩
      rw [h3]; rw [M63_eq] at h5
      by_cases hz : z < 0
      · simp [hz]; omega
      · simp [hz]; omega
    have H := hide hf
    clear h1 h2 h3 h4 h5 h hf
    go_enter Tryd.func51, Tryd.ntmps51
    go_wp2_with fail
    refine ((unhide HSM) _).mono ?_
    rintro e w1 ⟨rfl, rfl⟩
    go_wp2_with fail
    refine bodyPost_ret (v := .agg #[.int .i64 0, .bool (!neg), .slice A l.length cap]) (by simp [results, Tryd.results51, go_sem]) rfl ⟨0, !neg, A, cap, l, rfl, ?_, ?_⟩
    · exact (unhide H).below ((((Below.refl _ _).alloc (Nat.le_refl _) _).alloc (by simp) _).alloc (by simp; omega) _)
    · exact (((Below.refl _ _).alloc (Nat.le_refl _) _).alloc (by simp) _).alloc (by simp; omega) _

set_option maxRecDepth 100000 in
set_option maxHeartbeats 400000 in
theorem small_any (s : Int) (neg : Bool) (A : Option Addr) (cap n : Nat) (w : World) :
    Calls Tryd.prog 55 #[.agg #[.int .i64 s, .bool neg, .slice A n cap]] w fun e w' => e = .returned (.tuple #[.int .i64 s, .bool (decide (n = 0))]) ∧ Below w.heap.size w w' := by
  have HSM := hide (fun W => isSmall_any s neg A cap n W)
  go_enter Tryd.func55, Tryd.ntmps55
  go_wp2_with fail
  go_region_with (go_at_call 75; refine ((unhide HSM) _).mono ?_; rintro e w' ⟨rfl, rfl⟩)
  all_goals
    go_wp2_with fail
    go_ret2
    refine ⟨rfl, ?_⟩
    repeat (first | exact Below.refl _ _ | refine Below.drew ?_ | (refine Below.alloc ?_ (by simp <;> omega) _))
end Go.Proofs.YtfbcdfoohpkfeaaDoor
/- Whole numbers: out of a sign and an amount; comparison. -/
namespace Go.Proofs.YtfbcdfoohpkfeaaDoor
open Go.RowKit

theorem below_step {w W w' : World} (h : Below w.heap.size w W) (hb : Below W.heap.size W w') : Below w.heap.size w w' := h.trans (hb.mono h.size)

theorem below_step' {w W w' : World} (h : Below w.heap.size w W) (hb : Below W.heap.size W w') : Below w.heap.size w w' := h.trans (hb.mono h.size)

theorem signed_form {w : World} {A : Option Addr} {cap : Nat} {l : List Nat} {n : Nat} (h : NatV w A cap l n) (hl : 1 < l.length) (neg : Bool) : IntF w 0 neg A cap l (if neg then -(n : Int) else (n : Int)) := by
  have h1 := Wd.norm_ge (B := B64) l h.norm (by rintro rfl; simp at hl)
  have h2 : B64 ^ 1 ≤ B64 ^ (l.length - 1) := Nat.pow_le_pow_right (Nat.lt_trans Nat.zero_lt_one B64_pos) (by omega)
  rw [h.val, ] at h1
  rw [Nat.pow_one] at h2
  have h3 : M63 ≤ n ∧ 0 < n := by
    have : M63 ≤ B64 := by rw [M63_eq, B64_eq]; omega
    have : 0 < B64 := Nat.lt_trans Nat.zero_lt_one B64_pos
    omega
  refine ⟨⟨n, h⟩, .inr ⟨by omega, rfl, ?_, ?_, ?_⟩⟩
  · cases neg <;> simp <;> omega
  · rw [h.val]; cases neg <;> simp
  · cases neg <;> simp <;> exact h3.1

set_option maxRecDepth 100000 in
set_option maxHeartbeats 400000 in
theorem signed_any (neg : Bool) (A : Option Addr) (cap : Nat) (l : List Nat) (n : Nat) (w : World) (h : NatV w A cap l n) :
    Calls Tryd.prog 76 #[.bool neg, .slice A l.length cap] w fun e w' => IntR w (if neg then -(n : Int) else (n : Int)) e w' := by
  have hc1 := h.cap1; have hc2 := h.cap2
  by_cases hl : 1 < l.length
  · have b1 : decide ((1 : Int) < (l.length : Int)) = true := decide_eq_true (by omega)
    have hf := signed_form h hl neg
    obtain ⟨z, hz⟩ : ∃ z, z = if neg then -(n : Int) else (n : Int) := ⟨_, rfl⟩
    rw [← hz] at hf ⊢
    have HF := hide hf
    clear hf hz hl h
    go_enter Tryd.func76, Tryd.ntmps76
    go_wp2_with fail
    exact bodyPost_ret (v := .agg #[.int .i64 0, .bool neg, .slice A l.length cap]) (by simp [results, Tryd.results76, go_sem]) rfl ⟨0, neg, A, cap, l, rfl, (unhide HF).below ((Below.refl _ _).alloc (Nat.le_refl _) _), (Below.refl _ _).alloc (Nat.le_refl _) _⟩
  · have b1 : decide ((1 : Int) < (l.length : Int)) = false := decide_eq_false (by omega)
    obtain ⟨e1, e2⟩ := nat_one h (by omega)
    have hlim := fun W (hW : Below w.heap.size w W) => limb_any A cap l W.heap.size 0 W (h.below hW).ws hc1 hc2 (by omega)
    rw [e1] at hlim
    have HL := hide hlim
    have HW := hide (fun W => word_any neg n e2 W)
    obtain ⟨z, hz⟩ : ∃ z, z = if neg then -(n : Int) else (n : Int) := ⟨_, rfl⟩
    rw [← hz] at HW ⊢
    clear hz hl h e1 e2 hlim
    go_enter Tryd.func76, Tryd.ntmps76
    go_wp2_with fail
    refine ((unhide HL) _ ((Below.refl _ _).alloc (Nat.le_refl _) _)).mono ?_
    rintro e w1 ⟨rfl, rfl⟩
    go_wp2_with fail
    refine ((unhide HW) _).mono ?_
    rintro e w2 ⟨s, neg', A', cap', l', rfl, hf, hb⟩
    obtain ⟨hc, hfz⟩ := bcell hb
    have hsz : w.heap.size < w2.heap.size := by have := hb.size; simp at this; omega
    have hblk : w2.heap[w.heap.size]? = some (.cells #[.int .i64 0, .bool false, .slice none 0 0] 46 (0, 0)) := (hb.block _ (by simp)).trans (heap_alloc_new w _)
    have HBLK := Lib.hid hblk
    clear hblk
    go_wp2_with fail
    exact bodyPost_ret (v := .agg #[.int .i64 s, .bool neg', .slice A' l'.length cap']) (by simp [results, Tryd.results76, go_sem, hc, hsz]) rfl
      ⟨s, neg', A', cap', l', rfl, hf.upto HBLK.out (noWord3 _ _ _ _ _) (set3_grown _ _ _ _ _), (((Below.refl _ _).alloc (Nat.le_refl _) _).trans (hb.mono (by simp))).grown (set3_grown _ _ _ _ _) (by omega) (fun k hk => by injection hk with hk; omega)⟩

theorem IntF.of_small {w : World} {s : Int} {neg : Bool} {A : Option Addr} {cap : Nat} {l : List Nat} {z : Int} (h : IntF w s neg A cap l z) (hl : l.length = 0) : s = z ∧ neg = false ∧ z.natAbs < M63 := by
  rcases h.form with ⟨_, h1, h2, h3⟩ | ⟨h1, _⟩
  · exact ⟨h2, h1, h3⟩
  · omega

set_option maxHeartbeats 400000 in
theorem cmpI_any (x y : Int) (w : World) :
    Calls Tryd.prog 92 #[.int .i64 x, .int .i64 y] w fun e w' => e = .returned (.int .i64 (sgn (x - y))) ∧ w' = w := by
  go_enter Tryd.func92, Tryd.ntmps92
  go_wp2
  · have h : x < y := by assumption
    go_ret
    exact ⟨ret_int (by unfold sgn; rw [if_pos (by omega)]), rfl⟩
  · have h : y < x := by assumption
    go_ret
    exact ⟨ret_int (by unfold sgn; rw [if_neg (by omega), if_pos (by omega)]), rfl⟩
  · have h1 : y ≤ x := by assumption
    have h2 : x ≤ y := by assumption
    go_ret
    exact ⟨ret_int (by unfold sgn; rw [if_neg (by omega), if_neg (by omega)]), rfl⟩

theorem two_new (w : World) (o1 o2 : Obj) : ((w.alloc o1).alloc o2).heap[w.heap.size]? = some o1 ∧ ((w.alloc o1).alloc o2).heap[w.heap.size + 1]? = some o2 ∧ ((w.alloc o1).alloc o2).heap.size = w.heap.size + 2 ∧ Below w.heap.size w ((w.alloc o1).alloc o2) := by
  refine ⟨(Below.heap_alloc _ _ _ (by simp)).trans (heap_alloc_new w o1), ?_, by simp, ((Below.refl _ _).alloc (Nat.le_refl _) _).alloc (by simp) _⟩
  have := heap_alloc_new (w.alloc o1) o2
  rwa [World.size_alloc] at this
theorem three_new (w : World) (o1 o2 o3 : Obj) : (((w.alloc o1).alloc o2).alloc o3).heap[w.heap.size]? = some o1 ∧ (((w.alloc o1).alloc o2).alloc o3).heap[w.heap.size + 1]? = some o2 ∧ (((w.alloc o1).alloc o2).alloc o3).heap[w.heap.size + 1 + 1]? = some o3 ∧ (((w.alloc o1).alloc o2).alloc o3).heap.size = w.heap.size + 3 ∧ Below w.heap.size w (((w.alloc o1).alloc o2).alloc o3) := by
  obtain ⟨h1, h2, h3, h4⟩ := two_new w o1 o2
  refine ⟨(Below.heap_alloc _ _ _ (by omega)).trans h1, (Below.heap_alloc _ _ _ (by omega)).trans h2, ?_, by simp, h4.alloc (by omega) _⟩
  have := heap_alloc_new ((w.alloc o1).alloc o2) o3
  rwa [h3] at this
theorem cells_of {w : World} {b : Nat} {cs : Array Value} {T : TypeId} {fr : Nat × Nat} (h : w.heap[b]? = some (.cells cs T fr)) (i : Nat) : w.cell? ⟨b, i, none⟩ = cs[i]? := by
  simp [World.cell?, h]
theorem three0 (a b c : Value) : #[a, b, c][0]? = some a := rfl
theorem three1 (a b c : Value) : #[a, b, c][1]? = some b := rfl
theorem three2 (a b c : Value) : #[a, b, c][2]? = some c := rfl

theorem sgn_mul_ord {z1 z2 : Int} (h : sgn z1 = sgn z2) : sgn z1 * ord3 z1.natAbs z2.natAbs = sgn (z1 - z2) := by
  unfold sgn ord3 at *
  by_cases a1 : z1 < 0 <;> by_cases a2 : z2 < 0 <;> by_cases a3 : 0 < z1 <;> by_cases a4 : 0 < z2 <;> simp only [a1, a2, a3, a4, if_true, if_false] at h ⊢ <;> try omega
  all_goals
    (repeat' split) <;> omega
theorem sgn_sub {z1 z2 : Int} (h : sgn z1 ≠ sgn z2) : sgn (sgn z1 - sgn z2) = sgn (z1 - z2) := by
  unfold sgn at *
  by_cases a1 : z1 < 0 <;> by_cases a2 : z2 < 0 <;> by_cases a3 : 0 < z1 <;> by_cases a4 : 0 < z2 <;> simp only [a1, a2, a3, a4, if_true, if_false] at h ⊢ <;> first | omega | ((repeat' split) <;> omega)

set_option maxRecDepth 100000 in
set_option maxHeartbeats 1000000 in
theorem icmp_any (s1 : Int) (neg1 : Bool) (A1 : Option Addr) (c1 : Nat) (l1 : List Nat) (z1 : Int) (s2 : Int) (neg2 : Bool) (A2 : Option Addr) (c2 : Nat) (l2 : List Nat) (z2 : Int) (w : World)
    (h1 : IntF w s1 neg1 A1 c1 l1 z1) (h2 : IntF w s2 neg2 A2 c2 l2 z2) :
    Calls Tryd.prog 60 #[.agg #[.int .i64 s1, .bool neg1, .slice A1 l1.length c1], .agg #[.int .i64 s2, .bool neg2, .slice A2 l2.length c2]] w fun e w' => e = .returned (.int .i64 (sgn (z1 - z2))) ∧ Below w.heap.size w w' := by
  have HS1 := hide (fun W => isSmall_any s1 neg1 A1 c1 l1.length W)
  have HS2 := hide (fun W => isSmall_any s2 neg2 A2 c2 l2.length W)
  by_cases hs : l1.length = 0 ∧ l2.length = 0
  · obtain ⟨a1, a2⟩ := hs
    rw [decide_eq_true a1] at HS1
    rw [decide_eq_true a2] at HS2
    have e1 := (h1.of_small a1).1
    have e2 := (h2.of_small a2).1
    subst e1 e2
    have HC := hide (fun W => cmp64_any s1 s2 W)
    clear a1 a2 h1 h2
    go_enter Tryd.func60, Tryd.ntmps60
    go_wp2_with fail
    refine ((unhide HS1) _).mono ?_
    rintro e w1 ⟨rfl, rfl⟩
    go_wp2_with fail
    refine ((unhide HS2) _).mono ?_
    rintro e w1 ⟨rfl, rfl⟩
    go_wp2_with fail
    refine ((unhide HC) _).mono ?_
    rintro e w1 ⟨rfl, rfl⟩
    go_wp2_with fail
    go_ret
    refine ⟨rfl, ?_⟩
    repeat (first | exact Below.refl _ _ | refine Below.drew ?_ | (refine Below.alloc ?_ (by simp <;> omega) _))
  · have hcase : (decide (l1.length = 0) = false) ∨ (decide (l1.length = 0) = true ∧ decide (l2.length = 0) = false) := by
      by_cases h : l1.length = 0
      · exact .inr ⟨decide_eq_true h, decide_eq_false (by omega)⟩
      · exact .inl (decide_eq_false h)
    by_cases hsg : sgn z1 = sgn z2
    · have hne : (sgn z1 != sgn z2) = false := by rw [hsg]; simp
      have hsub := sgn_mul_ord hsg
      have G1 : ∀ W0, Below w.heap.size w W0 → Hid (∀ W, Below W0.heap.size W0 W → Calls Tryd.prog 50 #[.agg #[.int .i64 s1, .bool neg1, .slice A1 l1.length c1]] W fun e w' => e = .returned (.int .i64 (sgn z1)) ∧ Below W.heap.size W w') := fun W0 h0 W hW => sign_any s1 neg1 A1 c1 l1 z1 W (IntF.below h1 (below_step' h0 hW))
      have G2 : ∀ W0, Below w.heap.size w W0 → Hid (∀ W, Below W0.heap.size W0 W → Calls Tryd.prog 50 #[.agg #[.int .i64 s2, .bool neg2, .slice A2 l2.length c2]] W fun e w' => e = .returned (.int .i64 (sgn z2)) ∧ Below W.heap.size W w') := fun W0 h0 W hW => sign_any s2 neg2 A2 c2 l2 z2 W (IntF.below h2 (below_step' h0 hW))
      have B1 : ∀ W0, Below w.heap.size w W0 → Hid (∀ W, Below W0.heap.size W0 W → Calls Tryd.prog 77 #[.agg #[.int .i64 s1, .bool neg1, .slice A1 l1.length c1]] W fun e w' => NatR W z1.natAbs e w') := fun W0 h0 W hW => abs_any s1 neg1 A1 c1 l1 z1 W (IntF.below h1 (below_step' h0 hW))
      have B2 : ∀ W0, Below w.heap.size w W0 → Hid (∀ W, Below W0.heap.size W0 W → Calls Tryd.prog 77 #[.agg #[.int .i64 s2, .bool neg2, .slice A2 l2.length c2]] W fun e w' => NatR W z2.natAbs e w') := fun W0 h0 W hW => abs_any s2 neg2 A2 c2 l2 z2 W (IntF.below h2 (below_step' h0 hW))
      have ho : -1 ≤ sgn z1 * ord3 z1.natAbs z2.natAbs ∧ sgn z1 * ord3 z1.natAbs z2.natAbs ≤ 1 := by rw [hsub]; unfold sgn; (repeat' split) <;> omega
      obtain ⟨m1, hn1⟩ : ∃ o, o = z1.natAbs := ⟨_, rfl⟩
      obtain ⟨m2, hn2⟩ : ∃ o, o = z2.natAbs := ⟨_, rfl⟩
      obtain ⟨o1, ho1⟩ : ∃ o, o = sgn z1 := ⟨_, rfl⟩
      obtain ⟨o2, ho2⟩ : ∃ o, o = sgn z2 := ⟨_, rfl⟩
      rw [← ho1] at G1 hne hsub ho
      rw [← ho2] at G2 hne
      rw [← hn1] at B1 hsub ho
      rw [← hn2] at B2 hsub ho
      obtain ⟨od, hod⟩ : ∃ o, o = ord3 m1 m2 := ⟨_, rfl⟩
      rw [← hod] at hsub ho
      have e1 : IntKind.i64.wrap (o1 * od) = o1 * od := IntWalk.i64_in _ (by omega)
      have HSUB := Lib.hid hsub; have HOD := Lib.hid hod
      have HG1 := hide G1; have HG2 := hide G2; have HB1 := hide B1; have HB2 := hide B2
      clear hsg ho1 ho2 hsub hs G1 G2 B1 B2 h1 h2 hn1 hn2 hod ho
      rcases hcase with hc1 | ⟨hc1, hc2⟩
      · rw [hc1] at HS1
        clear hc1
        go_enter Tryd.func60, Tryd.ntmps60
        go_wp2_with fail
        obtain ⟨n1, n2, hsz, hw0⟩ := two_new w (.cells #[.int .i64 s1, .bool neg1, .slice A1 l1.length c1] 46) (.cells #[.int .i64 s2, .bool neg2, .slice A2 l2.length c2] 46)
        generalize (((w.alloc (.cells #[.int .i64 s1, .bool neg1, .slice A1 l1.length c1] 46)).alloc (.cells #[.int .i64 s2, .bool neg2, .slice A2 l2.length c2] 46))) = W0 at *
        have k1 := cells_of n1 0
        have k2 := cells_of n1 1
        have k3 := cells_of n1 2
        simp only [Array.getElem?_eq_getElem, three0, three1, three2] at k1 k2 k3
        have k4 := cells_of n2 0
        have k5 := cells_of n2 1
        have k6 := cells_of n2 2
        simp only [Array.getElem?_eq_getElem, three0, three1, three2] at k4 k5 k6
        have q0 : w.heap.size < W0.heap.size := by omega
        have q1 : w.heap.size + 1 < W0.heap.size := by omega
        refine ((unhide HS1) _).mono ?_
        rintro e w1 ⟨rfl, hw1⟩
        have hbw : Below W0.heap.size W0 w1 := by rw [hw1]; exact (Below.refl _ _).alloc (Nat.le_refl _) _
        obtain ⟨hc, hfz⟩ := bcell hbw
        clear hw1
        go_wp2_with fail
        have G1 := (unhide HG1) W0 hw0; have G2 := (unhide HG2) W0 hw0; have B1 := (unhide HB1) W0 hw0; have B2 := (unhide HB2) W0 hw0
        go_region_held3 (fun w' => w'.cell? ⟨w.heap.size, 0, none⟩ = some (.int .i64 s1) ∧ w'.cell? ⟨w.heap.size, 1, none⟩ = some (.bool neg1) ∧ w'.cell? ⟨w.heap.size, 2, none⟩ = some (.slice A1 l1.length c1) ∧ w'.cell? ⟨w.heap.size + 1, 0, none⟩ = some (.int .i64 s2) ∧ w'.cell? ⟨w.heap.size + 1, 1, none⟩ = some (.bool neg2) ∧ w'.cell? ⟨w.heap.size + 1, 2, none⟩ = some (.slice A2 l2.length c2)) ((first | exact ⟨(hc _ _ q0).trans k1, (hc _ _ q0).trans k2, (hc _ _ q0).trans k3, (hc _ _ q1).trans k4, (hc _ _ q1).trans k5, (hc _ _ q1).trans k6⟩ | exact ⟨k1, k2, k3, k4, k5, k6⟩)) (first | (go_at_call_of 50 (Value.agg #[.int .i64 s1, .bool neg1, .slice A1 l1.length c1]); refine ((unhide G1) _ (by (first | assumption | (repeat (first | exact Below.refl _ _ | assumption | refine Below.drew ?_ | (refine Below.alloc ?_ (by simp <;> omega) _)))))).mono ?_; rintro e w' ⟨rfl, hb⟩; have hbw := below_step (w := W0) (by (first | assumption | (repeat (first | exact Below.refl _ _ | assumption | refine Below.drew ?_ | (refine Below.alloc ?_ (by simp <;> omega) _))))) hb; obtain ⟨hc, hfz⟩ := bcell hbw) | (go_at_call_of 50 (Value.agg #[.int .i64 s2, .bool neg2, .slice A2 l2.length c2]); refine ((unhide G2) _ (by (first | assumption | (repeat (first | exact Below.refl _ _ | assumption | refine Below.drew ?_ | (refine Below.alloc ?_ (by simp <;> omega) _)))))).mono ?_; rintro e w' ⟨rfl, hb⟩; have hbw := below_step (w := W0) (by (first | assumption | (repeat (first | exact Below.refl _ _ | assumption | refine Below.drew ?_ | (refine Below.alloc ?_ (by simp <;> omega) _))))) hb; obtain ⟨hc, hfz⟩ := bcell hbw))
        go_wp2_with fail
        go_region_held3 (fun w' => w'.cell? ⟨w.heap.size, 0, none⟩ = some (.int .i64 s1) ∧ w'.cell? ⟨w.heap.size, 1, none⟩ = some (.bool neg1) ∧ w'.cell? ⟨w.heap.size, 2, none⟩ = some (.slice A1 l1.length c1) ∧ w'.cell? ⟨w.heap.size + 1, 0, none⟩ = some (.int .i64 s2) ∧ w'.cell? ⟨w.heap.size + 1, 1, none⟩ = some (.bool neg2) ∧ w'.cell? ⟨w.heap.size + 1, 2, none⟩ = some (.slice A2 l2.length c2)) ((first | exact ⟨(hc _ _ q0).trans k1, (hc _ _ q0).trans k2, (hc _ _ q0).trans k3, (hc _ _ q1).trans k4, (hc _ _ q1).trans k5, (hc _ _ q1).trans k6⟩ | exact ⟨k1, k2, k3, k4, k5, k6⟩)) (first | (go_at_call_of 50 (Value.agg #[.int .i64 s1, .bool neg1, .slice A1 l1.length c1]); refine ((unhide G1) _ (by (first | assumption | (repeat (first | exact Below.refl _ _ | assumption | refine Below.drew ?_ | (refine Below.alloc ?_ (by simp <;> omega) _)))))).mono ?_; rintro e w' ⟨rfl, hb⟩; have hbw := below_step (w := W0) (by (first | assumption | (repeat (first | exact Below.refl _ _ | assumption | refine Below.drew ?_ | (refine Below.alloc ?_ (by simp <;> omega) _))))) hb; obtain ⟨hc, hfz⟩ := bcell hbw) | (go_at_call_of 50 (Value.agg #[.int .i64 s2, .bool neg2, .slice A2 l2.length c2]); refine ((unhide G2) _ (by (first | assumption | (repeat (first | exact Below.refl _ _ | assumption | refine Below.drew ?_ | (refine Below.alloc ?_ (by simp <;> omega) _)))))).mono ?_; rintro e w' ⟨rfl, hb⟩; have hbw := below_step (w := W0) (by (first | assumption | (repeat (first | exact Below.refl _ _ | assumption | refine Below.drew ?_ | (refine Below.alloc ?_ (by simp <;> omega) _))))) hb; obtain ⟨hc, hfz⟩ := bcell hbw) | (go_at_call_of 77 (Value.agg #[.int .i64 s1, .bool neg1, .slice A1 l1.length c1]); refine ((unhide B1) _ (by (first | assumption | (repeat (first | exact Below.refl _ _ | assumption | refine Below.drew ?_ | (refine Below.alloc ?_ (by simp <;> omega) _)))))).mono ?_; rintro e w' ⟨A5, cap5, l5, rfl, hn5, hb⟩; have hbw := below_step (w := W0) (by (first | assumption | (repeat (first | exact Below.refl _ _ | assumption | refine Below.drew ?_ | (refine Below.alloc ?_ (by simp <;> omega) _))))) hb; obtain ⟨hc, hfz⟩ := bcell hbw) | (go_at_call_of 77 (Value.agg #[.int .i64 s2, .bool neg2, .slice A2 l2.length c2]); refine ((unhide B2) _ (by (first | assumption | (repeat (first | exact Below.refl _ _ | assumption | refine Below.drew ?_ | (refine Below.alloc ?_ (by simp <;> omega) _)))))).mono ?_; rintro e w' ⟨A6, cap6, l6, rfl, hn6, hb⟩; have hn5' := hn5.below hb; have hbw := below_step (w := W0) (by (first | assumption | (repeat (first | exact Below.refl _ _ | assumption | refine Below.drew ?_ | (refine Below.alloc ?_ (by simp <;> omega) _))))) hb; obtain ⟨hc, hfz⟩ := bcell hbw) | (go_at_call 93; refine (cmp_any A5 A6 cap5 cap6 l5 l6 m1 m2 _ (by exact hn5') (by exact hn6)).mono ?_; rintro e w' ⟨rfl, kd, hw3⟩; subst hw3; rw [← HOD.out]))
        go_wp2_with fail
        go_ret
        exact ⟨ret_int HSUB.out, below_step' hw0 (belowN (by (first | assumption | (repeat (first | exact Below.refl _ _ | assumption | refine Below.drew ?_ | (refine Below.alloc ?_ (by simp <;> omega) _))))) _)⟩
      · rw [hc1] at HS1
        rw [hc2] at HS2
        clear hc1 hc2
        go_enter Tryd.func60, Tryd.ntmps60
        go_wp2_with fail
        obtain ⟨n1, n2, hsz, hw0⟩ := two_new w (.cells #[.int .i64 s1, .bool neg1, .slice A1 l1.length c1] 46) (.cells #[.int .i64 s2, .bool neg2, .slice A2 l2.length c2] 46)
        generalize (((w.alloc (.cells #[.int .i64 s1, .bool neg1, .slice A1 l1.length c1] 46)).alloc (.cells #[.int .i64 s2, .bool neg2, .slice A2 l2.length c2] 46))) = W0 at *
        have k1 := cells_of n1 0
        have k2 := cells_of n1 1
        have k3 := cells_of n1 2
        simp only [Array.getElem?_eq_getElem, three0, three1, three2] at k1 k2 k3
        have k4 := cells_of n2 0
        have k5 := cells_of n2 1
        have k6 := cells_of n2 2
        simp only [Array.getElem?_eq_getElem, three0, three1, three2] at k4 k5 k6
        have q0 : w.heap.size < W0.heap.size := by omega
        have q1 : w.heap.size + 1 < W0.heap.size := by omega
        refine ((unhide HS1) _).mono ?_
        rintro e w1 ⟨rfl, hw1⟩
        have hbw : Below W0.heap.size W0 w1 := by rw [hw1]; exact (Below.refl _ _).alloc (Nat.le_refl _) _
        obtain ⟨hc, hfz⟩ := bcell hbw
        clear hw1
        go_wp2_with fail
        refine ((unhide HS2) _).mono ?_
        rintro e w2 ⟨rfl, hw2⟩
        have hbw2 : Below W0.heap.size W0 w2 := by rw [hw2]; exact hbw.alloc hbw.size _
        clear hc hfz
        obtain ⟨hc, hfz⟩ := bcell hbw2
        clear hw2
        go_wp2_with fail
        have G1 := (unhide HG1) W0 hw0; have G2 := (unhide HG2) W0 hw0; have B1 := (unhide HB1) W0 hw0; have B2 := (unhide HB2) W0 hw0
        go_region_held3 (fun w' => w'.cell? ⟨w.heap.size, 0, none⟩ = some (.int .i64 s1) ∧ w'.cell? ⟨w.heap.size, 1, none⟩ = some (.bool neg1) ∧ w'.cell? ⟨w.heap.size, 2, none⟩ = some (.slice A1 l1.length c1) ∧ w'.cell? ⟨w.heap.size + 1, 0, none⟩ = some (.int .i64 s2) ∧ w'.cell? ⟨w.heap.size + 1, 1, none⟩ = some (.bool neg2) ∧ w'.cell? ⟨w.heap.size + 1, 2, none⟩ = some (.slice A2 l2.length c2)) ((first | exact ⟨(hc _ _ q0).trans k1, (hc _ _ q0).trans k2, (hc _ _ q0).trans k3, (hc _ _ q1).trans k4, (hc _ _ q1).trans k5, (hc _ _ q1).trans k6⟩ | exact ⟨k1, k2, k3, k4, k5, k6⟩)) (first | (go_at_call_of 50 (Value.agg #[.int .i64 s1, .bool neg1, .slice A1 l1.length c1]); refine ((unhide G1) _ (by (first | assumption | (repeat (first | exact Below.refl _ _ | assumption | refine Below.drew ?_ | (refine Below.alloc ?_ (by simp <;> omega) _)))))).mono ?_; rintro e w' ⟨rfl, hb⟩; have hbw := below_step (w := W0) (by (first | assumption | (repeat (first | exact Below.refl _ _ | assumption | refine Below.drew ?_ | (refine Below.alloc ?_ (by simp <;> omega) _))))) hb; obtain ⟨hc, hfz⟩ := bcell hbw) | (go_at_call_of 50 (Value.agg #[.int .i64 s2, .bool neg2, .slice A2 l2.length c2]); refine ((unhide G2) _ (by (first | assumption | (repeat (first | exact Below.refl _ _ | assumption | refine Below.drew ?_ | (refine Below.alloc ?_ (by simp <;> omega) _)))))).mono ?_; rintro e w' ⟨rfl, hb⟩; have hbw := below_step (w := W0) (by (first | assumption | (repeat (first | exact Below.refl _ _ | assumption | refine Below.drew ?_ | (refine Below.alloc ?_ (by simp <;> omega) _))))) hb; obtain ⟨hc, hfz⟩ := bcell hbw))
        go_wp2_with fail
        go_region_held3 (fun w' => w'.cell? ⟨w.heap.size, 0, none⟩ = some (.int .i64 s1) ∧ w'.cell? ⟨w.heap.size, 1, none⟩ = some (.bool neg1) ∧ w'.cell? ⟨w.heap.size, 2, none⟩ = some (.slice A1 l1.length c1) ∧ w'.cell? ⟨w.heap.size + 1, 0, none⟩ = some (.int .i64 s2) ∧ w'.cell? ⟨w.heap.size + 1, 1, none⟩ = some (.bool neg2) ∧ w'.cell? ⟨w.heap.size + 1, 2, none⟩ = some (.slice A2 l2.length c2)) ((first | exact ⟨(hc _ _ q0).trans k1, (hc _ _ q0).trans k2, (hc _ _ q0).trans k3, (hc _ _ q1).trans k4, (hc _ _ q1).trans k5, (hc _ _ q1).trans k6⟩ | exact ⟨k1, k2, k3, k4, k5, k6⟩)) (first | (go_at_call_of 50 (Value.agg #[.int .i64 s1, .bool neg1, .slice A1 l1.length c1]); refine ((unhide G1) _ (by (first | assumption | (repeat (first | exact Below.refl _ _ | assumption | refine Below.drew ?_ | (refine Below.alloc ?_ (by simp <;> omega) _)))))).mono ?_; rintro e w' ⟨rfl, hb⟩; have hbw := below_step (w := W0) (by (first | assumption | (repeat (first | exact Below.refl _ _ | assumption | refine Below.drew ?_ | (refine Below.alloc ?_ (by simp <;> omega) _))))) hb; obtain ⟨hc, hfz⟩ := bcell hbw) | (go_at_call_of 50 (Value.agg #[.int .i64 s2, .bool neg2, .slice A2 l2.length c2]); refine ((unhide G2) _ (by (first | assumption | (repeat (first | exact Below.refl _ _ | assumption | refine Below.drew ?_ | (refine Below.alloc ?_ (by simp <;> omega) _)))))).mono ?_; rintro e w' ⟨rfl, hb⟩; have hbw := below_step (w := W0) (by (first | assumption | (repeat (first | exact Below.refl _ _ | assumption | refine Below.drew ?_ | (refine Below.alloc ?_ (by simp <;> omega) _))))) hb; obtain ⟨hc, hfz⟩ := bcell hbw) | (go_at_call_of 77 (Value.agg #[.int .i64 s1, .bool neg1, .slice A1 l1.length c1]); refine ((unhide B1) _ (by (first | assumption | (repeat (first | exact Below.refl _ _ | assumption | refine Below.drew ?_ | (refine Below.alloc ?_ (by simp <;> omega) _)))))).mono ?_; rintro e w' ⟨A5, cap5, l5, rfl, hn5, hb⟩; have hbw := below_step (w := W0) (by (first | assumption | (repeat (first | exact Below.refl _ _ | assumption | refine Below.drew ?_ | (refine Below.alloc ?_ (by simp <;> omega) _))))) hb; obtain ⟨hc, hfz⟩ := bcell hbw) | (go_at_call_of 77 (Value.agg #[.int .i64 s2, .bool neg2, .slice A2 l2.length c2]); refine ((unhide B2) _ (by (first | assumption | (repeat (first | exact Below.refl _ _ | assumption | refine Below.drew ?_ | (refine Below.alloc ?_ (by simp <;> omega) _)))))).mono ?_; rintro e w' ⟨A6, cap6, l6, rfl, hn6, hb⟩; have hn5' := hn5.below hb; have hbw := below_step (w := W0) (by (first | assumption | (repeat (first | exact Below.refl _ _ | assumption | refine Below.drew ?_ | (refine Below.alloc ?_ (by simp <;> omega) _))))) hb; obtain ⟨hc, hfz⟩ := bcell hbw) | (go_at_call 93; refine (cmp_any A5 A6 cap5 cap6 l5 l6 m1 m2 _ (by exact hn5') (by exact hn6)).mono ?_; rintro e w' ⟨rfl, kd, hw3⟩; subst hw3; rw [← HOD.out]))
        go_wp2_with fail
        go_ret
        exact ⟨ret_int HSUB.out, below_step' hw0 (belowN (by (first | assumption | (repeat (first | exact Below.refl _ _ | assumption | refine Below.drew ?_ | (refine Below.alloc ?_ (by simp <;> omega) _))))) _)⟩
    · have hne : (sgn z1 != sgn z2) = true := bne_iff_ne.2 hsg
      have hsub := sgn_sub hsg
      obtain ⟨o1, ho1⟩ : ∃ o, o = sgn z1 := ⟨_, rfl⟩
      obtain ⟨o2, ho2⟩ : ∃ o, o = sgn z2 := ⟨_, rfl⟩
      have G1 : ∀ W0, Below w.heap.size w W0 → Hid (∀ W, Below W0.heap.size W0 W → Calls Tryd.prog 50 #[.agg #[.int .i64 s1, .bool neg1, .slice A1 l1.length c1]] W fun e w' => e = .returned (.int .i64 (sgn z1)) ∧ Below W.heap.size W w') := fun W0 h0 W hW => sign_any s1 neg1 A1 c1 l1 z1 W (IntF.below h1 (below_step' h0 hW))
      have G2 : ∀ W0, Below w.heap.size w W0 → Hid (∀ W, Below W0.heap.size W0 W → Calls Tryd.prog 50 #[.agg #[.int .i64 s2, .bool neg2, .slice A2 l2.length c2]] W fun e w' => e = .returned (.int .i64 (sgn z2)) ∧ Below W.heap.size W w') := fun W0 h0 W hW => sign_any s2 neg2 A2 c2 l2 z2 W (IntF.below h2 (below_step' h0 hW))
      rw [← ho1] at G1 hne hsub
      rw [← ho2] at G2 hne hsub
      have HSUB := Lib.hid hsub
      have HG1 := hide G1; have HG2 := hide G2
      have HCI := hide (fun W => cmpI_any o1 o2 W)
      clear hsg ho1 ho2 hsub hs G1 G2 h1 h2
      rcases hcase with hc1 | ⟨hc1, hc2⟩
      · rw [hc1] at HS1
        clear hc1
        go_enter Tryd.func60, Tryd.ntmps60
        go_wp2_with fail
        obtain ⟨n1, n2, hsz, hw0⟩ := two_new w (.cells #[.int .i64 s1, .bool neg1, .slice A1 l1.length c1] 46) (.cells #[.int .i64 s2, .bool neg2, .slice A2 l2.length c2] 46)
        generalize (((w.alloc (.cells #[.int .i64 s1, .bool neg1, .slice A1 l1.length c1] 46)).alloc (.cells #[.int .i64 s2, .bool neg2, .slice A2 l2.length c2] 46))) = W0 at *
        have k1 := cells_of n1 0
        have k2 := cells_of n1 1
        have k3 := cells_of n1 2
        simp only [Array.getElem?_eq_getElem, three0, three1, three2] at k1 k2 k3
        have k4 := cells_of n2 0
        have k5 := cells_of n2 1
        have k6 := cells_of n2 2
        simp only [Array.getElem?_eq_getElem, three0, three1, three2] at k4 k5 k6
        have q0 : w.heap.size < W0.heap.size := by omega
        have q1 : w.heap.size + 1 < W0.heap.size := by omega
        refine ((unhide HS1) _).mono ?_
        rintro e w1 ⟨rfl, hw1⟩
        have hbw : Below W0.heap.size W0 w1 := by rw [hw1]; exact (Below.refl _ _).alloc (Nat.le_refl _) _
        obtain ⟨hc, hfz⟩ := bcell hbw
        clear hw1
        go_wp2_with fail
        have G1 := (unhide HG1) W0 hw0; have G2 := (unhide HG2) W0 hw0
        go_region_held3 (fun w' => w'.cell? ⟨w.heap.size, 0, none⟩ = some (.int .i64 s1) ∧ w'.cell? ⟨w.heap.size, 1, none⟩ = some (.bool neg1) ∧ w'.cell? ⟨w.heap.size, 2, none⟩ = some (.slice A1 l1.length c1) ∧ w'.cell? ⟨w.heap.size + 1, 0, none⟩ = some (.int .i64 s2) ∧ w'.cell? ⟨w.heap.size + 1, 1, none⟩ = some (.bool neg2) ∧ w'.cell? ⟨w.heap.size + 1, 2, none⟩ = some (.slice A2 l2.length c2)) ((first | exact ⟨(hc _ _ q0).trans k1, (hc _ _ q0).trans k2, (hc _ _ q0).trans k3, (hc _ _ q1).trans k4, (hc _ _ q1).trans k5, (hc _ _ q1).trans k6⟩ | exact ⟨k1, k2, k3, k4, k5, k6⟩)) (first | (go_at_call_of 50 (Value.agg #[.int .i64 s1, .bool neg1, .slice A1 l1.length c1]); refine ((unhide G1) _ (by (first | assumption | (repeat (first | exact Below.refl _ _ | assumption | refine Below.drew ?_ | (refine Below.alloc ?_ (by simp <;> omega) _)))))).mono ?_; rintro e w' ⟨rfl, hb⟩; have hbw := below_step (w := W0) (by (first | assumption | (repeat (first | exact Below.refl _ _ | assumption | refine Below.drew ?_ | (refine Below.alloc ?_ (by simp <;> omega) _))))) hb; obtain ⟨hc, hfz⟩ := bcell hbw) | (go_at_call_of 50 (Value.agg #[.int .i64 s2, .bool neg2, .slice A2 l2.length c2]); refine ((unhide G2) _ (by (first | assumption | (repeat (first | exact Below.refl _ _ | assumption | refine Below.drew ?_ | (refine Below.alloc ?_ (by simp <;> omega) _)))))).mono ?_; rintro e w' ⟨rfl, hb⟩; have hbw := below_step (w := W0) (by (first | assumption | (repeat (first | exact Below.refl _ _ | assumption | refine Below.drew ?_ | (refine Below.alloc ?_ (by simp <;> omega) _))))) hb; obtain ⟨hc, hfz⟩ := bcell hbw))
        go_wp2_with fail
        go_region_held3 (fun w' => w'.cell? ⟨w.heap.size, 0, none⟩ = some (.int .i64 s1) ∧ w'.cell? ⟨w.heap.size, 1, none⟩ = some (.bool neg1) ∧ w'.cell? ⟨w.heap.size, 2, none⟩ = some (.slice A1 l1.length c1) ∧ w'.cell? ⟨w.heap.size + 1, 0, none⟩ = some (.int .i64 s2) ∧ w'.cell? ⟨w.heap.size + 1, 1, none⟩ = some (.bool neg2) ∧ w'.cell? ⟨w.heap.size + 1, 2, none⟩ = some (.slice A2 l2.length c2)) ((first | exact ⟨(hc _ _ q0).trans k1, (hc _ _ q0).trans k2, (hc _ _ q0).trans k3, (hc _ _ q1).trans k4, (hc _ _ q1).trans k5, (hc _ _ q1).trans k6⟩ | exact ⟨k1, k2, k3, k4, k5, k6⟩)) (first | (go_at_call_of 50 (Value.agg #[.int .i64 s1, .bool neg1, .slice A1 l1.length c1]); refine ((unhide G1) _ (by (first | assumption | (repeat (first | exact Below.refl _ _ | assumption | refine Below.drew ?_ | (refine Below.alloc ?_ (by simp <;> omega) _)))))).mono ?_; rintro e w' ⟨rfl, hb⟩; have hbw := below_step (w := W0) (by (first | assumption | (repeat (first | exact Below.refl _ _ | assumption | refine Below.drew ?_ | (refine Below.alloc ?_ (by simp <;> omega) _))))) hb; obtain ⟨hc, hfz⟩ := bcell hbw) | (go_at_call_of 50 (Value.agg #[.int .i64 s2, .bool neg2, .slice A2 l2.length c2]); refine ((unhide G2) _ (by (first | assumption | (repeat (first | exact Below.refl _ _ | assumption | refine Below.drew ?_ | (refine Below.alloc ?_ (by simp <;> omega) _)))))).mono ?_; rintro e w' ⟨rfl, hb⟩; have hbw := below_step (w := W0) (by (first | assumption | (repeat (first | exact Below.refl _ _ | assumption | refine Below.drew ?_ | (refine Below.alloc ?_ (by simp <;> omega) _))))) hb; obtain ⟨hc, hfz⟩ := bcell hbw) | (go_at_call 92; refine ((unhide HCI) _).mono ?_; rintro e w' ⟨rfl, hw3⟩; subst hw3))
        go_wp2_with fail
        go_ret
        exact ⟨ret_int HSUB.out, below_step' hw0 (by (first | assumption | (repeat (first | exact Below.refl _ _ | assumption | refine Below.drew ?_ | (refine Below.alloc ?_ (by simp <;> omega) _)))))⟩
      · rw [hc1] at HS1
        rw [hc2] at HS2
        clear hc1 hc2
        go_enter Tryd.func60, Tryd.ntmps60
        go_wp2_with fail
        obtain ⟨n1, n2, hsz, hw0⟩ := two_new w (.cells #[.int .i64 s1, .bool neg1, .slice A1 l1.length c1] 46) (.cells #[.int .i64 s2, .bool neg2, .slice A2 l2.length c2] 46)
        generalize (((w.alloc (.cells #[.int .i64 s1, .bool neg1, .slice A1 l1.length c1] 46)).alloc (.cells #[.int .i64 s2, .bool neg2, .slice A2 l2.length c2] 46))) = W0 at *
        have k1 := cells_of n1 0
        have k2 := cells_of n1 1
        have k3 := cells_of n1 2
        simp only [Array.getElem?_eq_getElem, three0, three1, three2] at k1 k2 k3
        have k4 := cells_of n2 0
        have k5 := cells_of n2 1
        have k6 := cells_of n2 2
        simp only [Array.getElem?_eq_getElem, three0, three1, three2] at k4 k5 k6
        have q0 : w.heap.size < W0.heap.size := by omega
        have q1 : w.heap.size + 1 < W0.heap.size := by omega
        refine ((unhide HS1) _).mono ?_
        rintro e w1 ⟨rfl, hw1⟩
        have hbw : Below W0.heap.size W0 w1 := by rw [hw1]; exact (Below.refl _ _).alloc (Nat.le_refl _) _
        obtain ⟨hc, hfz⟩ := bcell hbw
        clear hw1
        go_wp2_with fail
        refine ((unhide HS2) _).mono ?_
        rintro e w2 ⟨rfl, hw2⟩
        have hbw2 : Below W0.heap.size W0 w2 := by rw [hw2]; exact hbw.alloc hbw.size _
        clear hc hfz
        obtain ⟨hc, hfz⟩ := bcell hbw2
        clear hw2
        go_wp2_with fail
        have G1 := (unhide HG1) W0 hw0; have G2 := (unhide HG2) W0 hw0
        go_region_held3 (fun w' => w'.cell? ⟨w.heap.size, 0, none⟩ = some (.int .i64 s1) ∧ w'.cell? ⟨w.heap.size, 1, none⟩ = some (.bool neg1) ∧ w'.cell? ⟨w.heap.size, 2, none⟩ = some (.slice A1 l1.length c1) ∧ w'.cell? ⟨w.heap.size + 1, 0, none⟩ = some (.int .i64 s2) ∧ w'.cell? ⟨w.heap.size + 1, 1, none⟩ = some (.bool neg2) ∧ w'.cell? ⟨w.heap.size + 1, 2, none⟩ = some (.slice A2 l2.length c2)) ((first | exact ⟨(hc _ _ q0).trans k1, (hc _ _ q0).trans k2, (hc _ _ q0).trans k3, (hc _ _ q1).trans k4, (hc _ _ q1).trans k5, (hc _ _ q1).trans k6⟩ | exact ⟨k1, k2, k3, k4, k5, k6⟩)) (first | (go_at_call_of 50 (Value.agg #[.int .i64 s1, .bool neg1, .slice A1 l1.length c1]); refine ((unhide G1) _ (by (first | assumption | (repeat (first | exact Below.refl _ _ | assumption | refine Below.drew ?_ | (refine Below.alloc ?_ (by simp <;> omega) _)))))).mono ?_; rintro e w' ⟨rfl, hb⟩; have hbw := below_step (w := W0) (by (first | assumption | (repeat (first | exact Below.refl _ _ | assumption | refine Below.drew ?_ | (refine Below.alloc ?_ (by simp <;> omega) _))))) hb; obtain ⟨hc, hfz⟩ := bcell hbw) | (go_at_call_of 50 (Value.agg #[.int .i64 s2, .bool neg2, .slice A2 l2.length c2]); refine ((unhide G2) _ (by (first | assumption | (repeat (first | exact Below.refl _ _ | assumption | refine Below.drew ?_ | (refine Below.alloc ?_ (by simp <;> omega) _)))))).mono ?_; rintro e w' ⟨rfl, hb⟩; have hbw := below_step (w := W0) (by (first | assumption | (repeat (first | exact Below.refl _ _ | assumption | refine Below.drew ?_ | (refine Below.alloc ?_ (by simp <;> omega) _))))) hb; obtain ⟨hc, hfz⟩ := bcell hbw))
        go_wp2_with fail
        go_region_held3 (fun w' => w'.cell? ⟨w.heap.size, 0, none⟩ = some (.int .i64 s1) ∧ w'.cell? ⟨w.heap.size, 1, none⟩ = some (.bool neg1) ∧ w'.cell? ⟨w.heap.size, 2, none⟩ = some (.slice A1 l1.length c1) ∧ w'.cell? ⟨w.heap.size + 1, 0, none⟩ = some (.int .i64 s2) ∧ w'.cell? ⟨w.heap.size + 1, 1, none⟩ = some (.bool neg2) ∧ w'.cell? ⟨w.heap.size + 1, 2, none⟩ = some (.slice A2 l2.length c2)) ((first | exact ⟨(hc _ _ q0).trans k1, (hc _ _ q0).trans k2, (hc _ _ q0).trans k3, (hc _ _ q1).trans k4, (hc _ _ q1).trans k5, (hc _ _ q1).trans k6⟩ | exact ⟨k1, k2, k3, k4, k5, k6⟩)) (first | (go_at_call_of 50 (Value.agg #[.int .i64 s1, .bool neg1, .slice A1 l1.length c1]); refine ((unhide G1) _ (by (first | assumption | (repeat (first | exact Below.refl _ _ | assumption | refine Below.drew ?_ | (refine Below.alloc ?_ (by simp <;> omega) _)))))).mono ?_; rintro e w' ⟨rfl, hb⟩; have hbw := below_step (w := W0) (by (first | assumption | (repeat (first | exact Below.refl _ _ | assumption | refine Below.drew ?_ | (refine Below.alloc ?_ (by simp <;> omega) _))))) hb; obtain ⟨hc, hfz⟩ := bcell hbw) | (go_at_call_of 50 (Value.agg #[.int .i64 s2, .bool neg2, .slice A2 l2.length c2]); refine ((unhide G2) _ (by (first | assumption | (repeat (first | exact Below.refl _ _ | assumption | refine Below.drew ?_ | (refine Below.alloc ?_ (by simp <;> omega) _)))))).mono ?_; rintro e w' ⟨rfl, hb⟩; have hbw := below_step (w := W0) (by (first | assumption | (repeat (first | exact Below.refl _ _ | assumption | refine Below.drew ?_ | (refine Below.alloc ?_ (by simp <;> omega) _))))) hb; obtain ⟨hc, hfz⟩ := bcell hbw) | (go_at_call 92; refine ((unhide HCI) _).mono ?_; rintro e w' ⟨rfl, hw3⟩; subst hw3))
        go_wp2_with fail
        go_ret
        exact ⟨ret_int HSUB.out, below_step' hw0 (by (first | assumption | (repeat (first | exact Below.refl _ _ | assumption | refine Below.drew ?_ | (refine Below.alloc ?_ (by simp <;> omega) _)))))⟩
end Go.Proofs.YtfbcdfoohpkfeaaDoor
/- What the walks over whole numbers share: marks, signs of products, lengths of the words. -/
namespace Go.Proofs.YtfbcdfoohpkfeaaDoor
open Go.RowKit

theorem unfrozen_of {w : World} {b : Nat} {cs : Array Value} {T : TypeId} (h : w.heap[b]? = some (.cells cs T (0, 0))) (i : Nat) : w.frozen? ⟨b, i, none⟩ = false := by
  simp [World.frozen?, h]

theorem below_eq {w W w1 : World} {o : Obj} (h : Below w.heap.size w W) (e : w1 = W.alloc o) : Below w.heap.size w w1 := by subst e; exact h.alloc h.size _

theorem sgn_mul_sign (z1 z2 : Int) : (if decide (sgn z1 * sgn z2 < 0) = true then -((z1.natAbs * z2.natAbs : Nat) : Int) else ((z1.natAbs * z2.natAbs : Nat) : Int)) = z1 * z2 := by
  rw [Int.natCast_mul]
  rcases Int.lt_trichotomy z1 0 with a | a | a <;> rcases Int.lt_trichotomy z2 0 with b | b | b
  all_goals
    first
      | (subst a; simp [sgn])
      | (subst b; simp [sgn])
      | skip
  all_goals
    simp only [sgn, a, b, if_true, if_neg (Int.not_lt.2 (Int.le_of_lt a)), if_neg (Int.not_lt.2 (Int.le_of_lt b))]
  · rw [Int.ofNat_natAbs_of_nonpos (by omega), Int.ofNat_natAbs_of_nonpos (by omega)]; simp [Int.neg_mul_neg]
  · rw [Int.ofNat_natAbs_of_nonpos (by omega), Int.natAbs_of_nonneg (by omega)]; simp [Int.neg_mul]
  · rw [Int.natAbs_of_nonneg (by omega), Int.ofNat_natAbs_of_nonpos (by omega)]; simp [Int.mul_neg]
  · rw [Int.natAbs_of_nonneg (by omega), Int.natAbs_of_nonneg (by omega)]; simp

theorem IntF.amount_len {w : World} {s : Int} {neg : Bool} {A : Option Addr} {cap : Nat} {l : List Nat} {z : Int} (h : IntF w s neg A cap l z) : z.natAbs < B64 ^ (max 1 l.length) := by
  rcases h.form with ⟨h1, _, _, h2⟩ | ⟨h1, _, _, h2, _⟩
  · have : M63 < B64 := by rw [M63_eq, B64_eq]; omega
    have h3 : B64 ^ 1 ≤ B64 ^ (max 1 l.length) := Nat.pow_le_pow_right (Nat.lt_trans Nat.zero_lt_one B64_pos) (by omega)
    rw [Nat.pow_one] at h3
    omega
  · obtain ⟨n, hn⟩ := h.nat
    rw [← h2]
    have h3 := Wd.val_lt (B := B64) l hn.lt
    have h4 : B64 ^ l.length ≤ B64 ^ (max 1 l.length) := Nat.pow_le_pow_right (Nat.lt_trans Nat.zero_lt_one B64_pos) (by omega)
    omega


theorem IntF.len_lim {w W : World} {s : Int} {neg : Bool} {A A' : Option Addr} {cap cap' : Nat} {l l' : List Nat} {z : Int} (h : IntF w s neg A cap l z) (hl : l.length ≤ lim) (g : NatV W A' cap' l' z.natAbs) : l'.length ≤ lim ∧ l'.length + 1 ≤ 35184372088832 := by
  have := g.len h.amount_len
  rw [lim_eq] at hl ⊢
  omega

theorem NatV.drew {w : World} {A : Option Addr} {cap : Nat} {l : List Nat} {n : Nat} (h : NatV w A cap l n) : NatV w.drew A cap l n := h.below ((Below.refl _ _).drew)
end Go.Proofs.YtfbcdfoohpkfeaaDoor
/- The sign of a whole number. -/
namespace Go.Proofs.YtfbcdfoohpkfeaaDoor
open Go.RowKit

theorem cell_set3 {w : World} {g : Nat} (u0 u1 u2 : Value) (b o : Nat) (h : b ≠ g) : (((w.setCell ⟨g, 0, none⟩ u0).setCell ⟨g, 1, none⟩ u1).setCell ⟨g, 2, none⟩ u2).cell? ⟨b, o, none⟩ = w.cell? ⟨b, o, none⟩ := by
  rw [World.cell?_setCell_other _ _ _ _ (by intro e; injection e with e1; exact h (by first | exact e1 | exact e1.symm)), World.cell?_setCell_other _ _ _ _ (by intro e; injection e with e1; exact h (by first | exact e1 | exact e1.symm)), World.cell?_setCell_other _ _ _ _ (by intro e; injection e with e1; exact h (by first | exact e1 | exact e1.symm))]
theorem sgn_neg (z : Int) : sgn z < 0 ↔ z < 0 := by unfold sgn; (repeat' split) <;> omega

end Go.Proofs.YtfbcdfoohpkfeaaDoor
