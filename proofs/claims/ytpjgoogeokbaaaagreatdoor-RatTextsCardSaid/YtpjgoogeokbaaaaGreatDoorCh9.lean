/- Part 9 of the texts beneath a law of layer 1: RfDivA, RfDivB, RfDivC, RfGcd, RfW, RfI, RfWM, RfQ, RfIs, RfAll, RfRaA, RfQv, RfPl, RfPm. -/
import Derived.Test.YtpjgoogeokbaaaaGreatDoorCh8
import Derived.Deep.DeepCutAuto
/- The reference: quotient and rest of two amounts: the short ways. -/
namespace Go.Proofs.YtpjgoogeokbaaaaGreatDoor
open Go.RowKit

/-- What quotient and rest are handed back as. -/
def PartsU (w : World) (q r : Nat) (e : Ending) (w' : World) : Prop :=
  ∃ A cap l A' cap' l', e = .returned (.tuple #[.slice A l.length cap, .slice A' l'.length cap']) ∧ NatT w' A cap l q ∧ NatT w' A' cap' l' r ∧ Below w.heap.size w w'

set_option maxRecDepth 100000 in
set_option maxHeartbeats 1000000 in
theorem parts_small (Ax Ay : Option Addr) (cx cy : Nat) (xl yl : List Nat) (n m : Nat) (w : World) (hx : NatT w Ax cx xl n) (hy : NatT w Ay cy yl m) (hlt : n < m) :
    Calls Tryz.prog 140 #[.slice Ax xl.length cx, .slice Ay yl.length cy] w fun e w' => PartsU w (n / m) (n % m) e w' := by
  have hc := torder_any Ax Ay cx cy xl yl n m w hx hy
  rw [show ord3 n m = -1 by unfold ord3; rw [if_pos hlt]] at hc
  rw [Nat.div_eq_of_lt hlt, Nat.mod_eq_of_lt hlt]
  have HC := hide hc
  have HX := hide hx
  clear hc hx hy hlt
  go_enter Tryz.func140, Tryz.ntmps140
  go_wp2_with fail
  refine (unhide HC).mono ?_
  rintro e w' ⟨rfl, k, rfl⟩
  go_wp2
  go_ret2
  exact ⟨none, 0, [], Ax, cx, xl, rfl, NatT.nil_ _ _ (by omega), (unhide HX).below (belowN (Below.refl _ _) k), belowN (Below.refl _ _) k⟩

set_option maxRecDepth 100000 in
set_option maxHeartbeats 1000000 in
theorem parts_one (Ax Ay : Option Addr) (cx cy : Nat) (xl yl : List Nat) (n m : Nat) (w : World) (hx : NatT w Ax cx xl n) (hy : NatT w Ay cy yl m) (hge : ¬ n < m) (h1 : yl.length = 1) (hk : xl.length ≤ 35184372088832) :
    Calls Tryz.prog 140 #[.slice Ax xl.length cx, .slice Ay yl.length cy] w fun e w' => PartsU w (n / m) (n % m) e w' := by
  have hc := torder_any Ax Ay cx cy xl yl n m w hx hy
  obtain ⟨o, ho⟩ : ∃ o, o = ord3 n m := ⟨_, rfl⟩
  rw [← ho] at hc
  have hd : decide (o < 0) = false := decide_eq_false (by rw [ho]; unfold ord3; rw [if_neg hge]; split <;> omega)
  have HC := hide hc
  have hmk := make32 xl.length hk
  have hx1 := hx.cap1; have hx2 := hx.cap2; have hy1 := hy.cap1; have hy2 := hy.cap2
  obtain ⟨by', oy, hA, hby, hcy⟩ := hy.ws (by omega)
  subst hA
  have hy0 := hcy 0 (by omega)
  have hym : Wd.g yl 0 = m := by rw [one_word B32 yl h1]; exact hy.val
  rw [hym, Nat.add_zero] at hy0
  have hmB : m < B32 := by rw [← hym]; exact Wd.getD_lt (by rw [B32_eq]; omega) _ hy.lt 0
  have hm0 : 0 < m := by
    rcases hy.norm with h | h
    · rw [h] at h1; simp at h1
    · rw [h1] at h; have : Wd.g yl 0 ≠ 0 := h; omega
  have l1 : ((yl.length : Int) == 1) = true := by rw [h1]; rfl
  have e1 : IntKind.u64.wrap (m : Int) = (m : Int) := wrap64_nat rfl (by rw [B32_eq] at hmB; rw [B64_eq]; omega)
  have e9 : ((m : Int) == 0) = false := beq_eq_false_iff_ne.2 (by omega)
  have e9' : ¬ ((m : Int) = 0) := by omega
  have e9'' : ¬ (m = 0) := by omega
  have ylpos : 0 < yl.length := by omega
  have HY0 := hide (And.intro hby hy0)
  have hne1 : ¬ (w.heap.size = by') := by omega
  have hne2 : ¬ (by' = w.heap.size) := by omega
  have HMB := hide hmB; have HM0 := hide hm0
  have HX := hide hx
  clear hc ho hcy hy hym hmB hm0 hge hy0 hby hx h1
  go_enter Tryz.func140, Tryz.ntmps140
  go_wp2_with fail
  refine (unhide HC).mono ?_
  rintro e w' ⟨rfl, k, rfl⟩
  go_wp2_with fail
  go_loopw [7, 8] (fun rv iv wr => ∃ (i : Int) (r : Nat) (qc : List Nat), -1 ≤ i ∧ i < xl.length ∧ iv = .int .i64 i ∧ rv = .int .u64 ((r : Nat) : Int) ∧ Hid (Wd.DivInv B32 xl qc m (i + 1).toNat r) ∧ ZB .u32 wr w.heap.size 136 qc ∧ Below w.heap.size w wr) (fun _ iv _ => (intOf iv + 1).toNat)
  case atStart =>
    refine ⟨(xl.length : Int) - 1, 0, List.replicate xl.length 0, by omega, by omega, by first | rfl | go_num, rfl, ?_, heap_alloc_new (w.drewN k) _, (belowN (Below.refl _ _) k).alloc (Nat.le_refl _) _⟩
    rw [show ((xl.length : Int) - 1 + 1).toNat = xl.length by omega]
    exact Wd.DivInv.start _ _ _ (by simp) (unhide HM0) (zeros_lt (by rw [B32_eq]; omega) _)
  case round =>
    obtain ⟨i, r, qc, hi1, hi2, rfl, rfl, HI, hzr, hg⟩ := hrel
    have hlen := HI.out.len
    by_cases h0 : i < 0
    · have e : i = -1 := by omega
      subst e
      obtain ⟨v1, v2⟩ := HI.out.done
      rw [(unhide HX).val] at v1 v2
      have hrB : r < B32 := Nat.lt_trans HI.out.r1 (unhide HMB)
      have j1 : (r : Int) % 4294967296 = (r : Int) := by rw [B32_eq] at hrB; omega
      have j2 : IntKind.u32.wrap (r : Int) = (r : Int) := by rw [IntKind.wrap_u32]; exact j1
      have V1 := Lib.hid v1; have V2 := Lib.hid v2; have HRB := hide hrB
      clear v1 v2 hrB
      go_wp2_with fail
      have htr := ttrim_any (some ⟨w.heap.size, 0, none⟩) qc.length qc (wr.heap.size) wr (hzr.ws0 _ hzr.lt) (Nat.le_refl _) (by omega)
      rw [hlen] at htr
      refine htr.mono ?_
      rintro e w' ⟨⟨k1, rfl, ht, hk2⟩, hw⟩
      obtain rfl : wr = w' := hw.symm
      clear hw
      go_wp2_with fail
      have hn := heap_alloc_new wr (.cells (wcells .u32 [r]) 136)
      have hzr2 : ZB .u32 (wr.alloc (.cells (wcells .u32 [r]) 136)) wr.heap.size 136 [r] := hn
      have htr2 := ttrim_any (some ⟨wr.heap.size, 0, none⟩) 1 [r] _ _ (hzr2.ws0 _ hzr2.lt) (Nat.le_refl _) (by omega)
      refine htr2.mono ?_
      rintro e w' ⟨⟨k3, rfl, ht2, hk3⟩, hw⟩
      subst hw
      go_wp2_with fail
      go_ret2
      have hk4 : k1 = (qc.take k1).length := by simp; omega
      have hk5 : k3 = ([r].take k3).length := by rw [List.length_take]; omega
      have q1 := NatT.of_trim (cap := xl.length) hzr HI.out.lt ht (by omega) (by omega) (by omega)
      rw [V1.out] at q1
      have q2 := NatT.of_trim (cap := 1) hzr2 (by simpa using unhide HRB) ht2 hk3 (by simp) (by omega)
      rw [show Wd.val B32 [r] = n % m by rw [← V2.out]; simp [Wd.val]] at q2
      exact ⟨some ⟨w.heap.size, 0, none⟩, xl.length, qc.take k1, some ⟨wr.heap.size, 0, none⟩, 1, [r].take k3, ret_slices hk4 hk5, q1.below ((Below.refl _ _).alloc (Nat.le_refl _) _), q2, hg.alloc hg.size _⟩
    · obtain ⟨j, rfl⟩ := Int.eq_ofNat_of_zero_le (show 0 ≤ i by omega)
      have hjx : j < xl.length := by omega
      obtain ⟨bx, ox, rfl, hbx, hcx⟩ := (unhide HX).ws (by omega)
      have hxc := (hg.cell (p := ⟨bx, ox + j, none⟩) hbx).trans (hcx j hjx)
      have hyc := (hg.cell (p := ⟨by', oy, none⟩) (unhide HY0).1).trans (unhide HY0).2
      clear hcx
      have hzc := hzr.cell j (by omega)
      have hzf := hzr.frozen j
      obtain ⟨xj, hxj⟩ : ∃ t, t = Wd.g xl j := ⟨_, rfl⟩
      rw [← hxj] at hxc
      have hxB : xj < B32 := by rw [hxj]; exact Wd.getD_lt (by rw [B32_eq]; omega) _ (unhide HX).lt _
      have hinv : Wd.DivInv B32 xl qc m (j + 1) r := by have := HI.out; rwa [show ((j : Int) + 1).toNat = j + 1 by omega] at this
      have hrB : r < B32 := Nat.lt_trans hinv.r1 (unhide HMB)
      obtain ⟨rs, hrs⟩ : ∃ t, t = r * B32 := ⟨_, rfl⟩
      obtain ⟨X, hX⟩ : ∃ t, t = r * B32 + xj := ⟨_, rfl⟩
      obtain ⟨q, hq⟩ : ∃ t, t = (r * B32 + xj) / m := ⟨_, rfl⟩
      obtain ⟨s, hs⟩ : ∃ t, t = (r * B32 + xj) % m := ⟨_, rfl⟩
      have hXB : X < B64 := by rw [hX]; rw [B32_eq] at *; rw [B64_eq]; omega
      have hqB : q < B32 := by
        rw [hq, Nat.div_lt_iff_lt_mul (unhide HM0)]
        have h1 : (r + 1) * B32 ≤ m * B32 := Nat.mul_le_mul_right _ hinv.r1
        rw [Nat.add_mul, Nat.one_mul] at h1
        rw [Nat.mul_comm B32]; omega
      have hsm : s < m := by rw [hs]; exact Nat.mod_lt _ (unhide HM0)
      have b64 : ∀ t : Nat, t < B32 → t < B64 := fun t ht => by rw [B32_eq] at ht; rw [B64_eq]; omega
      have g1 : IntKind.u64.wrap ((r : Int) * 4294967296) = (rs : Int) := wrap64_nat (by rw [hrs, B32_eq]; simp) (by omega)
      have g2 : Go.bits .or .u64 (rs : Int) (xj : Int) = (X : Int) := by rw [hrs, or_shl hrB hxB, hX]
      have g3 : IntKind.u64.wrap (xj : Int) = (xj : Int) := wrap64_nat rfl (b64 _ hxB)
      have g4 : (X : Int).tdiv (m : Int) = (q : Int) := by rw [hq, hX]; exact (Int.ofNat_tdiv _ _).symm
      have g5 : (X : Int).tmod (m : Int) = (s : Int) := by rw [hs, hX]; exact (Int.ofNat_tmod _ _).symm
      have g6 : IntKind.u64.wrap (q : Int) = (q : Int) := wrap64_nat rfl (b64 _ hqB)
      have g7 : IntKind.u64.wrap (s : Int) = (s : Int) := wrap64_nat rfl (b64 _ (Nat.lt_trans hsm (unhide HMB)))
      have g8 : (q : Int) % 4294967296 = (q : Int) := by rw [B32_eq] at hqB; omega
      have g9 : IntKind.u32.wrap (q : Int) = (q : Int) := by rw [IntKind.wrap_u32]; exact g8
      have g10 : IntKind.u64.wrap (X : Int) = (X : Int) := wrap64_nat rfl hXB
      have hfin : ∀ W, W = wr.setCell ⟨w.heap.size, j, none⟩ (.int .u32 (q : Int)) → Hid (Wd.DivInv B32 xl (qc.set j q) m j s) ∧ ZB .u32 W w.heap.size 136 (qc.set j q) ∧ Below w.heap.size w W := by
        rintro W rfl
        refine ⟨?_, hzr.set_ _ _, hg.setCell (p := ⟨w.heap.size, j, none⟩) (Nat.le_refl _) _⟩
        rw [hq, hs, hxj]
        exact hinv.step hjx (by rw [← Wd.g_def, ← hxj]; exact hxB)
      have HF := hide hfin
      clear hfin hq hs hxj hxB hinv hzr hg HI hX hrs hXB hqB hsm b64 hrB
      go_wp2_with fail
      go_roundw
      case rel =>
        obtain ⟨r1, r2, r3⟩ := (unhide HF) _ rfl
        exact ⟨(j : Int) - 1, s, qc.set j q, by omega, by omega, by go_num, rfl, by rw [show ((j : Int) - 1 + 1).toNat = j by omega]; exact r1, r2, r3⟩
      case measure => simp [intOf] <;> omega
end Go.Proofs.YtpjgoogeokbaaaaGreatDoor
/- The reference: quotient and rest of two amounts: the long way. -/
namespace Go.Proofs.YtpjgoogeokbaaaaGreatDoor
open Go.RowKit

theorem lz_spec32 (y : Nat) (hy : y < B32) (h0 : 0 < y) (w : World) : ∃ s : Nat, s < 32 ∧ 2147483648 ≤ y * 2 ^ s ∧ y * 2 ^ s < B32 ∧
    ∀ w : World, Calls Tryz.prog 168 #[.int .u32 ((y : Nat) : Int)] w fun e w' => e = .returned (.int .i64 ((s : Nat) : Int)) ∧ w' = w := by
  obtain ⟨h1, h2⟩ := bitLenAux_spec 64 y (by rw [B32_eq] at hy; omega)
  have h3 := (h2 (by omega)).1
  change y < 2 ^ Lib.bitLen y at h1
  change 2 ^ (Lib.bitLen y - 1) ≤ y at h3
  have hle := Lib.bitLen_le y 32 (by omega) (by rw [B32_eq] at hy; omega)
  have hpos : 0 < Lib.bitLen y := by
    apply Classical.byContradiction
    intro h
    rw [show Lib.bitLen y = 0 by omega] at h1
    simp at h1; omega
  have e1 : 2 ^ (Lib.bitLen y - 1) * 2 ^ (32 - Lib.bitLen y) = 2147483648 := by
    rw [← Nat.pow_add, show Lib.bitLen y - 1 + (32 - Lib.bitLen y) = 31 by omega]
  have e2 : 2 ^ Lib.bitLen y * 2 ^ (32 - Lib.bitLen y) = B32 := by
    rw [← Nat.pow_add, show Lib.bitLen y + (32 - Lib.bitLen y) = 32 by omega]; rfl
  refine ⟨32 - Lib.bitLen y, by omega, ?_, ?_, fun w => ?_⟩
  · rw [← e1]; exact Nat.mul_le_mul_right _ h3
  · rw [← e2]; exact Nat.mul_lt_mul_of_pos_right h1 (Nat.pow_pos (by omega))
  · refine (Tryz.bits_LeadingZeros32 (y : Int) w (by omega) (by rw [B32_eq] at hy; omega)).mono ?_
    rintro e w' ⟨rfl, rfl⟩
    refine ⟨ret_int ?_, rfl⟩
    rw [Int.toNat_natCast]; omega

/-- What the shift of the divisor's top word does to the whole. -/
theorem shift_bounds32 (yl : List Nat) (m s : Nat) (hs64 : s ≤ 32) (hn : 1 ≤ yl.length) (hlt : ∀ x ∈ yl, x < B32) (hv : Wd.val B32 yl = m) (hs1 : yl.getD (yl.length - 1) 0 * 2 ^ s < B32) (ht : yl.getD (yl.length - 1) 0 ≠ 0) :
    B32 ^ (yl.length - 1) * 2 ^ s ≤ m * 2 ^ s ∧ m * 2 ^ s < B32 ^ yl.length := by
  have h2 := Wd.val_take_succ B32 yl (yl.length - 1) (by omega)
  rw [show yl.length - 1 + 1 = yl.length by omega, Wd.val_take_all _ _ _ (Nat.le_refl _), hv] at h2
  have h3 := Wd.val_lt (B := B32) (yl.take (yl.length - 1)) (fun x hx => hlt x (List.mem_of_mem_take hx))
  rw [List.length_take, Nat.min_eq_left (by omega)] at h3
  have e : B32 ^ yl.length = B32 ^ (yl.length - 1) * B32 := by rw [← Nat.pow_succ, show (yl.length - 1).succ = yl.length by omega]
  rw [e]
  generalize hP : B32 ^ (yl.length - 1) = P at *
  generalize yl.getD (yl.length - 1) 0 = t at *
  have hS : 0 < 2 ^ s := Nat.pow_pos (by omega)
  have hsp := pow_split32 s hs64
  generalize 2 ^ s = S at *
  generalize 2 ^ (32 - s) = T at *
  have h6 : t * S + S ≤ B32 := by
    rw [← hsp, Nat.mul_comm S] at hs1 ⊢
    have := Nat.lt_of_mul_lt_mul_right hs1
    have h7 : (t + 1) * S ≤ T * S := Nat.mul_le_mul_right _ this
    rwa [Nat.add_mul, Nat.one_mul] at h7
  constructor
  · refine Nat.mul_le_mul_right _ ?_
    have : P * 1 ≤ P * t := Nat.mul_le_mul_left _ (by omega)
    omega
  · have h4 : m + 1 ≤ P * (t + 1) := by rw [Nat.mul_add, Nat.mul_one]; omega
    have h5 : (m + 1) * S ≤ P * (t + 1) * S := Nat.mul_le_mul_right _ h4
    rw [Nat.add_mul, Nat.one_mul, Nat.mul_assoc, Nat.add_mul, Nat.one_mul] at h5
    have : P * (t * S + S) ≤ P * B32 := Nat.mul_le_mul_left _ h6
    omega

theorem shifted2 (Ax : Option Addr) (cx : Nat) (xl : List Nat) (n s : Nat) (w : World) (hx : NatT w Ax cx xl n) (hs : s < 32) (hk : xl.length + 1 ≤ 35184372088832) :
    Calls Tryz.prog 169 #[.slice Ax xl.length cx, .int .u64 ((s : Nat) : Int)] w fun e w' =>
      ∃ b zr, e = .returned (.slice (some ⟨b, 0, none⟩) (xl.length + 1) (xl.length + 1)) ∧ w.heap.size ≤ b ∧ zr.length = xl.length + 1 ∧ (∀ x ∈ zr, x < B32) ∧ Wd.val B32 zr = n * 2 ^ s ∧ ZB .u32 w' b 136 zr ∧ Below w.heap.size w w' :=
  (shifted_any Ax cx xl n s w hx hs hk).mono fun e w' ⟨zr, h1, h2, h3, h4, h5, h6⟩ => ⟨w.heap.size, zr, h1, Nat.le_refl _, h2, h3, h4, h5, h6⟩
end Go.Proofs.YtpjgoogeokbaaaaGreatDoor
/- The reference: quotient and rest of two amounts: the walk of the long way. -/
namespace Go.Proofs.YtpjgoogeokbaaaaGreatDoor
open Go.RowKit

set_option maxRecDepth 100000 in
set_option maxHeartbeats 2000000 in
theorem parts_long (Ax Ay : Option Addr) (cx cy : Nat) (xl yl : List Nat) (n m : Nat) (w : World) (hx : NatT w Ax cx xl n) (hy : NatT w Ay cy yl m) (hge : ¬ n < m) (hk : xl.length + 1 ≤ 35184372088832) (hk2 : yl.length + 1 ≤ 35184372088832) (hn2 : 2 ≤ yl.length) :
    Calls Tryz.prog 140 #[.slice Ax xl.length cx, .slice Ay yl.length cy] w fun e w' => PartsU w (n / m) (n % m) e w' := by
  have hx1 := hx.cap1; have hx2 := hx.cap2; have hy1 := hy.cap1; have hy2 := hy.cap2
  have hny : yl.length ≤ xl.length := by
    rcases Nat.lt_or_ge xl.length yl.length with h | h
    · exfalso; apply hge; rw [← hx.val, ← hy.val]; exact Wd.val_lt_of_length B32_pos xl yl hx.lt hy.norm h
    · exact h
  have hc := torder_any Ax Ay cx cy xl yl n m w hx hy
  obtain ⟨o3, ho3⟩ : ∃ o, o = ord3 n m := ⟨_, rfl⟩
  rw [← ho3] at hc
  have ho : decide (o3 < 0) = false := decide_eq_false (by rw [ho3]; unfold ord3; rw [if_neg hge]; split <;> omega)
  have HC := hide hc
  have hb1 : ((yl.length : Int) == 1) = false := by simp; omega
  obtain ⟨by', oy, hA, hby, hcy⟩ := hy.ws (by omega)
  subst hA
  have hyt := hcy (yl.length - 1) (by omega)
  obtain ⟨yt, hytt⟩ : ∃ t, t = Wd.g yl (yl.length - 1) := ⟨_, rfl⟩
  rw [← hytt] at hyt
  have hyB : yt < B32 := by rw [hytt]; exact Wd.getD_lt (by rw [B32_eq]; omega) _ hy.lt _
  have hy0 : yt ≠ 0 := by
    rw [hytt]
    rcases hy.norm with h | h
    · rw [h] at hn2; simp at hn2
    · exact h
  have hm : 0 < m := by
    rcases Nat.eq_zero_or_pos m with h | h
    · exfalso
      have h1 := top1 (B := B32) yl yl.length (by omega) rfl
      rw [hy.val, h] at h1
      have h2 : 0 < B32 ^ (yl.length - 1) := Nat.pow_pos (by rw [B32_eq]; omega)
      have h3 := Nat.mul_pos (Nat.pos_of_ne_zero (show yl.getD (yl.length - 1) 0 ≠ 0 by rw [← Wd.g_def, ← hytt]; exact hy0)) h2
      omega
    · exact h
  obtain ⟨s, hs, hs1, hs2, hlz⟩ := lz_spec32 yt hyB (by omega) w
  obtain ⟨vb1, vb2⟩ := shift_bounds32 yl m s (by omega) (by omega) hy.lt hy.val (by rw [← Wd.g_def, ← hytt]; exact hs2) (by rw [← Wd.g_def, ← hytt]; exact hy0)
  obtain ⟨lq, hlq⟩ : ∃ t, t = xl.length + 1 - yl.length := ⟨_, rfl⟩
  have hlqI : ((lq : Nat) : Int) = (xl.length : Int) + 1 - (yl.length : Int) := by omega
  have hmk := make32 lq (by omega)
  rw [hlqI] at hmk
  have hlq1 : lq + yl.length = xl.length + 1 := by omega
  have es : IntKind.u64.wrap (s : Int) = (s : Int) := wrap64_nat rfl (by rw [B64_eq]; omega)
  have HLZ := hide hlz
  have HLQ := Lib.hid hlqI
  have HYT := Lib.hid hytt
  have HV1 := hide vb1; have HV2 := hide vb2
  clear hlz hytt hcy vb1 vb2 hs1 hs2 hlqI hlq hc ho3 hge
  go_enter Tryz.func140, Tryz.ntmps140
  go_wp2_with fail
  refine (unhide HC).mono ?_
  rintro e w' ⟨rfl, k, rfl⟩
  go_wp2_with fail
  refine ((unhide HLZ) _).mono ?_
  rintro e w1 ⟨rfl, hw1⟩
  have hb1w : Below w.heap.size w w1 := by rw [hw1]; exact belowN (Below.refl _ _) k
  clear hw1
  go_wp2_with fail
  refine (shifted2 Ax cx xl n s w1 (hx.below hb1w) hs hk).mono ?_
  rintro e w2 ⟨bu, uz, rfl, hbu, hul, hult, huv, huz, hb2⟩
  have hy2w := (hy.below hb1w).below hb2
  have HUL := Lib.hid hul
  have HUV := Lib.hid huv
  clear hul huv
  go_wp2_with fail
  refine (shifted2 _ cy yl m s w2 hy2w hs hk2).mono ?_
  rintro e w4 ⟨bv, vz, rfl, hbv, hvl, hvlt, hvv, hvz, hb3⟩
  have HVL := Lib.hid hvl; have HVV := Lib.hid hvv
  have hbuv : bu < bv := Nat.lt_of_lt_of_le huz.lt hbv
  replace huz := huz.below hb3 huz.lt
  clear hvl hvv
  go_wp2_with fail
  have htr := ttrim_any (some ⟨bv, 0, none⟩) vz.length vz w4.heap.size w4 (hvz.ws0 _ hvz.lt) (Nat.le_refl _) (by have := HVL.out; omega)
  rw [HVL.out] at htr
  refine htr.mono ?_
  rintro e w3 ⟨⟨kv, rfl, ht, hkv⟩, hw3⟩
  obtain rfl : w4 = w3 := hw3.symm
  clear hw3
  have hvn : (vz.take kv).length = yl.length := by
    refine norm_len_eq B32_pos _ ht.norm (fun x hx => hvlt x (List.mem_of_mem_take hx)) _ (by omega) ?_ ?_
    · rw [ht.val, HVV.out]; exact Nat.le_trans (Nat.le_mul_of_pos_right _ (Nat.pow_pos (by omega))) (unhide HV1)
    · rw [ht.val, HVV.out]; exact unhide HV2
  have hkv2 : kv = yl.length := by have := HVL.out; rw [List.length_take] at hvn; omega
  subst hkv2
  have HT := hide ht; have HVN := Lib.hid hvn
  have hbw4 : Below w.heap.size w w4 := hb1w.trans ((hb2.mono hb1w.size).trans (hb3.mono (Nat.le_trans hb1w.size hb2.size)))
  clear ht hvn
  obtain ⟨V, hV⟩ : ∃ t, t = m * 2 ^ s := ⟨_, rfl⟩
  have hvval : Wd.val B32 (vz.take yl.length) = V := by rw [(unhide HT).val, HVV.out, hV]
  have hVlt : V < B32 ^ yl.length := by rw [hV]; exact unhide HV2
  have hV0 : 0 < V := by rw [hV]; exact Nat.mul_pos hm (Nat.pow_pos (by omega))
  have htop : Wd.val B32 uz < V * B32 ^ lq := by
    rw [HUV.out, hV]
    have h1 := Wd.val_lt xl hx.lt
    rw [hx.val] at h1
    have h2 := unhide HV1
    have h3 : B32 ^ (yl.length - 1) * B32 ^ lq = B32 ^ xl.length := by rw [← Nat.pow_add, show yl.length - 1 + lq = xl.length by omega]
    have h4 : B32 ^ (yl.length - 1) * 2 ^ s * B32 ^ lq ≤ m * 2 ^ s * B32 ^ lq := Nat.mul_le_mul_right _ h2
    have h5 : n * 2 ^ s < B32 ^ xl.length * 2 ^ s := Nat.mul_lt_mul_of_pos_right h1 (Nat.pow_pos (by omega))
    have h6 : B32 ^ (yl.length - 1) * 2 ^ s * B32 ^ lq = B32 ^ xl.length * 2 ^ s := by
      rw [← h3]; simp only [Nat.mul_comm, Nat.mul_left_comm, Nat.mul_assoc]
    omega
  have hstart : Wd.LongInv B32 V uz uz (List.replicate lq 0) lq := Wd.LongInv.start _ _ _ hult (zeros_lt (by rw [B32_eq]; omega) _) (by simp) htop
  have hvws : Ws .u32 w4 (bv + 1) (some ⟨bv, 0, none⟩) (vz.take yl.length) := (hvz.ws0 _ (Nat.lt_succ_self _)).take_ _
  have hgt : ∀ i, i < yl.length → Wd.g vz i = Wd.g (vz.take yl.length) i := fun i hi => by rw [Wd.g_def, Wd.g_def, Wd.getD_take _ _ _ hi]
  have hvt := hvz.cell (yl.length - 1) (by have := HVL.out; omega)
  have hvt2 := hvz.cell (yl.length - 2) (by have := HVL.out; omega)
  rw [hgt _ (by omega)] at hvt hvt2
  obtain ⟨top, htp⟩ : ∃ t, t = Wd.g (vz.take yl.length) (yl.length - 1) := ⟨_, rfl⟩
  obtain ⟨next, hnx⟩ : ∃ t, t = Wd.g (vz.take yl.length) (yl.length - 2) := ⟨_, rfl⟩
  rw [← htp] at hvt
  rw [← hnx] at hvt2
  have htB : top < B32 := by rw [htp]; exact Wd.getD_lt (by rw [B32_eq]; omega) _ (fun x hx => hvlt x (List.mem_of_mem_take hx)) _
  have hnB : next < B32 := by rw [hnx]; exact Wd.getD_lt (by rw [B32_eq]; omega) _ (fun x hx => hvlt x (List.mem_of_mem_take hx)) _
  have et : IntKind.u64.wrap (top : Int) = (top : Int) := wrap64_nat rfl (by rw [B32_eq] at htB; rw [B64_eq]; omega)
  have en : IntKind.u64.wrap (next : Int) = (next : Int) := wrap64_nat rfl (by rw [B32_eq] at hnB; rw [B64_eq]; omega)
  have hv4 : bv < w4.heap.size := hvz.lt
  have hu4 : bu < w4.heap.size := huz.lt
  have f1 : IntKind.i64.wrap ((yl.length : Int) - 1) = (yl.length : Int) - 1 := IntWalk.i64_in _ (by omega)
  have f2 : (0 : Int) ≤ (yl.length : Int) - 1 := by omega
  have f3 : ((yl.length : Int) - 1).toNat = yl.length - 1 := by omega
  have f4 : IntKind.i64.wrap ((yl.length : Int) - 2) = (yl.length : Int) - 2 := IntWalk.i64_in _ (by omega)
  have f5 : (0 : Int) ≤ (yl.length : Int) - 2 := by omega
  have f6 : ((yl.length : Int) - 2).toNat = yl.length - 2 := by omega
  have i1 : ¬ (bv = w4.heap.size) := by omega
  have i2 : ¬ (w4.heap.size = bv) := by omega
  have HVALS := Lib.hid hvval; have HVLT := hide hVlt; have HV0 := hide hV0; have HVV2 := Lib.hid hV; have HST := hide hstart
  have HTP := Lib.hid htp; have HNX := Lib.hid hnx; have HB12 := hide (And.intro hv4 hu4)
  have hlq0 : 0 < lq := by omega
  clear hvval hVlt hV hstart htop hyt hy0 htp hnx hgt htB hnB
  go_wp2_with fail
  go_quiet (fail)
  go_wp2_with fail
  go_loopw [16] (fun iv wr => ∃ (i : Int) (us qs : List Nat), -1 ≤ i ∧ i < lq ∧ iv = .int .i64 i ∧ Hid (Wd.LongInv B32 V uz us qs (i + 1).toNat) ∧ Hid (qs.length = lq) ∧ ZB .u32 wr bu 136 us ∧ ZB .u32 wr w4.heap.size 136 qs ∧ Ws .u32 wr (bv + 1) (some ⟨bv, 0, none⟩) (vz.take yl.length) ∧ Below w.heap.size w wr ∧ w4.heap.size < wr.heap.size) (fun iv _ => (intOf iv + 1).toNat)
  case atStart =>
    refine ⟨(lq : Int) - 1, uz, List.replicate lq 0, by omega, by omega, rfl, ?_, by show _ = _; simp, (huz.alloc _).drewN _, ZB.drewN (heap_alloc_new w4 _) _, (hvws.alloc (by omega) _).drewN _, belowN (hbw4.alloc hbw4.size _) _, by show w4.heap.size < (w4.alloc _).heap.size; simp⟩
    rw [show ((lq : Int) - 1 + 1).toNat = lq by omega]
    exact HST
  case round =>
    clear huz hvz hvws hvt hvt2
    obtain ⟨i, us, qs, hi1, hi2, rfl, HI, HQL, huzr, hqz, hvr, hbr, hszr⟩ := hrel
    obtain ⟨wo, rfl⟩ : ∃ wo : World, wo = wr := ⟨_, rfl⟩
    by_cases h0 : i < 0
    · have e : i = -1 := by omega
      subst e
      obtain ⟨v1, v2⟩ := HI.out.done
      have hS : 0 < 2 ^ s := Nat.pow_pos (by omega)
      obtain ⟨sd1, sd2⟩ := Wd.scaled_div (N := n) (Y := m) (S := 2 ^ s) hS
      rw [HUV.out, HVV2.out] at v1 v2
      rw [sd1] at v1
      have v3 : Wd.val B32 us / 2 ^ s = n % m := by rw [v2]; exact sd2
      have V1 := Lib.hid v1; have V3 := Lib.hid v3
      have husl : us.length = xl.length + 1 := HI.out.lenu.trans HUL.out
      have HLT1 := hide HI.out.lt; have HLT2 := hide HI.out.ltq
      have htr2 := ttrim_any (some ⟨bu, 0, none⟩) us.length us wo.heap.size wo (huzr.ws0 _ huzr.lt) (Nat.le_refl _) (by omega)
      rw [husl] at htr2
      have T2 := hide htr2
      have HUSL := Lib.hid husl
      clear v1 v2 sd1 sd2 v3 htr2 husl HI hvr
      go_wp2_with fail
      refine (unhide T2).mono ?_
      rintro e w6 ⟨⟨k2, rfl, ht2, hk2'⟩, hw6⟩
      obtain rfl : wo = w6 := hw6.symm
      clear hw6
      obtain ⟨rl, hrl⟩ : ∃ l, l = us.take k2 := ⟨_, rfl⟩
      have hrlen : rl.length = k2 := by rw [hrl, List.length_take]; have := HUSL.out; omega
      have hrv : Wd.val B32 rl = Wd.val B32 us := by rw [hrl]; exact ht2.val _
      have hrlt : ∀ x ∈ rl, x < B32 := fun x hx => (unhide HLT1) x (by rw [hrl] at hx; exact List.mem_of_mem_take hx)
      have hwin : win us 0 rl = us := by
        have := win_self us 0 k2 (by have := HUSL.out; omega)
        rw [List.drop_zero, ← hrl] at this
        exact this
      have hk2u : k2 ≤ us.length := by rw [HUSL.out]; exact hk2'
      have HRV := Lib.hid hrv; have HRLT := hide hrlt; have HWIN := Lib.hid hwin; have HRLEN := Lib.hid hrlen
      have hk2x : k2 ≤ xl.length + 1 := by have := HUSL.out; omega
      have HQZ := hide hqz
      clear hrv hrlt hwin hrlen hrl ht2 hk2' T2
      go_wp2_with fail
      go_loopw [18] (fun iv wr => ∃ (i : Nat) (zc : List Nat), i ≤ k2 ∧ iv = .int .i64 ((i : Nat) : Int) ∧ Hid (Wd.ShrInv B32 (2 ^ s) rl zc i) ∧ Hid (∀ j, i ≤ j → zc.getD j 0 = rl.getD j 0) ∧ ZB .u32 wr bu 136 (win us 0 zc) ∧ Hid (ZB .u32 wr w4.heap.size 136 qs) ∧ Below w.heap.size w wr) (fun iv _ => k2 - (intOf iv).toNat)
      case atStart => exact ⟨0, rl, Nat.zero_le _, rfl, Wd.ShrInv.start _ _ rfl (unhide HRLT), fun _ _ => rfl, by rw [HWIN.out]; exact huzr, HQZ, hbr⟩
      case round =>
        clear huzr hqz HQZ hbr
        obtain ⟨i, zc, hi, rfl, HI, HSM, hzr, HQZ, hbr⟩ := hrel
        have hzl : zc.length = k2 := HI.out.len.trans HRLEN.out
        by_cases hlt : i < k2
        · have gz : ∀ t, t < k2 → Wd.g (win us 0 zc) t = Wd.g zc t := fun t ht => by
            have := win_g us 0 zc (by omega) t (by omega)
            rwa [Nat.zero_add] at this
          obtain ⟨x, hx'⟩ : ∃ t, t = Wd.g rl i := ⟨_, rfl⟩
          have hxc := hzr.cell i (by rw [win_length _ _ _ (by omega)]; omega)
          rw [gz i hlt, show Wd.g zc i = Wd.g rl i from HSM.out i (Nat.le_refl _), ← hx'] at hxc
          have hzf := hzr.frozen i
          have hxB : x < B32 := by rw [hx']; exact Wd.getD_lt (by rw [B32_eq]; omega) _ (unhide HRLT) _
          obtain ⟨v, hv⟩ : ∃ t, t = x / 2 ^ s := ⟨_, rfl⟩
          have hvB : v < B32 := Nat.lt_of_le_of_lt (by rw [hv]; exact Nat.div_le_self _ _) hxB
          have m1 : (x : Int) / 2 ^ s = (v : Int) := by rw [hv]; simp
          have m1' : (x : Int) / 2 ^ (min s 32) = (v : Int) := by rw [Nat.min_eq_left (by omega)]; exact m1
          have hset : ∀ (W : World) (y : Nat), ZB .u32 W bu 136 (win us 0 zc) → ZB .u32 (W.setCell ⟨bu, i, none⟩ (.int .u32 (y : Int))) bu 136 (win us 0 (zc.set i y)) := fun W y h => by
            have := win_set us 0 zc (by omega) i y (by omega)
            rw [Nat.zero_add] at this
            rw [← this]
            exact h.set_ _ _
          by_cases hin : i + 1 < k2
          · have d1 : decide ((i : Int) + 1 < (k2 : Int)) = true := decide_eq_true (by omega)
            have d1' : decide (i + 1 < k2) = true := decide_eq_true hin
            obtain ⟨x2, hx2'⟩ : ∃ t, t = Wd.g rl (i + 1) := ⟨_, rfl⟩
            have hxc2 := hzr.cell (i + 1) (by rw [win_length _ _ _ (by omega)]; omega)
            rw [gz (i + 1) hin, show Wd.g zc (i + 1) = Wd.g rl (i + 1) from HSM.out (i + 1) (by omega), ← hx2'] at hxc2
            have hx2B : x2 < B32 := by rw [hx2']; exact Wd.getD_lt (by rw [B32_eq]; omega) _ (unhide HRLT) _
            obtain ⟨p, hpp⟩ : ∃ t, t = x2 * 2 ^ (32 - s) := ⟨_, rfl⟩
            obtain ⟨lo, hlo⟩ : ∃ t, t = p % B32 := ⟨_, rfl⟩
            obtain ⟨v2, hv2⟩ : ∃ t, t = v + lo := ⟨_, rfl⟩
            have hpB : p < B64 := by
              have h1 : 2 ^ (32 - s) ≤ 2 ^ 32 := Nat.pow_le_pow_right (by omega) (by omega)
              have h2 : x2 * 2 ^ (32 - s) ≤ x2 * 2 ^ 32 := Nat.mul_le_mul_left _ h1
              rw [hpp]; rw [B32_eq] at hx2B; rw [B64_eq]; omega
            have hlo2 : lo = x2 % 2 ^ s * 2 ^ (32 - s) := by
              rw [hlo, hpp, ← pow_split32 s (by omega), Nat.mul_mod_mul_right]
            have hvT : v < 2 ^ (32 - s) := by
              rw [hv, Nat.div_lt_iff_lt_mul (Nat.pow_pos (by omega)), Nat.mul_comm, pow_split32 s (by omega)]; exact hxB
            have hloB : lo < B32 := by rw [hlo]; exact Nat.mod_lt _ (by rw [B32_eq]; omega)
            have m2 : IntKind.u64.wrap (x2 : Int) = (x2 : Int) := wrap64_nat rfl (by rw [B32_eq] at hx2B; rw [B64_eq]; omega)
            have m3 : IntKind.u64.wrap (32 - (s : Int)) = ((32 - s : Nat) : Int) := wrap64_nat (by omega) (by rw [B64_eq]; omega)
            have m4 : IntKind.u64.wrap ((x2 : Int) * 2 ^ (32 - s)) = (p : Int) := wrap64_nat (by rw [hpp]; simp) hpB
            have m4' : IntKind.u64.wrap ((x2 : Int) * 2 ^ (min (32 - s) 64)) = (p : Int) := by rw [Nat.min_eq_left (by omega)]; exact m4
            have m5 : (p : Int) % 4294967296 = (lo : Int) := by rw [hlo, B32_eq]; omega
            have m6 : IntKind.u32.wrap (p : Int) = (lo : Int) := by rw [wrap32_nat, hlo]
            have m7 : Go.bits .or .u32 (v : Int) (lo : Int) = (v2 : Int) := by rw [bits_or_u32_nat v lo hvB hloB, hv2, hlo2, or_word hvT]
            have hfin : ∀ W, W = (wr.setCell ⟨bu, i, none⟩ (.int .u32 (v : Int))).setCell ⟨bu, i, none⟩ (.int .u32 (v2 : Int)) → Hid (Wd.ShrInv B32 (2 ^ s) rl (zc.set i v2) (i + 1)) ∧ Hid (∀ j, i + 1 ≤ j → (zc.set i v2).getD j 0 = rl.getD j 0) ∧ ZB .u32 W bu 136 (win us 0 (zc.set i v2)) ∧ Hid (ZB .u32 W w4.heap.size 136 qs) ∧ Below w.heap.size w W := by
              rintro W rfl
              have hne : w4.heap.size ≠ bu := by have := (unhide HB12).2; omega
              have hbw : w.heap.size ≤ bu := Nat.le_trans hb1w.size hbu
              refine ⟨?_, fun j hj => ?_, ?_, ?_, ?_⟩
              · have := HI.out.step (pow_split32 s (by omega)) (Nat.pow_pos (by omega)) (by rw [HRLEN.out]; exact hlt) (by rw [← Wd.g_def, ← hx']; exact hxB)
                rw [← Wd.g_def, ← Wd.g_def, ← hx', ← hx2', ← hv, ← hlo2, ← hv2] at this
                exact this
              · simp only [List.getD]
                rw [List.getElem?_set_ne (by omega)]
                exact HSM.out j (by omega)
              · have h1 := hset wr v hzr
                have h2 := win_set us 0 (zc.set i v) (by rw [List.length_set]; omega) i v2 (by rw [List.length_set]; omega)
                rw [Nat.zero_add, List.set_set] at h2
                rw [← h2]
                exact h1.set_ _ _
              · exact (Below.heap_setCell _ _ _ w4.heap.size hne).trans ((Below.heap_setCell _ _ _ w4.heap.size hne).trans (unhide HQZ))
              · exact (hbr.setCell (p := ⟨bu, i, none⟩) hbw _).setCell (p := ⟨bu, i, none⟩) hbw _
            have HF := hide hfin
            have hzr1 := hset wr v hzr
            have hcc1 := hzr1.cell i (by rw [win_length _ _ _ (by rw [List.length_set]; omega)]; omega)
            have hgg1 : Wd.g (win us 0 (zc.set i v)) i = v := by
              have := win_g us 0 (zc.set i v) (by rw [List.length_set]; omega) i (by rw [List.length_set]; omega)
              rw [Nat.zero_add] at this
              rw [this, Wd.g_def, List.getD, List.getElem?_set_self (by omega)]; rfl
            rw [hgg1] at hcc1
            have hzf1 := hzr1.frozen i
            have hcc2 := hzr1.cell (i + 1) (by rw [win_length _ _ _ (by rw [List.length_set]; omega)]; omega)
            have hgg2 : Wd.g (win us 0 (zc.set i v)) (i + 1) = x2 := by
              have := win_g us 0 (zc.set i v) (by rw [List.length_set]; omega) (i + 1) (by rw [List.length_set]; omega)
              rw [Nat.zero_add] at this
              rw [this, Wd.g_def, List.getD, List.getElem?_set_ne (by omega)]
              exact (HSM.out (i + 1) (by omega)).trans hx2'.symm
            rw [hgg2] at hcc2
            clear hset hfin hx' hx2' hv hv2 hlo hlo2 hpp hzr gz hgg1 hgg2 hvT hxB hx2B hvB hloB hpB hbr
            go_wp2_with fail
            have hii : IntKind.i64.wrap ((i : Int) + 1) = (i : Int) + 1 := IntWalk.i64_in _ (by omega)
            have hi1 : (0 : Int) ≤ (i : Int) + 1 := by omega
            have hi2 : ((i : Int) + 1).toNat = i + 1 := by omega
            have hi3 : (i : Int) + 1 < (k2 : Int) := by omega
            go_region
            all_goals
              go_wp2_with fail
              go_roundw
              case rel =>
                obtain ⟨r1, r2, r3, r4, r5⟩ := (unhide HF) _ rfl
                exact ⟨i + 1, _, by omega, by go_num, r1, r2, r3, r4, by first | exact r5 | exact r5.drew⟩
              case measure => simp [intOf] <;> omega
          · have d1 : decide ((i : Int) + 1 < (k2 : Int)) = false := decide_eq_false (by omega)
            have d1' : decide (i + 1 < k2) = false := decide_eq_false hin
            have hfin : ∀ W, W = wr.setCell ⟨bu, i, none⟩ (.int .u32 (v : Int)) → Hid (Wd.ShrInv B32 (2 ^ s) rl (zc.set i v) (i + 1)) ∧ Hid (∀ j, i + 1 ≤ j → (zc.set i v).getD j 0 = rl.getD j 0) ∧ ZB .u32 W bu 136 (win us 0 (zc.set i v)) ∧ Hid (ZB .u32 W w4.heap.size 136 qs) ∧ Below w.heap.size w W := by
              rintro W rfl
              have hne : w4.heap.size ≠ bu := by have := (unhide HB12).2; omega
              have hbw : w.heap.size ≤ bu := Nat.le_trans hb1w.size hbu
              refine ⟨?_, fun j hj => ?_, hset _ _ hzr, ?_, ?_⟩
              · have := HI.out.step (pow_split32 s (by omega)) (Nat.pow_pos (by omega)) (by rw [HRLEN.out]; exact hlt) (by rw [← Wd.g_def, ← hx']; exact hxB)
                have h0 : rl.getD (i + 1) 0 = 0 := by simp only [List.getD]; rw [List.getElem?_eq_none (by rw [HRLEN.out]; omega)]; rfl
                rw [h0, Nat.zero_mod, Nat.zero_mul, Nat.add_zero, ← Wd.g_def, ← hx', ← hv] at this
                exact this
              · simp only [List.getD]
                rw [List.getElem?_set_ne (by omega)]
                exact HSM.out j (by omega)
              · exact (Below.heap_setCell _ _ _ w4.heap.size hne).trans (unhide HQZ)
              · exact hbr.setCell (p := ⟨bu, i, none⟩) hbw _
            have HF := hide hfin
            clear hset hfin hx' hv hzr gz hxB hvB hbr
            go_wp2_with fail
            go_roundw
            case rel =>
              obtain ⟨r1, r2, r3, r4, r5⟩ := (unhide HF) _ rfl
              exact ⟨i + 1, _, by omega, by go_num, r1, r2, r3, r4, r5⟩
            case measure => simp [intOf] <;> omega
        · have e : i = k2 := by omega
          subst e
          have hdn : Wd.val B32 zc = n % m := by
            have h1 := HI.out
            rw [← HRLEN.out] at h1
            rw [h1.done (pow_split32 s (by omega)) (Nat.pow_pos (by omega)), HRV.out, V3.out]
          have hwt : (win us 0 zc).take i = zc := by simp [win, ← hzl]
          have hwz : Ws .u32 wr (bu + 1) (some ⟨bu, 0, none⟩) zc := by
            have := (hzr.ws0 _ (Nat.lt_succ_self _)).take_ i
            rwa [hwt] at this
          have HDN := Lib.hid hdn; have HWZ := hide hwz
          have hzs : bu < wr.heap.size := hzr.lt
          have hlz0 : ∀ x ∈ zc, x < B32 := HI.out.lt
          have HLZ0 := hide hlz0
          have hqz := unhide HQZ
          have htr2 := ttrim_any (some ⟨w4.heap.size, 0, none⟩) qs.length qs wr.heap.size wr (hqz.ws0 _ hqz.lt) (Nat.le_refl _) (by rw [HQL.out]; omega)
          rw [HQL.out] at htr2
          have T3 := hide htr2
          clear hdn hwt hwz hlz0 htr2 hqz hzr
          go_wp2_with fail
          refine (unhide T3).mono ?_
          rintro e w6 ⟨⟨k3, rfl, ht2, hk3⟩, hw6⟩
          obtain rfl : wr = w6 := hw6.symm
          clear hw6
          have q1 := NatT.of_trim (cap := lq) (unhide HQZ) (unhide HLT2) ht2 (by rw [HQL.out]; exact hk3) (by rw [HQL.out]; omega) (by omega)
          rw [V1.out] at q1
          have Q1 := hide q1
          have hk3l : k3 = (qs.take k3).length := by rw [List.length_take, HQL.out]; omega
          have HK3 := Lib.hid hk3l
          clear ht2 q1 T3 hk3l
          have htr4 := ttrim_any (some ⟨bu, 0, none⟩) (xl.length + 1) zc (bu + 1) wr (unhide HWZ) (by omega) (by omega)
          rw [hzl] at htr4
          have T4 := hide htr4
          clear htr4
          go_wp2_with fail
          refine (unhide T4).mono ?_
          rintro e w6 ⟨⟨k4, rfl, ht4, hk4⟩, hw6⟩
          obtain rfl : wr = w6 := hw6.symm
          clear hw6
          have q2 : NatT wr (some ⟨bu, 0, none⟩) (xl.length + 1) (zc.take k4) (n % m) := by
            refine ⟨(((unhide HWZ).take_ k4).more (by omega)), by rw [List.length_take]; omega, by omega, fun x hx => (unhide HLZ0) x (List.mem_of_mem_take hx), ht4.norm, ?_⟩
            rw [ht4.val, HDN.out]
          have Q2 := hide q2
          have hk4l : k4 = (zc.take k4).length := by rw [List.length_take]; omega
          have HK4 := Lib.hid hk4l
          clear ht4 q2 T4 hk4l
          go_wp2_with fail
          go_ret2
          exact ⟨some ⟨w4.heap.size, 0, none⟩, lq, qs.take k3, some ⟨bu, 0, none⟩, xl.length + 1, zc.take k4, ret_slices HK3.out HK4.out, unhide Q1, unhide Q2, hbr⟩
    · obtain ⟨j, rfl⟩ := Int.eq_ofNat_of_zero_le (show 0 ≤ i by omega)
      have hinv : Wd.LongInv B32 V uz us qs (j + 1) := by have := HI.out; rwa [show ((j : Int) + 1).toNat = j + 1 by omega] at this
      have husl : us.length = xl.length + 1 := hinv.lenu.trans HUL.out
      have hql := HQL.out
      have hqc := hqz.cell j (by omega)
      have hqf := hqz.frozen j
      have HINV := hide hinv; have HUSL := Lib.hid husl
      obtain ⟨wd1, wd2, wd3⟩ := hinv.window B32_pos (unhide HVLT)
      have hwl : ((us.drop j).take (yl.length + 1)).length = yl.length + 1 := by rw [List.length_take, List.length_drop]; omega
      have hpre : WordPre ((us.drop j).take (yl.length + 1)) (vz.take yl.length) yl.length := by
        refine ⟨hn2, HVN.out, hwl, fun x hx => hinv.lt x (List.mem_of_mem_drop (List.mem_of_mem_take hx)), fun x hx => hvlt x (List.mem_of_mem_take hx), ?_, by rw [HVALS.out]; exact wd2⟩
        rcases (unhide HT).norm with h | h
        · have := HVN.out; rw [h] at this; simp at this; omega
        · rwa [HVN.out] at h
      have hds := word32_any bu j (xl.length + 1 - j) 136 yl.length us ((us.drop j).take (yl.length + 1)) (vz.take yl.length) (some ⟨bv, 0, none⟩) (yl.length + 1) (bv + 1) top next wo huzr (by omega) (by rw [hwl]) (by omega) (by omega) hvr (fun b o e => by injection e with e; injection e with e; omega) (by have := (unhide HB12).1; omega) (by simp; omega) (by omega) hpre HTP.out HNX.out
      have HDS := hide hds
      clear hds
      have hfin : ∀ (W : World) (zr : List Nat) (q : Nat), StepT ((us.drop j).take (yl.length + 1)) (vz.take yl.length) zr q → Hid (Wd.LongInv B32 V uz (win us j zr) (qs.set j q) j) := fun W zr q hok => by
        have hzl : zr.length = yl.length + 1 := hok.len.trans hwl
        refine hinv.step (n := yl.length) B32_pos (unhide HVLT) (unhide HV0) (by omega) ?_ ?_ ?_ ?_ ?_
        · rw [hok.quo, HVALS.out]
        · have e1 : (win us j zr).drop j = zr ++ us.drop (j + zr.length) := by
            simp only [win, List.append_assoc]
            rw [List.drop_append_of_le_length (by simp; omega), List.drop_of_length_le (by simp; omega), List.nil_append]
          have e2 : Wd.val B32 (us.drop (j + zr.length)) = 0 := by
            have h1 := Wd.val_split B32 (us.drop j) (yl.length + 1)
            rw [wd3, List.drop_drop] at h1
            have h2 : 0 < B32 ^ min (yl.length + 1) (us.drop j).length := Nat.pow_pos (by rw [B32_eq]; omega)
            rw [hzl]
            rcases Nat.eq_zero_or_pos (Wd.val B32 (us.drop (j + (yl.length + 1)))) with h | h
            · exact h
            · have := Nat.mul_pos h2 h; omega
          rw [e1, Wd.val_append, e2, Nat.mul_zero, Nat.add_zero, hok.rem, HVALS.out]
        · rw [win_length _ _ _ (by omega)]
        · intro x hx
          simp only [win, List.append_assoc, List.mem_append] at hx
          rcases hx with h | h | h
          · exact hinv.lt x (List.mem_of_mem_take h)
          · exact hok.lt x h
          · exact hinv.lt x (List.mem_of_mem_drop h)
        · intro t ht
          simp only [win, List.append_assoc, List.getD]
          rw [List.getElem?_append_left (by simp; omega), List.getElem?_take, if_pos ht]
      have HFIN := hide hfin
      clear hinv husl hql HI wd1 wd2 wd3 hfin hpre
      go_wp2_with fail
      rw [show j + yl.length + 1 - j = yl.length + 1 by omega]
      refine (unhide HDS).mono ?_
      rintro e w5 ⟨zr, q, rfl, hok, hqB, huz5, hg5⟩
      have hinv5 := (unhide HFIN) w5 zr q hok
      have hqz5 := hqz.grown hg5 (by intro h; injection h with h; have := (unhide HB12).2; omega)
      have hqc5 := hqz5.cell j (by have := HQL.out; omega)
      have hqf5 := hqz5.frozen j
      have hv5 : Ws .u32 w5 (bv + 1) (some ⟨bv, 0, none⟩) (vz.take yl.length) := fun hl => by
        obtain ⟨b, o, e, hb, hc⟩ := hvr hl
        injection e with e; injection e with e1 e2
        subst e1 e2
        exact ⟨bv, 0, rfl, hb, fun t ht => (World.cell?_of_block (hg5.block bv (by have := (unhide HB12).1; omega) (fun e => by injection e with e; omega))).trans (hc t ht)⟩
      have hb5 : Below w.heap.size w w5 := hbr.grown hg5 hbr.size (fun g e => by injection e with e; subst e; exact Nat.le_trans hb1w.size hbu)
      have hs5 : w4.heap.size < w5.heap.size := Nat.lt_of_lt_of_le hszr hg5.size
      have hw4s : w.heap.size ≤ w4.heap.size := hbw4.size
      have hfin2 : ∀ W, W = w5.setCell ⟨w4.heap.size, j, none⟩ (.int .u32 (q : Int)) → ZB .u32 W bu 136 (win us j zr) ∧ ZB .u32 W w4.heap.size 136 (qs.set j q) ∧ Ws .u32 W (bv + 1) (some ⟨bv, 0, none⟩) (vz.take yl.length) ∧ Below w.heap.size w W ∧ w4.heap.size < W.heap.size := by
        rintro W rfl
        exact ⟨(Below.heap_setCell w5 _ _ bu (by show bu ≠ w4.heap.size; have := (unhide HB12).2; omega)).trans huz5, hqz5.set_ _ _, hv5.setCell (p := ⟨w4.heap.size, j, none⟩) (by show bv + 1 ≤ w4.heap.size; have := (unhide HB12).1; omega) _, hb5.setCell (p := ⟨w4.heap.size, j, none⟩) hw4s _, by simp [World.setCell]; omega⟩
      have HF2 := hide hfin2
      clear hok hg5 hfin2 huz5 hqz5 hv5 hb5
      go_wp2_with fail
      go_roundw
      case rel =>
        obtain ⟨f1, f2, f3, f4, f5⟩ := (unhide HF2) _ rfl
        exact ⟨(j : Int) - 1, win us j zr, qs.set j q, by omega, by omega, by go_num, by rw [show ((j : Int) - 1 + 1).toNat = j by omega]; exact hinv5, by show _ = _; rw [List.length_set]; exact HQL.out, f1, f2, f3, f4, f5⟩
      case measure => simp [intOf] <;> omega
end Go.Proofs.YtpjgoogeokbaaaaGreatDoor
/- The reference: quotient and rest in all ways; the greatest common divisor of two amounts. -/
namespace Go.Proofs.YtpjgoogeokbaaaaGreatDoor
open Go.RowKit

theorem parts_any (Ax Ay : Option Addr) (cx cy : Nat) (xl yl : List Nat) (n m : Nat) (w : World) (hx : NatT w Ax cx xl n) (hy : NatT w Ay cy yl m) (hm : 0 < m) (hk : xl.length + 1 ≤ 35184372088832) (hk2 : yl.length + 1 ≤ 35184372088832) :
    Calls Tryz.prog 140 #[.slice Ax xl.length cx, .slice Ay yl.length cy] w fun e w' => PartsU w (n / m) (n % m) e w' := by
  by_cases hlt : n < m
  · exact parts_small Ax Ay cx cy xl yl n m w hx hy hlt
  · by_cases h1 : yl.length = 1
    · exact parts_one Ax Ay cx cy xl yl n m w hx hy hlt h1 (by omega)
    · refine parts_long Ax Ay cx cy xl yl n m w hx hy hlt hk hk2 ?_
      rcases Nat.eq_zero_or_pos yl.length with h | h
      · exfalso
        have := hy.val
        rw [List.length_eq_zero_iff.1 h] at this
        simp [Wd.val] at this; omega
      · omega

/-- The number that a slice's words stand for. -/
def memNum (w : World) : Value → Nat
  | .slice (some p) n _ => Wd.val B32 ((List.range n).map fun i => match w.cell? ⟨p.block, p.off + i, none⟩ with | some (.int _ z) => z.toNat | _ => 0)
  | _ => 0
theorem memNum_eq {w : World} {A : Option Addr} {cap : Nat} {l : List Nat} {n : Nat} (h : NatT w A cap l n) : memNum w (.slice A l.length cap) = n := by
  rcases Nat.eq_zero_or_pos l.length with h0 | h0
  · have hv := h.val
    have hl := List.length_eq_zero_iff.1 h0
    subst hl
    rw [← hv]
    cases A <;> simp [memNum, Wd.val]
  · obtain ⟨b, o, rfl, _, hc⟩ := h.ws h0
    show Wd.val B32 _ = n
    rw [← h.val]
    congr 1
    apply List.ext_getElem (by simp)
    intro i h1 h2
    simp only [List.getElem_map, List.getElem_range]
    rw [hc i h2, Wd.g_def]
    simp [List.getD, h2]

set_option maxRecDepth 100000 in
set_option maxHeartbeats 1000000 in
theorem divisor_any (Ax Ay : Option Addr) (cx cy : Nat) (xl yl : List Nat) (n m K : Nat) (w : World) (hx : NatT w Ax cx xl n) (hy : NatT w Ay cy yl m) (hn : n < B32 ^ K) (hm : m < B32 ^ K) (hK : K + 1 ≤ 35184372088832) :
    Calls Tryz.prog 139 #[.slice Ax xl.length cx, .slice Ay yl.length cy] w fun e w' => NatU w (n.gcd m) e w' := by
  go_enter Tryz.func139, Tryz.ntmps139
  go_wp2_with fail
  have HK := hide hK
  clear hK
  go_loopw [0, 1] (fun av bv wr => ∃ Aa ca la na Ab cb lb nb, av = .slice Aa la.length ca ∧ bv = .slice Ab lb.length cb ∧ NatT wr Aa ca la na ∧ NatT wr Ab cb lb nb ∧ na < B32 ^ K ∧ nb < B32 ^ K ∧ Hid (na.gcd nb = n.gcd m) ∧ Below w.heap.size w wr) (fun _ bv wr => memNum wr bv)
  case atStart => exact ⟨Ax, cx, xl, n, Ay, cy, yl, m, rfl, rfl, hx, hy, hn, hm, rfl, Below.refl _ _⟩
  case round =>
    clear hx hy hn hm
    obtain ⟨Aa, ca, la, na, Ab, cb, lb, nb, rfl, rfl, ha, hb, hna, hnb, HG, hbl⟩ := hrel
    have ha1 := ha.cap1; have ha2 := ha.cap2; have hb1 := hb.cap1; have hb2 := hb.cap2
    have la1 : la.length ≤ K := ha.len hna
    have lb1 : lb.length ≤ K := hb.len hnb
    by_cases h0 : lb.length = 0
    · have e : nb = 0 := by rw [← hb.val, List.length_eq_zero_iff.1 h0]; rfl
      have hg := HG.out
      rw [e, Nat.gcd_zero_right] at hg
      have HGG := Lib.hid hg
      have HA := hide ha
      clear hg ha hb hna hnb e HG
      go_wp2_with fail
      go_ret
      exact ⟨Aa, ca, la, rfl, by rw [← HGG.out]; exact unhide HA, hbl⟩
    · have hnb0 : 0 < nb := by
        rcases Nat.eq_zero_or_pos nb with h | h
        · exfalso
          have := hb.len (k := 0) (by rw [h]; simp)
          omega
        · exact h
      have hp := parts_any Aa Ab ca cb la lb na nb wr ha hb hnb0 (by have := unhide HK; omega) (by have := unhide HK; omega)
      have hg : nb.gcd (na % nb) = n.gcd m := by
        rw [← HG.out, Nat.gcd_comm nb (na % nb), ← Nat.gcd_rec nb na, Nat.gcd_comm]
      have hlt := Nat.mod_lt na hnb0
      have hmem := memNum_eq hb
      have HP := hide hp; have HGG := Lib.hid hg; have HB := hide hb; have HNB := hide hnb
      have HLT := hide hlt; have HM := Lib.hid hmem
      clear hp hg ha hb hna hnb HG hlt hmem
      go_wp2_with fail
      refine (unhide HP).mono ?_
      rintro e w' ⟨A5, c5, l5, A6, c6, l6, rfl, h5, h6, hbl2⟩
      have hb' := (unhide HB).below hbl2
      have hbl3 : Below w.heap.size w w' := hbl.trans (hbl2.mono hbl.size)
      have HB2 := hide hb'; have H6 := hide h6
      clear hb' h5 h6 hbl2 hbl
      go_wp2_with fail
      go_roundw
      case rel => exact ⟨Ab, cb, lb, nb, A6, c6, l6, na % nb, rfl, rfl, unhide HB2, unhide H6, unhide HNB, Nat.lt_trans (unhide HLT) (unhide HNB), HGG, hbl3⟩
      case measure =>
        have := memNum_eq (unhide H6)
        have h2 := HM.out
        have h3 := unhide HLT
        simp_all
end Go.Proofs.YtpjgoogeokbaaaaGreatDoor
/- The reference's whole numbers: their memory, signs, products. -/
namespace Go.Proofs.YtpjgoogeokbaaaaGreatDoor
open Go.RowKit

/-- A block of which no cell is a word of 32 bits. -/
def NoW2 (cs : Array Value) : Prop := ∀ (i : Nat) (n : Int), cs[i]? ≠ some (Value.int .u32 n)
theorem noW2_2 (A : Option Addr) (n c : Nat) (b : Bool) : NoW2 #[.slice A n c, .bool b] := by
  intro i n h
  match i, h with
  | 0, h => simp at h
  | 1, h => simp at h
  | i + 2, h => simp at h
theorem noW2_4 (A : Option Addr) (n c : Nat) (b : Bool) (A' : Option Addr) (n' c' : Nat) (b' : Bool) : NoW2 #[.slice A n c, .bool b, .slice A' n' c', .bool b'] := by
  intro i n h
  match i, h with
  | 0, h => simp at h
  | 1, h => simp at h
  | 2, h => simp at h
  | 3, h => simp at h
  | i + 4, h => simp at h
theorem Ws.upto32 {w w' : World} {B g : Nat} {A : Option Addr} {l : List Nat} {T : TypeId} {cs : Array Value} (h : Ws .u32 w B A l) (hg : w.heap[g]? = some (.cells cs T (0, 0))) (hn : NoW2 cs) (hgr : w.grownBy w' (some g)) (hB : B ≤ w.heap.size) : Ws .u32 w' B A l := fun hl => by
  obtain ⟨b, off, rfl, hb, hc⟩ := h hl
  have hne : b ≠ g := by
    rintro rfl
    have := hc 0 hl
    simp only [World.cell?, hg, Option.isSome_none, Bool.false_eq_true, if_false] at this
    exact hn _ _ this
  exact ⟨b, off, rfl, hb, fun j hj => (World.cell?_of_block (hgr.block b (by omega) (fun e => hne (by injection e)))).trans (hc j hj)⟩
theorem NatT.upto {w w' : World} {g : Nat} {A : Option Addr} {cap : Nat} {l : List Nat} {n : Nat} {T : TypeId} {cs : Array Value} (h : NatT w A cap l n) (hg : w.heap[g]? = some (.cells cs T (0, 0))) (hn : NoW2 cs) (hgr : w.grownBy w' (some g)) : NatT w' A cap l n :=
  ⟨(h.ws.upto32 hg hn hgr (Nat.le_refl _)).more hgr.size, h.cap1, h.cap2, h.lt, h.norm, h.val⟩
theorem set4_grown (w : World) (g : Nat) (u0 u1 u2 u3 : Value) : w.grownBy ((((w.setCell ⟨g, 0, none⟩ u0).setCell ⟨g, 1, none⟩ u1).setCell ⟨g, 2, none⟩ u2).setCell ⟨g, 3, none⟩ u3) (some g) :=
  grown_setCell (grown_setCell (grown_setCell (grown_setCell (grown_refl _ _) _ _) _ _) _ _) _ _

structure WholeF (w : World) (A : Option Addr) (cap : Nat) (l : List Nat) (m : Bool) (z : Int) : Prop where
  nat : NatT w A cap l z.natAbs
  sign : m = decide (z < 0)
theorem WholeF.below {w w' : World} {A : Option Addr} {cap : Nat} {l : List Nat} {m : Bool} {z : Int} (h : WholeF w A cap l m z) (hb : Below w.heap.size w w') : WholeF w' A cap l m z := ⟨h.nat.below hb, h.sign⟩
theorem WholeF.upto {w w' : World} {g : Nat} {A : Option Addr} {cap : Nat} {l : List Nat} {m : Bool} {z : Int} {T : TypeId} {cs : Array Value} (h : WholeF w A cap l m z) (hg : w.heap[g]? = some (.cells cs T (0, 0))) (hn : NoW2 cs) (hgr : w.grownBy w' (some g)) : WholeF w' A cap l m z := ⟨h.nat.upto hg hn hgr, h.sign⟩

/-- What a call hands back: a whole number of the reference. -/
def WholeR (w : World) (z : Int) (e : Ending) (w' : World) : Prop := ∃ A cap l m, e = .returned (.agg #[.slice A l.length cap, .bool m]) ∧ WholeF w' A cap l m z ∧ Below w.heap.size w w'

theorem NatT.zero_iff {w : World} {A : Option Addr} {cap : Nat} {l : List Nat} {n : Nat} (h : NatT w A cap l n) : n = 0 ↔ l.length = 0 := by
  constructor
  · intro e
    have := h.len (k := 0) (by rw [e]; simp)
    omega
  · intro e
    rw [← h.val, List.length_eq_zero_iff.1 e]; rfl

set_option maxRecDepth 100000 in
set_option maxHeartbeats 1000000 in
theorem tsigned_any (A : Option Addr) (cap : Nat) (l : List Nat) (n : Nat) (s : Bool) (w : World) (h : NatT w A cap l n) :
    Calls Tryz.prog 141 #[.slice A l.length cap, .bool s] w fun e w' => WholeR w (if s then -(n : Int) else (n : Int)) e w' := by
  have hc1 := h.cap1; have hc2 := h.cap2
  have hz := h.zero_iff
  have hab : (if s then -(n : Int) else (n : Int)).natAbs = n := by cases s <;> simp
  have hsg : s = true → decide (0 < l.length) = decide ((if s then -(n : Int) else (n : Int)) < 0) := by
    rintro rfl
    simp only [if_true]
    exact decide_eq_decide.2 (by omega)
  have hsg2 : ¬ s = true → false = decide ((if s then -(n : Int) else (n : Int)) < 0) := by
    intro hs
    rw [Bool.not_eq_true] at hs
    subst hs
    exact (decide_eq_false (by simp)).symm
  obtain ⟨z, hzz⟩ : ∃ z, z = if s then -(n : Int) else (n : Int) := ⟨_, rfl⟩
  rw [← hzz] at hab hsg hsg2 ⊢
  have HF : Hid (∀ W, Below w.heap.size w W → NatT W A cap l z.natAbs) := fun W hW => by rw [hab]; exact h.below hW
  have HS1 := hide hsg; have HS2 := hide hsg2
  clear h hz hab hsg hsg2 hzz
  go_enter Tryz.func141, Tryz.ntmps141
  go_wp2_with fail
  · have hs : s = true := by assumption
    exact bodyPost_ret (v := .agg #[.slice A l.length cap, .bool (decide (0 < l.length))]) (by simp [results, Tryz.results141, go_sem]) rfl ⟨A, cap, l, _, rfl, ⟨(unhide HF) _ ((Below.refl _ _).alloc (Nat.le_refl _) _), (unhide HS1) hs⟩, (Below.refl _ _).alloc (Nat.le_refl _) _⟩
  · have hs : ¬ s = true := by assumption
    exact bodyPost_ret (v := .agg #[.slice A l.length cap, .bool false]) (by simp [results, Tryz.results141, go_sem]) rfl ⟨A, cap, l, _, rfl, ⟨(unhide HF) _ ((Below.refl _ _).alloc (Nat.le_refl _) _), (unhide HS2) hs⟩, (Below.refl _ _).alloc (Nat.le_refl _) _⟩

set_option maxRecDepth 100000 in
set_option maxHeartbeats 1000000 in
theorem tisn_any (A : Option Addr) (cap n : Nat) (s : Bool) (w : World) :
    Calls Tryz.prog 100 #[.agg #[.slice A n cap, .bool s]] w fun e w' => e = .returned (.bool (decide (n = 0))) ∧ Below w.heap.size w w' := by
  by_cases h : n = 0
  · subst h
    go_enter Tryz.func100, Tryz.ntmps100
    go_wp2_with fail
    all_goals first | go_ret | skip
    all_goals exact ⟨rfl, (Below.refl _ _).alloc (Nat.le_refl _) _⟩
  · have hb : ((n : Int) == 0) = false := beq_eq_false_iff_ne.2 (by omega)
    have hd : decide (n = 0) = false := decide_eq_false h
    rw [hd]
    clear hd
    go_enter Tryz.func100, Tryz.ntmps100
    go_wp2_with fail
    all_goals first | go_ret | skip
    all_goals exact ⟨rfl, (Below.refl _ _).alloc (Nat.le_refl _) _⟩

set_option maxRecDepth 100000 in
set_option maxHeartbeats 1000000 in
theorem tisOne_any (A : Option Addr) (cap : Nat) (l : List Nat) (m : Bool) (z : Int) (w : World) (h : WholeF w A cap l m z) :
    Calls Tryz.prog 96 #[.agg #[.slice A l.length cap, .bool m]] w fun e w' => e = .returned (.bool (decide (z = 1))) ∧ Below w.heap.size w w' := by
  have hc1 := h.nat.cap1; have hc2 := h.nat.cap2
  by_cases h1 : l.length = 1
  · have hb : ((l.length : Int) == 1) = true := by rw [h1]; rfl
    obtain ⟨b, o, rfl, hbb, hc⟩ := h.nat.ws (by omega)
    have hc0 := ((Below.refl w.heap.size w).alloc (Nat.le_refl _) (.cells #[.slice (some ⟨b, o, none⟩) l.length cap, .bool m] 50)).cell (p := ⟨b, o + 0, none⟩) hbb |>.trans (hc 0 (by omega))
    rw [Nat.add_zero] at hc0
    have hv : Wd.g l 0 = z.natAbs := by rw [one_word B32 l h1]; exact h.nat.val
    have hs := h.sign
    rw [hv] at hc0
    have hres : decide (z = 1) = ((z.natAbs : Int) == 1 && !m) := by
      rw [hs]
      by_cases hz : z = 1
      · subst hz; rfl
      · rw [decide_eq_false hz]
        by_cases h2 : z = -1
        · subst h2; rfl
        · have : ((z.natAbs : Int) == 1) = false := beq_eq_false_iff_ne.2 (by omega)
          rw [this]; rfl
    have hl0 : 0 < l.length := by omega
    have HR := Lib.hid hres
    clear hc hv hs h hres h1
    cases m
    all_goals
      by_cases hv : ((z.natAbs : Nat) : Int) = 1
      · have hv1 : (((z.natAbs : Nat) : Int) == 1) = true := by rw [hv]; rfl
        have HV := Lib.hid hv1
        rw [hv] at hc0
        clear hv hv1
        go_enter Tryz.func96, Tryz.ntmps96
        go_wp2_with fail
        all_goals first | go_ret | skip
        all_goals exact ⟨by rw [HR.out, HV.out]; rfl, (Below.refl _ _).alloc (Nat.le_refl _) _⟩
      · have hv1 : (((z.natAbs : Nat) : Int) == 1) = false := beq_eq_false_iff_ne.2 hv
        have hv0 := hv1
        have HV := Lib.hid hv0
        clear hv0
        obtain ⟨t, ht⟩ : ∃ t, t = z.natAbs := ⟨_, rfl⟩
        rw [← ht] at hc0 hv hv1
        clear ht
        go_enter Tryz.func96, Tryz.ntmps96
        go_wp2_with fail
        all_goals first | go_ret | skip
        all_goals exact ⟨by rw [HR.out, HV.out]; rfl, (Below.refl _ _).alloc (Nat.le_refl _) _⟩
  · have hb : ((l.length : Int) == 1) = false := beq_eq_false_iff_ne.2 (by omega)
    have hd : decide (z = 1) = false := decide_eq_false (by
      rintro rfl
      apply h1
      have h0 := h.nat.len (k := 1) (by simp [B32_eq])
      have h3 : ¬ l.length = 0 := fun e => by have := h.nat.zero_iff.2 e; simp at this
      omega)
    rw [hd]
    clear hd h
    go_enter Tryz.func96, Tryz.ntmps96
    go_wp2_with fail
    all_goals first | go_ret | skip
    all_goals exact ⟨rfl, (Below.refl _ _).alloc (Nat.le_refl _) _⟩

set_option maxRecDepth 100000 in
set_option maxHeartbeats 1000000 in
theorem tneg_any (A : Option Addr) (cap : Nat) (l : List Nat) (m : Bool) (z : Int) (w : World) (h : WholeF w A cap l m z) :
    Calls Tryz.prog 138 #[.agg #[.slice A l.length cap, .bool m]] w fun e w' => WholeR w (-z) e w' := by
  have hv : (if (!m) then -(z.natAbs : Int) else (z.natAbs : Int)) = -z := by
    rw [h.sign]
    by_cases hz : z < 0
    · rw [decide_eq_true hz]; simp; omega
    · rw [decide_eq_false hz]; simp; omega
  have HS := hide (fun W (hW : Below w.heap.size w W) => tsigned_any A cap l z.natAbs (!m) W (h.nat.below hW))
  rw [hv] at HS
  clear h hv
  go_enter Tryz.func138, Tryz.ntmps138
  go_wp2_with fail
  obtain ⟨n0, n1, hsz, hw0⟩ := two_new w (.cells #[.slice A l.length cap, .bool m] 50) (.cells #[.slice none 0 0, .bool false] 50)
  generalize ((w.alloc (.cells #[.slice A l.length cap, .bool m] 50)).alloc (.cells #[.slice none 0 0, .bool false] 50)) = W0 at *
  have q1 : w.heap.size + 1 < W0.heap.size := by omega
  have k1_0 : W0.cell? ⟨w.heap.size + 1, 0, none⟩ = some (.slice none 0 0) := cells_of n1 0
  have k1_1 : W0.cell? ⟨w.heap.size + 1, 1, none⟩ = some (.bool false) := cells_of n1 1
  have f1_0 := unfrozen_of n1 0
  have f1_1 := unfrozen_of n1 1
  have NR := Lib.hid n1
  clear n0 n1
  refine ((unhide HS) _ hw0).mono ?_
  rintro e w' ⟨A5, c5, l5, m5, rfl, hf5, hb⟩
  obtain ⟨hc, hfz⟩ := bcell hb
  have hblk : w'.heap[w.heap.size + 1]? = some (.cells #[.slice none 0 0, .bool false] 50 (0, 0)) := (hb.block _ q1).trans NR.out
  have HBLK := Lib.hid hblk
  have hb9 : Below w.heap.size w w' := below_step' hw0 hb
  clear hblk
  go_wp2_with fail
  exact bodyPost_ret (v := .agg #[.slice A5 l5.length c5, .bool m5]) (by simp [results, Tryz.results138, go_sem, hc, k1_0, k1_1, q1]) rfl
    ⟨A5, c5, l5, m5, rfl, hf5.upto HBLK.out (noW2_2 _ _ _ _) (set2_grown _ _ _ _), hb9.grown (set2_grown _ _ _ _) hb9.size (fun k hk => by injection hk with hk; omega)⟩

end Go.Proofs.YtpjgoogeokbaaaaGreatDoor
/- The reference's whole numbers out of ints, and compared. -/
namespace Go.Proofs.YtpjgoogeokbaaaaGreatDoor
open Go.RowKit

theorem zb_two {w : World} {b : Nat} {T : TypeId} {lo hi : Nat} (h : w.heap[b]? = some (.cells #[.int .u32 (lo : Int), .int .u32 (hi : Int)] T (0, 0))) : ZB .u32 w b T [lo, hi] := h

set_option maxRecDepth 100000 in
set_option maxHeartbeats 1000000 in
theorem tofInt_any (x : Int) (w : World) (hx : -9223372036854775808 ≤ x) (hx2 : x ≤ 9223372036854775807) :
    Calls Tryz.prog 93 #[.int .i64 x] w fun e w' => WholeR w x e w' ∧ ∃ (A : Option Addr) (cap : Nat) (l : List Nat) (m : Bool), e = .returned (.agg #[.slice A l.length cap, .bool m]) ∧ l.length ≤ 2 := by
  obtain ⟨a, ha⟩ : ∃ a, a = x.natAbs := ⟨_, rfl⟩
  obtain ⟨lo, hlo⟩ : ∃ t, t = a % B32 := ⟨_, rfl⟩
  obtain ⟨hi, hhi⟩ : ∃ t, t = a / B32 := ⟨_, rfl⟩
  have ha2 : a ≤ 9223372036854775808 := by omega
  have e2 : (a : Int) % 4294967296 = (lo : Int) := by rw [hlo, B32_eq]; omega
  have e3 : (a : Int) / 4294967296 = (hi : Int) := by rw [hhi, B32_eq]; omega
  have e4 : (hi : Int) % 4294967296 = (hi : Int) := by rw [hhi, B32_eq]; omega
  have e5 : IntKind.u32.wrap (a : Int) = (lo : Int) := by rw [IntKind.wrap_u32]; exact e2
  have e6 : IntKind.u32.wrap (hi : Int) = (hi : Int) := by rw [IntKind.wrap_u32]; exact e4
  have hlB : ∀ t ∈ [lo, hi], t < B32 := by
    intro t ht
    simp only [List.mem_cons, List.not_mem_nil, or_false] at ht
    rcases ht with rfl | rfl
    · rw [hlo]; exact Nat.mod_lt _ (by rw [B32_eq]; omega)
    · rw [hhi, B32_eq]; omega
  have hval : Wd.val B32 [lo, hi] = x.natAbs := by
    rw [← ha]
    simp only [Wd.val, Nat.mul_zero, Nat.add_zero]
    rw [hlo, hhi]
    exact Nat.mod_add_div _ _
  have HLB := hide hlB; have HVAL := Lib.hid hval
  by_cases hn : x < 0
  · have d1 : decide (x < 0) = true := decide_eq_true hn
    have e1 : IntKind.u64.wrap (-IntKind.u64.wrap x) = (a : Int) := by
      rw [IntKind.wrap_u64, IntKind.wrap_u64]; omega
    clear hx hx2 ha hlo hhi ha2 hlB hval
    go_enter Tryz.func93, Tryz.ntmps93
    go_wp2_with fail
    obtain ⟨n0, n1, hsz, hw0⟩ := two_new w (.cells #[.slice none 0 0, .bool false] 50) (.cells #[.int .u32 (lo : Int), .int .u32 (hi : Int)] 136)
    generalize ((w.alloc (.cells #[.slice none 0 0, .bool false] 50)).alloc (.cells #[.int .u32 (lo : Int), .int .u32 (hi : Int)] 136)) = W0 at *
    have k0 : W0.cell? ⟨w.heap.size, 0, none⟩ = some (.slice none 0 0) := cells_of n0 0
    have k1 : W0.cell? ⟨w.heap.size, 1, none⟩ = some (.bool false) := cells_of n0 1
    have f0 := unfrozen_of n0 0
    have f1 := unfrozen_of n0 1
    have q0 : w.heap.size < W0.heap.size := by omega
    have hzb := zb_two n1
    have NR := Lib.hid n0
    have htr := ttrim_any (some ⟨w.heap.size + 1, 0, none⟩) 2 [lo, hi] W0.heap.size W0 (hzb.ws0 _ hzb.lt) (by simp) (by omega)
    have HZB := hide hzb
    clear n0 n1 hzb
    refine htr.mono ?_
    rintro e w' ⟨⟨k, rfl, ht, hk⟩, hw'⟩
    obtain rfl : W0 = w' := hw'.symm
    clear hw'
    have hn5 := NatT.of_trim (cap := 2) (unhide HZB) (unhide HLB) ht hk (by simp) (by omega)
    rw [HVAL.out] at hn5
    have hkl : k = ([lo, hi].take k).length := by rw [List.length_take]; omega
    have hl2 : ([lo, hi].take k).length ≤ 2 := by rw [List.length_take]; exact Nat.min_le_right _ _
    generalize [lo, hi].take k = l5 at *
    subst hkl
    have hf5 : WholeF W0 (some ⟨w.heap.size + 1, 0, none⟩) 2 l5 true x := ⟨hn5, d1.symm⟩
    have HF5 := hide hf5
    clear hn5 hf5 ht
    go_wp2_with fail
    exact bodyPost_ret (v := .agg #[.slice (some ⟨w.heap.size + 1, 0, none⟩) l5.length 2, .bool true]) (by simp [results, Tryz.results93, go_sem, k0, k1, q0]) rfl
      ⟨⟨_, 2, l5, true, rfl, (unhide HF5).upto NR.out (noW2_2 _ _ _ _) (set2_grown _ _ _ _), hw0.grown (set2_grown _ _ _ _) hw0.size (fun k hk => by injection hk with hk; omega)⟩, _, _, l5, true, rfl, hl2⟩
  · have d1 : decide (x < 0) = false := decide_eq_false hn
    have e1 : IntKind.u64.wrap x = (a : Int) := by
      rw [IntKind.wrap_u64]; omega
    clear hx hx2 ha hlo hhi ha2 hlB hval
    go_enter Tryz.func93, Tryz.ntmps93
    go_wp2_with fail
    obtain ⟨n0, n1, hsz, hw0⟩ := two_new w (.cells #[.slice none 0 0, .bool false] 50) (.cells #[.int .u32 (lo : Int), .int .u32 (hi : Int)] 136)
    generalize ((w.alloc (.cells #[.slice none 0 0, .bool false] 50)).alloc (.cells #[.int .u32 (lo : Int), .int .u32 (hi : Int)] 136)) = W0 at *
    have k0 : W0.cell? ⟨w.heap.size, 0, none⟩ = some (.slice none 0 0) := cells_of n0 0
    have k1 : W0.cell? ⟨w.heap.size, 1, none⟩ = some (.bool false) := cells_of n0 1
    have f0 := unfrozen_of n0 0
    have f1 := unfrozen_of n0 1
    have q0 : w.heap.size < W0.heap.size := by omega
    have hzb := zb_two n1
    have NR := Lib.hid n0
    have htr := ttrim_any (some ⟨w.heap.size + 1, 0, none⟩) 2 [lo, hi] W0.heap.size W0 (hzb.ws0 _ hzb.lt) (by simp) (by omega)
    have HZB := hide hzb
    clear n0 n1 hzb
    refine htr.mono ?_
    rintro e w' ⟨⟨k, rfl, ht, hk⟩, hw'⟩
    obtain rfl : W0 = w' := hw'.symm
    clear hw'
    have hn5 := NatT.of_trim (cap := 2) (unhide HZB) (unhide HLB) ht hk (by simp) (by omega)
    rw [HVAL.out] at hn5
    have hkl : k = ([lo, hi].take k).length := by rw [List.length_take]; omega
    have hl2 : ([lo, hi].take k).length ≤ 2 := by rw [List.length_take]; exact Nat.min_le_right _ _
    generalize [lo, hi].take k = l5 at *
    subst hkl
    have hf5 : WholeF W0 (some ⟨w.heap.size + 1, 0, none⟩) 2 l5 false x := ⟨hn5, d1.symm⟩
    have HF5 := hide hf5
    clear hn5 hf5 ht
    go_wp2_with fail
    exact bodyPost_ret (v := .agg #[.slice (some ⟨w.heap.size + 1, 0, none⟩) l5.length 2, .bool false]) (by simp [results, Tryz.results93, go_sem, k0, k1, q0]) rfl
      ⟨⟨_, 2, l5, false, rfl, (unhide HF5).upto NR.out (noW2_2 _ _ _ _) (set2_grown _ _ _ _), hw0.grown (set2_grown _ _ _ _) hw0.size (fun k hk => by injection hk with hk; omega)⟩, _, _, l5, false, rfl, hl2⟩

end Go.Proofs.YtpjgoogeokbaaaaGreatDoor
/- The reference: products of whole numbers. -/
namespace Go.Proofs.YtpjgoogeokbaaaaGreatDoor
open Go.RowKit

set_option maxRecDepth 100000 in
set_option maxHeartbeats 8000000 in
theorem tmul_any (A1 : Option Addr) (c1 : Nat) (l1 : List Nat) (m1 : Bool) (z1 : Int) (A2 : Option Addr) (c2 : Nat) (l2 : List Nat) (m2 : Bool) (z2 : Int) (w : World) (h1 : WholeF w A1 c1 l1 m1 z1) (h2 : WholeF w A2 c2 l2 m2 z2) (hk : l1.length + l2.length ≤ 35184372088832) :
    Calls Tryz.prog 98 #[.agg #[.slice A1 l1.length c1, .bool m1], .agg #[.slice A2 l2.length c2, .bool m2]] w fun e w' => WholeR w (z1 * z2) e w' := by
  have hv : (if (m1 != m2) then -((z1.natAbs * z2.natAbs : Nat) : Int) else ((z1.natAbs * z2.natAbs : Nat) : Int)) = z1 * z2 := by
    rw [h1.sign, h2.sign, ← Int.natAbs_mul]
    by_cases a : z1 < 0 <;> by_cases b : z2 < 0
    · have := Int.mul_pos_of_neg_of_neg a b
      simp [a, b]; omega
    · have : z1 * z2 ≤ 0 := Int.mul_nonpos_of_nonpos_of_nonneg (by omega) (by omega)
      simp [a, b]; omega
    · have : z1 * z2 ≤ 0 := Int.mul_nonpos_of_nonneg_of_nonpos (by omega) (by omega)
      simp [a, b]; omega
    · have : 0 ≤ z1 * z2 := Int.mul_nonneg (by omega) (by omega)
      simp [a, b]; omega
  have HT := hide (fun W (hW : Below w.heap.size w W) => ttimes_any A1 A2 c1 c2 l1 l2 z1.natAbs z2.natAbs W (h1.nat.below hW) (h2.nat.below hW) hk)
  obtain ⟨p, hp⟩ : ∃ p, p = z1.natAbs * z2.natAbs := ⟨_, rfl⟩
  obtain ⟨z, hz⟩ : ∃ z, z = z1 * z2 := ⟨_, rfl⟩
  rw [← hp] at HT hv
  rw [← hz] at hv ⊢
  obtain ⟨sg, hsg⟩ : ∃ s, s = (m1 != m2) := ⟨_, rfl⟩
  rw [← hsg] at hv
  have HV := Lib.hid hv
  have SG : (!(m1 == m2)) = sg := hsg.symm
  clear h1 h2 hk hp hz hv hsg
  go_enter Tryz.func98, Tryz.ntmps98
  go_wp2_with fail
  obtain ⟨n0, n1, n2, hsz, hw0⟩ := three_new w (.cells #[.slice A1 l1.length c1, .bool m1] 50) (.cells #[.slice A2 l2.length c2, .bool m2] 50) (.cells #[.slice none 0 0, .bool false] 50)
  generalize (((w.alloc (.cells #[.slice A1 l1.length c1, .bool m1] 50)).alloc (.cells #[.slice A2 l2.length c2, .bool m2] 50)).alloc (.cells #[.slice none 0 0, .bool false] 50)) = W0 at *
  have k0 : W0.cell? ⟨w.heap.size, 0, none⟩ = some (.slice A1 l1.length c1) := cells_of n0 0
  have k1 : W0.cell? ⟨w.heap.size, 1, none⟩ = some (.bool m1) := cells_of n0 1
  have k2 : W0.cell? ⟨w.heap.size + 1, 0, none⟩ = some (.slice A2 l2.length c2) := cells_of n1 0
  have k3 : W0.cell? ⟨w.heap.size + 1, 1, none⟩ = some (.bool m2) := cells_of n1 1
  have q0 : w.heap.size < W0.heap.size := by omega
  have q1 : w.heap.size + 1 < W0.heap.size := by omega
  have q2 : w.heap.size + 1 + 1 < W0.heap.size := by omega
  have r0 : W0.cell? ⟨w.heap.size + 1 + 1, 0, none⟩ = some (.slice none 0 0) := cells_of n2 0
  have r1 : W0.cell? ⟨w.heap.size + 1 + 1, 1, none⟩ = some (.bool false) := cells_of n2 1
  have f0 := unfrozen_of n2 0
  have f1 := unfrozen_of n2 1
  have NR := Lib.hid n2
  clear n0 n1 n2 hsz
  go_region_held3 (fun w' => w'.cell? ⟨w.heap.size, 0, none⟩ = some (.slice A1 l1.length c1) ∧ w'.cell? ⟨w.heap.size, 1, none⟩ = some (.bool m1) ∧ w'.cell? ⟨w.heap.size + 1, 0, none⟩ = some (.slice A2 l2.length c2) ∧ w'.cell? ⟨w.heap.size + 1, 1, none⟩ = some (.bool m2)) ((first | with_reducible exact ⟨k0, k1, k2, k3⟩ | with_reducible exact ⟨(hc _ _ q0).trans k0, (hc _ _ q0).trans k1, (hc _ _ q1).trans k2, (hc _ _ q1).trans k3⟩ | with_reducible exact ⟨(cell_set2 _ _ _ _ (by omega)).trans ((hc _ _ q0).trans k0), (cell_set2 _ _ _ _ (by omega)).trans ((hc _ _ q0).trans k1), (cell_set2 _ _ _ _ (by omega)).trans ((hc _ _ q1).trans k2), (cell_set2 _ _ _ _ (by omega)).trans ((hc _ _ q1).trans k3)⟩ | exact ⟨k0, k1, k2, k3⟩ | exact ⟨(hc _ _ q0).trans k0, (hc _ _ q0).trans k1, (hc _ _ q1).trans k2, (hc _ _ q1).trans k3⟩)) (first | (go_at_call 146; refine ((unhide HT) _ (below_step' hw0 (by (first | with_reducible assumption | (repeat (first | with_reducible exact Below.refl _ _ | with_reducible assumption | refine Below.drew ?_ | (refine Below.alloc ?_ (by simp <;> omega) _))))))).mono ?_; rintro e w' ⟨A5, c5, l5, rfl, hn5, hb⟩; have hbw := below_step (w := W0) (by (first | assumption | (repeat (first | exact Below.refl _ _ | assumption | refine Below.drew ?_ | (refine Below.alloc ?_ (by simp <;> omega) _))))) hb; obtain ⟨hc, hfz⟩ := bcell hbw) | (go_at_call 141; refine (tsigned_any A5 c5 l5 p sg _ (by exact hn5)).mono ?_; rw [HV.out]; rintro e w' ⟨A6, c6, l6, m6, rfl, hf6, hb⟩; have hbw := below_step (w := W0) (by (first | assumption | (repeat (first | exact Below.refl _ _ | assumption | refine Below.drew ?_ | (refine Below.alloc ?_ (by simp <;> omega) _))))) hb; obtain ⟨hc, hfz⟩ := bcell hbw))
  all_goals
    have hblk : w'.heap[w.heap.size + 1 + 1]? = some (.cells #[.slice none 0 0, .bool false] 50 (0, 0)) := (hbw.block _ q2).trans NR.out
    have HBLK := Lib.hid hblk
    have hb9 : Below w.heap.size w w' := below_step' hw0 hbw
    clear hblk
    go_wp2_with fail
    exact bodyPost_ret (v := .agg #[.slice A6 l6.length c6, .bool m6]) (by simp [results, Tryz.results98, go_sem, hc, r0, r1, q2]) rfl
      ⟨A6, c6, l6, m6, rfl, hf6.upto HBLK.out (noW2_2 _ _ _ _) (set2_grown _ _ _ _), hb9.grown (set2_grown _ _ _ _) hb9.size (fun k hk => by injection hk with hk; omega)⟩
end Go.Proofs.YtpjgoogeokbaaaaGreatDoor
/- The reference's quotients: their denominators. -/
namespace Go.Proofs.YtpjgoogeokbaaaaGreatDoor
open Go.RowKit

set_option maxRecDepth 100000 in
set_option maxHeartbeats 1000000 in
theorem tden_any (A1 : Option Addr) (c1 : Nat) (l1 : List Nat) (m1 : Bool) (A2 : Option Addr) (c2 : Nat) (l2 : List Nat) (m2 : Bool) (d : Int) (w : World) (h2 : WholeF w A2 c2 l2 m2 d) (hd : d ≠ 0) :
    Calls Tryz.prog 95 #[.agg #[.slice A1 l1.length c1, .bool m1, .slice A2 l2.length c2, .bool m2]] w fun e w' => e = .returned (.agg #[.slice A2 l2.length c2, .bool m2]) ∧ Below w.heap.size w w' := by
  have hl : ¬ l2.length = 0 := fun e => by have := h2.nat.zero_iff.2 e; omega
  have HI := hide (fun W => tisn_any A2 c2 l2.length m2 W)
  rw [decide_eq_false hl] at HI
  clear h2 hd
  go_enter Tryz.func95, Tryz.ntmps95
  go_wp2_with fail
  obtain ⟨n0, n1, hsz, hw0⟩ := two_new w (.cells #[.slice A1 l1.length c1, .bool m1, .slice A2 l2.length c2, .bool m2] 52) (.cells #[.slice none 0 0, .bool false] 50)
  generalize ((w.alloc (.cells #[.slice A1 l1.length c1, .bool m1, .slice A2 l2.length c2, .bool m2] 52)).alloc (.cells #[.slice none 0 0, .bool false] 50)) = W0 at *
  have k2 : W0.cell? ⟨w.heap.size, 2, none⟩ = some (.slice A2 l2.length c2) := cells_of n0 2
  have k3 : W0.cell? ⟨w.heap.size, 3, none⟩ = some (.bool m2) := cells_of n0 3
  have q0 : w.heap.size < W0.heap.size := by omega
  have q1 : w.heap.size + 1 < W0.heap.size := by omega
  have r0 : W0.cell? ⟨w.heap.size + 1, 0, none⟩ = some (.slice none 0 0) := cells_of n1 0
  have r1 : W0.cell? ⟨w.heap.size + 1, 1, none⟩ = some (.bool false) := cells_of n1 1
  have f0 := unfrozen_of n1 0
  have f1 := unfrozen_of n1 1
  clear n0 n1 hsz
  refine ((unhide HI) _).mono ?_
  rintro e w' ⟨rfl, hb⟩
  obtain ⟨hc, hfz⟩ := bcell hb
  have hb9 : Below w.heap.size w w' := below_step' hw0 hb
  go_wp2_with fail
  exact bodyPost_ret (v := .agg #[.slice A2 l2.length c2, .bool m2]) (by simp [results, Tryz.results95, go_sem, hc, k2, k3, r0, r1, q1]) rfl
    ⟨rfl, hb9.grown (set2_grown _ _ _ _) hb9.size (fun k hk => by injection hk with hk; omega)⟩

/-- What a whole number is as an int. -/
def SmallR (w : World) (z : Int) (e : Ending) (w' : World) : Prop := ∃ (v : Int) (ok : Bool), e = .returned (.tuple #[.int .i64 v, .bool ok]) ∧ ok = decide (-9223372036854775808 ≤ z ∧ z ≤ 9223372036854775807) ∧ (ok = true → v = z) ∧ Below w.heap.size w w'

theorem val_take_one (l : List Nat) (h : 0 < l.length) : Wd.val B32 (l.take 1) = Wd.g l 0 := by
  cases l with
  | nil => simp at h
  | cons a l => simp [Wd.val, Wd.g_def, List.getD]
theorem val_take_two (l : List Nat) (h : 1 < l.length) : Wd.val B32 (l.take 2) = Wd.g l 0 + Wd.g l 1 * 2 ^ 32 := by
  cases l with
  | nil => simp at h
  | cons a l => cases l with
    | nil => simp at h
    | cons b l => simp [Wd.val, Wd.g_def, List.getD, B32_eq]; omega

set_option maxRecDepth 100000 in
set_option maxHeartbeats 1000000 in
theorem tsmall_any (A : Option Addr) (cap : Nat) (l : List Nat) (m : Bool) (z : Int) (w : World) (h : WholeF w A cap l m z) :
    Calls Tryz.prog 108 #[.agg #[.slice A l.length cap, .bool m]] w fun e w' => SmallR w z e w' := by
  have hc1 := h.nat.cap1; have hc2 := h.nat.cap2
  have hba : Below w.heap.size w (w.alloc (.cells #[.slice A l.length cap, .bool m] 50)) := (Below.refl _ _).alloc (Nat.le_refl _) _
  by_cases hl : l.length ≤ 2
  · have d1 : decide ((2 : Int) < (l.length : Int)) = false := decide_eq_false (by omega)
    have hsg := h.sign
    have hn := (h.nat.below hba)
    have hbl := h.nat.lt_pow
    obtain ⟨n0, hsz, hw0⟩ := one_new w (.cells #[.slice A l.length cap, .bool m] 50)
    have HN := hide hn; have HBL := hide hbl; have HSG := Lib.hid hsg; have HW0 := hide hw0
    clear hba hn hbl hsg h hw0
    go_enter Tryz.func108, Tryz.ntmps108
    go_wp2_with fail
    all_goals first | omega | skip
    generalize (w.alloc (.cells #[.slice A l.length cap, .bool m] 50)) = W0 at *
    have k0 : W0.cell? ⟨w.heap.size, 0, none⟩ = some (.slice A l.length cap) := cells_of n0 0
    have k1 : W0.cell? ⟨w.heap.size, 1, none⟩ = some (.bool m) := cells_of n0 1
    clear n0 hsz
    go_loop [4, 5] (fun uv iv => ∃ i : Nat, i ≤ l.length ∧ iv = .int .i64 ((i : Nat) : Int) ∧ uv = .int .u64 ((Wd.val B32 (l.take i) : Nat) : Int)) (fun _ iv => l.length - (intOf iv).toNat)
    case atStart => exact ⟨0, Nat.zero_le _, rfl, rfl⟩
    case round =>
      obtain ⟨i, hi, rfl, rfl⟩ := hrel
      by_cases hlt : i < l.length
      · obtain ⟨b, o, rfl, hbb, hcell⟩ := (unhide HN).ws (by omega)
        have hx := hcell i hlt
        clear hcell
        obtain ⟨x, hxx⟩ : ∃ x, x = Wd.g l i := ⟨_, rfl⟩
        rw [← hxx] at hx
        have hxB : x < B32 := by rw [hxx]; exact Wd.getD_lt (by rw [B32_eq]; omega) _ (unhide HN).lt i
        have e0 : IntKind.u64.wrap (x : Int) = (x : Int) := wrap64_nat rfl (by rw [B32_eq] at hxB; rw [B64_eq]; omega)
        have hi2 : i = 0 ∨ i = 1 := by omega
        rcases hi2 with rfl | rfl
        · have hv : Wd.val B32 (l.take 1) = x := by rw [val_take_one l hlt, hxx]
          have hv0 : Wd.val B32 (l.take 0) = 0 := rfl
          rw [Nat.add_zero] at hx
          rw [hv0]
          have g1 : Go.bits .or .u64 0 (x : Int) = (x : Int) := by
            have := bits_or_u64_nat 0 x (by omega) (by rw [B32_eq] at hxB; omega)
            simpa using this
          have HV := Lib.hid hv
          clear hv hxx hv0
          go_wp2_with fail
          go_round
          case rel => exact ⟨1, by omega, rfl, by rw [HV.out]⟩
          case measure => simp [intOf] <;> omega
        · have hv : Wd.val B32 (l.take 2) = Wd.g l 0 + x * 2 ^ 32 := by rw [val_take_two l hlt, hxx]
          have hv0 : Wd.val B32 (l.take 1) = Wd.g l 0 := val_take_one l (by omega)
          have hyB : Wd.g l 0 < B32 := Wd.getD_lt (by rw [B32_eq]; omega) _ (unhide HN).lt 0
          obtain ⟨y, hyy⟩ : ∃ x, x = Wd.g l 0 := ⟨_, rfl⟩
          rw [← hyy] at hv hv0 hyB
          rw [hv0]
          obtain ⟨p, hp⟩ : ∃ p, p = x * 2 ^ 32 := ⟨_, rfl⟩
          obtain ⟨s, hs⟩ : ∃ s, s = y + p := ⟨_, rfl⟩
          have g0 : IntKind.u64.wrap ((x : Int) * 2 ^ 32) = (p : Int) := wrap64_nat (by rw [hp]; simp) (by rw [hp]; rw [B32_eq] at hxB; rw [B64_eq]; omega)
          have g0' : IntKind.u64.wrap ((x : Int) * 4294967296) = (p : Int) := wrap64_nat (by rw [hp]; simp) (by rw [hp]; rw [B32_eq] at hxB; rw [B64_eq]; omega)
          have g1 : Go.bits .or .u64 (y : Int) (p : Int) = (s : Int) := by
            rw [bits_or_u64_nat y p (by rw [B32_eq] at hyB; omega) (by rw [hp]; rw [B32_eq] at hxB; omega), hs, hp, or_word (by rw [B32_eq] at hyB; omega)]
          rw [← hp, ← hs] at hv
          have HV := Lib.hid hv
          clear hv hxx hv0 hyy hp hs
          go_wp2_with fail
          go_round
          case rel => exact ⟨2, by omega, rfl, by rw [HV.out]⟩
          case measure => simp [intOf] <;> omega
      · have e : i = l.length := by omega
        subst e
        have hv : Wd.val B32 (l.take l.length) = z.natAbs := by rw [List.take_length]; exact (unhide HN).val
        rw [hv]
        obtain ⟨a, ha⟩ : ∃ a, a = z.natAbs := ⟨_, rfl⟩
        have haB : a < B64 := by
          have := unhide HBL
          have h2 : B32 ^ l.length ≤ B32 ^ 2 := Nat.pow_le_pow_right (by rw [B32_eq]; omega) hl
          rw [← ha] at this; rw [B64_eq]; rw [B32_eq] at *; omega
        rw [← ha]
        clear hv hlt
        go_wp2_with fail
        · have hm : m = true := by assumption
          have hz : z < 0 := of_decide_eq_true (HSG.out.symm.trans hm)
          go_ret2
          refine ⟨_, _, rfl, decide_eq_decide.2 (by omega), fun h => ?_, unhide HW0⟩
          have h2 := of_decide_eq_true h
          simp only [wrap64, IntKind.wrap_u64]
          omega
        · have hm : ¬ m = true := by rw [show m = false by assumption]; exact Bool.false_ne_true
          have hz : ¬ z < 0 := fun h => hm (HSG.out.trans (decide_eq_true h))
          go_ret2
          refine ⟨_, _, rfl, decide_eq_decide.2 (by omega), fun h => ?_, unhide HW0⟩
          have h2 := of_decide_eq_true h
          rw [IntWalk.wrap64_in _ (by omega)]
          omega
  · have d1 : decide ((2 : Int) < (l.length : Int)) = true := decide_eq_true (by omega)
    have hnot : ¬ (-9223372036854775808 ≤ z ∧ z ≤ 9223372036854775807) := by
      intro hz
      have := h.nat.len (k := 2) (by rw [B32_eq]; omega)
      omega
    have HNO := hide hnot
    clear h hnot
    go_enter Tryz.func108, Tryz.ntmps108
    go_wp2_with fail
    all_goals first | omega | skip
    go_ret2
    exact ⟨0, false, rfl, (decide_eq_false (unhide HNO)).symm, (fun h => Bool.noConfusion h), hba⟩
end Go.Proofs.YtpjgoogeokbaaaaGreatDoor
/- The reference: which numbers there are. -/
namespace Go.Proofs.YtpjgoogeokbaaaaGreatDoor
open Go.RowKit

end Go.Proofs.YtpjgoogeokbaaaaGreatDoor
/- The reference: the error of two numbers. -/
namespace Go.Proofs.YtpjgoogeokbaaaaGreatDoor
open Go.RowKit

end Go.Proofs.YtpjgoogeokbaaaaGreatDoor
/- The reference: quotients in lowest terms: the memory, and the mathematics. -/
namespace Go.Proofs.YtpjgoogeokbaaaaGreatDoor
open Go.RowKit

/-- A box that holds a whole number of the reference. -/
def BoxW (w : World) (b : Nat) (z : Int) : Prop := ∃ A cap l m, w.heap[b]? = some (.cells #[.slice A (List.length l) cap, .bool m] 50 (0, 0)) ∧ WholeF w A cap l m z
theorem BoxW.below {w w' : World} {b : Nat} {z : Int} (h : BoxW w b z) (hb : Below w.heap.size w w') : BoxW w' b z := by
  obtain ⟨A, cap, l, m, h1, h2⟩ := h
  exact ⟨A, cap, l, m, (hb.block _ (lt_of_block h1)).trans h1, h2.below hb⟩
theorem BoxW.lt {w : World} {b : Nat} {z : Int} (h : BoxW w b z) : b < w.heap.size := by
  obtain ⟨A, cap, l, m, h1, _⟩ := h; exact lt_of_block h1
/-- A number put into a box. -/
theorem BoxW.put {w : World} {b : Nat} {z0 z : Int} {A : Option Addr} {cap : Nat} {l : List Nat} {m : Bool} (h : BoxW w b z0) (hf : WholeF w A cap l m z) :
    BoxW ((w.setCell ⟨b, 0, none⟩ (.slice A l.length cap)).setCell ⟨b, 1, none⟩ (.bool m)) b z := by
  obtain ⟨A0, c0, l0, m0, h1, _⟩ := h
  exact ⟨A, cap, l, m, set2_block h1, hf.upto h1 (noW2_2 _ _ _ _) (set2_grown _ _ _ _)⟩
theorem BoxW.other {w : World} {b b' : Nat} {z z' : Int} (u0 u1 : Value) (h : BoxW w b z) (hb : BoxW w b' z') (hne : b ≠ b') : BoxW ((w.setCell ⟨b', 0, none⟩ u0).setCell ⟨b', 1, none⟩ u1) b z := by
  obtain ⟨A, cap, l, m, h1, h2⟩ := h
  obtain ⟨A0, c0, l0, m0, h3, _⟩ := hb
  have hg := set2_grown w b' u0 u1
  exact ⟨A, cap, l, m, (hg.block b (lt_of_block h1) (fun e => hne (by injection e))).trans h1, h2.upto h3 (noW2_2 _ _ _ _) hg⟩
theorem WholeF.put {w : World} {b : Nat} {z z' : Int} {A : Option Addr} {cap : Nat} {l : List Nat} {m : Bool} (u0 u1 : Value) (hf : WholeF w A cap l m z) (hb : BoxW w b z') : WholeF ((w.setCell ⟨b, 0, none⟩ u0).setCell ⟨b, 1, none⟩ u1) A cap l m z := by
  obtain ⟨A0, c0, l0, m0, h1, _⟩ := hb
  exact hf.upto h1 (noW2_2 _ _ _ _) (set2_grown _ _ _ _)

/-- The two boxes and the result's cells of a quotient in the making. -/
structure RaS (w W : World) (n d : Int) : Prop where
  bn : BoxW W w.heap.size n
  bd : BoxW W (w.heap.size + 1) d
  bq : W.heap[w.heap.size + 1 + 1]? = some (.cells #[.slice none 0 0, .bool false, .slice none 0 0, .bool false] 52 (0, 0))
  hb : Below w.heap.size w W
theorem RaS.below {w W W' : World} {n d : Int} (h : RaS w W n d) (hb : Below W.heap.size W W') : RaS w W' n d :=
  ⟨h.bn.below hb, h.bd.below hb, (hb.block _ (lt_of_block h.bq)).trans h.bq, below_step' h.hb hb⟩
/-- Both boxes filled anew, in the order of the statement. -/
theorem RaS.put {w W : World} {n d n' d' : Int} {A1 : Option Addr} {c1 : Nat} {l1 : List Nat} {m1 : Bool} {A2 : Option Addr} {c2 : Nat} {l2 : List Nat} {m2 : Bool} (h : RaS w W n d) (h1 : WholeF W A1 c1 l1 m1 n') (h2 : WholeF W A2 c2 l2 m2 d') :
    RaS w ((((W.setCell ⟨w.heap.size, 0, none⟩ (.slice A1 l1.length c1)).setCell ⟨w.heap.size, 1, none⟩ (.bool m1)).setCell ⟨w.heap.size + 1, 0, none⟩ (.slice A2 l2.length c2)).setCell ⟨w.heap.size + 1, 1, none⟩ (.bool m2)) n' d' := by
  have a1 := h.bn.put h1
  have a2 := h.bd.other (.slice A1 l1.length c1) (.bool m1) h.bn (by omega)
  have a3 := h2.put (.slice A1 l1.length c1) (.bool m1) h.bn
  have g1 := set2_grown W w.heap.size (.slice A1 l1.length c1) (.bool m1)
  generalize ((W.setCell ⟨w.heap.size, 0, none⟩ (.slice A1 l1.length c1)).setCell ⟨w.heap.size, 1, none⟩ (.bool m1)) = W1 at *
  have b1 := a2.put a3
  have b2 := a1.other (.slice A2 l2.length c2) (.bool m2) a2 (by omega)
  have g2 := set2_grown W1 (w.heap.size + 1) (.slice A2 l2.length c2) (.bool m2)
  have q1 := (g1.block _ (lt_of_block h.bq) (fun e => by injection e with e; omega)).trans h.bq
  exact ⟨b2, b1, (g2.block _ (lt_of_block q1) (fun e => by injection e with e; omega)).trans q1,
    (h.hb.grown g1 h.hb.size (fun k hk => by injection hk with hk; omega)).grown g2 (by have := g1.size; have := h.hb.size; omega) (fun k hk => by injection hk with hk; omega)⟩

theorem RaS.keep {w W : World} {n d : Int} (u0 u1 u2 u3 : Value) {A : Option Addr} {cap : Nat} {l : List Nat} {m : Bool} {z : Int} (h : RaS w W n d) (x : WholeF W A cap l m z) :
    WholeF ((((W.setCell ⟨w.heap.size, 0, none⟩ u0).setCell ⟨w.heap.size, 1, none⟩ u1).setCell ⟨w.heap.size + 1, 0, none⟩ u2).setCell ⟨w.heap.size + 1, 1, none⟩ u3) A cap l m z :=
  (x.put u0 u1 h.bn).put u2 u3 (h.bd.other u0 u1 h.bn (by omega))

/-- What a call hands back: a number of the reference. -/
def QR (w : World) (q : Rat) (e : Ending) (w' : World) : Prop := ∃ A1 c1 l1 m1 A2 c2 l2 m2, e = .returned (.agg #[.slice A1 (List.length l1) c1, .bool m1, .slice A2 (List.length l2) c2, .bool m2]) ∧ WholeF w' A1 c1 l1 m1 q.num ∧ WholeF w' A2 c2 l2 m2 (q.den : Int) ∧ Below w.heap.size w w'

theorem divInt_pos (n d : Int) (hd : 0 < d) : (Rat.divInt n d).num = (if decide (n < 0) = true then -((n.natAbs / (n.natAbs.gcd d.natAbs) : Nat) : Int) else ((n.natAbs / (n.natAbs.gcd d.natAbs) : Nat) : Int)) ∧ ((Rat.divInt n d).den : Int) = ((d.natAbs / (n.natAbs.gcd d.natAbs) : Nat) : Int) := by
  obtain ⟨h1, h2⟩ := Wd.divInt_parts n d (by omega)
  rw [Int.sign_eq_one_of_pos hd, Int.one_mul] at h1 h2
  rw [h1, h2]
  generalize n.natAbs.gcd d.natAbs = g
  constructor
  · by_cases hn : n < 0
    · rw [if_pos (decide_eq_true hn)]
      obtain ⟨k, hk⟩ : ∃ k : Nat, n = -(k : Int) := ⟨n.natAbs, by omega⟩
      subst hk
      rw [Int.neg_tdiv, Int.natAbs_neg, Int.natAbs_natCast, Int.ofNat_tdiv]
    · rw [if_neg (by simpa using hn)]
      obtain ⟨k, hk⟩ : ∃ k : Nat, n = (k : Int) := ⟨n.natAbs, by omega⟩
      subst hk
      rw [Int.natAbs_natCast, Int.ofNat_tdiv]
  · obtain ⟨k, hk⟩ : ∃ k : Nat, d = (k : Int) := ⟨d.natAbs, by omega⟩
    subst hk
    rw [Int.natAbs_natCast, Int.ofNat_tdiv]
theorem divInt_negneg (n d : Int) (hd : d ≠ 0) : Rat.divInt (-n) (-d) = Rat.divInt n d := by
  rw [Rat.divInt_eq_divInt_iff (by omega) hd, Int.neg_mul, Int.mul_neg]
end Go.Proofs.YtpjgoogeokbaaaaGreatDoor
/- The reference's numbers as it keeps them: the number nought without a denominator among them; their denominators. -/
namespace Go.Proofs.YtpjgoogeokbaaaaGreatDoor
open Go.RowKit

/-- A number of the reference: numerator, and denominator or (of an integer) none. -/
structure QV (w : World) (A1 : Option Addr) (c1 : Nat) (l1 : List Nat) (m1 : Bool) (A2 : Option Addr) (c2 : Nat) (l2 : List Nat) (m2 : Bool) (q : Rat) : Prop where
  num : WholeF w A1 c1 l1 m1 q.num
  den : ∃ d : Int, WholeF w A2 c2 l2 m2 d ∧ (d = (q.den : Int) ∨ (d = 0 ∧ q.den = 1))
theorem QV.below {w w' : World} {A1 : Option Addr} {c1 : Nat} {l1 : List Nat} {m1 : Bool} {A2 : Option Addr} {c2 : Nat} {l2 : List Nat} {m2 : Bool} {q : Rat} (h : QV w A1 c1 l1 m1 A2 c2 l2 m2 q) (hb : Below w.heap.size w w') : QV w' A1 c1 l1 m1 A2 c2 l2 m2 q := by
  obtain ⟨d, h2, h3⟩ := h.den
  exact ⟨h.num.below hb, d, h2.below hb, h3⟩
theorem QV.of {w : World} {A1 : Option Addr} {c1 : Nat} {l1 : List Nat} {m1 : Bool} {A2 : Option Addr} {c2 : Nat} {l2 : List Nat} {m2 : Bool} {q : Rat} (h1 : WholeF w A1 c1 l1 m1 q.num) (h2 : WholeF w A2 c2 l2 m2 (q.den : Int)) : QV w A1 c1 l1 m1 A2 c2 l2 m2 q :=
  ⟨h1, _, h2, .inl rfl⟩
theorem WholeF.len {w : World} {A : Option Addr} {cap : Nat} {l : List Nat} {m : Bool} {z : Int} {K : Nat} (h : WholeF w A cap l m z) (hz : z.natAbs < B32 ^ K) : l.length ≤ K := h.nat.len hz

set_option maxRecDepth 100000 in
set_option maxHeartbeats 1000000 in
theorem tone_any (w : World) :
    Calls Tryz.prog 107 #[] w fun e w' => WholeR w 1 e w' := by
  go_enter Tryz.func107, Tryz.ntmps107
  go_wp2_with fail
  obtain ⟨n0, n1, hsz, hw0⟩ := two_new w (.cells #[.slice (some ⟨w.heap.size + 1, 0, none⟩) 1 1, .bool false] 50) (.cells #[.int .u32 1] 136)
  generalize ((w.alloc (.cells #[.slice (some ⟨w.heap.size + 1, 0, none⟩) 1 1, .bool false] 50)).alloc (.cells #[.int .u32 1] 136)) = W0 at *
  have hz : ZB .u32 W0 (w.heap.size + 1) 136 [1] := n1
  have hn : NatT W0 (some ⟨w.heap.size + 1, 0, none⟩) 1 [1] 1 := ⟨hz.ws0 _ hz.lt, by simp, by omega, by intro x hx; rw [List.mem_singleton] at hx; subst hx; exact B32_pos, .inr (by simp), by simp [Wd.val]⟩
  have k0 : W0.cell? ⟨w.heap.size, 0, none⟩ = some (.slice (some ⟨w.heap.size + 1, 0, none⟩) 1 1) := cells_of n0 0
  have k1 : W0.cell? ⟨w.heap.size, 1, none⟩ = some (.bool false) := cells_of n0 1
  exact bodyPost_ret (v := .agg #[.slice (some ⟨w.heap.size + 1, 0, none⟩) 1 1, .bool false]) (by simp [results, Tryz.results107, go_sem, k0, k1]) rfl
    ⟨_, 1, [1], false, rfl, ⟨hn, rfl⟩, hw0⟩

set_option maxRecDepth 100000 in
set_option maxHeartbeats 1000000 in
theorem tdenv_nought (A1 : Option Addr) (c1 : Nat) (l1 : List Nat) (m1 : Bool) (A2 : Option Addr) (c2 : Nat) (l2 : List Nat) (m2 : Bool) (w : World) (h2 : WholeF w A2 c2 l2 m2 0) :
    Calls Tryz.prog 95 #[.agg #[.slice A1 l1.length c1, .bool m1, .slice A2 l2.length c2, .bool m2]] w fun e w' => WholeR w 1 e w' := by
  have hl : l2.length = 0 := h2.nat.zero_iff.1 rfl
  have HI := hide (fun W => tisn_any A2 c2 l2.length m2 W)
  rw [decide_eq_true hl] at HI
  have HO := hide tone_any
  clear h2 hl
  go_enter Tryz.func95, Tryz.ntmps95
  go_wp2_with fail
  obtain ⟨n0, n1, hsz, hw0⟩ := two_new w (.cells #[.slice A1 l1.length c1, .bool m1, .slice A2 l2.length c2, .bool m2] 52) (.cells #[.slice none 0 0, .bool false] 50)
  generalize ((w.alloc (.cells #[.slice A1 l1.length c1, .bool m1, .slice A2 l2.length c2, .bool m2] 52)).alloc (.cells #[.slice none 0 0, .bool false] 50)) = W0 at *
  have q1 : w.heap.size + 1 < W0.heap.size := by omega
  have r0 : W0.cell? ⟨w.heap.size + 1, 0, none⟩ = some (.slice none 0 0) := cells_of n1 0
  have r1 : W0.cell? ⟨w.heap.size + 1, 1, none⟩ = some (.bool false) := cells_of n1 1
  have f0 := unfrozen_of n1 0
  have f1 := unfrozen_of n1 1
  have NR := Lib.hid n1
  clear n0 n1 hsz
  refine ((unhide HI) _).mono ?_
  rintro e W1 ⟨rfl, hb⟩
  have HB := hide hb
  clear hb
  go_wp2_with fail
  refine ((unhide HO) _).mono ?_
  rintro e w' ⟨A5, c5, l5, m5, rfl, hf5, hb2⟩
  have hb := below_step' (unhide HB) hb2
  obtain ⟨hc, hfz⟩ := bcell hb
  have hblk : w'.heap[w.heap.size + 1]? = some (.cells #[.slice none 0 0, .bool false] 50 (0, 0)) := (hb.block _ q1).trans NR.out
  have HBLK := Lib.hid hblk
  have hb9 : Below w.heap.size w w' := below_step' hw0 hb
  clear hblk hb2
  go_wp2_with fail
  exact bodyPost_ret (v := .agg #[.slice A5 l5.length c5, .bool m5]) (by simp [results, Tryz.results95, go_sem, hc, r0, r1, q1]) rfl
    ⟨A5, c5, l5, m5, rfl, hf5.upto HBLK.out (noW2_2 _ _ _ _) (set2_grown _ _ _ _), hb9.grown (set2_grown _ _ _ _) hb9.size (fun k hk => by injection hk with hk; omega)⟩

theorem tdenv_any (A1 : Option Addr) (c1 : Nat) (l1 : List Nat) (m1 : Bool) (A2 : Option Addr) (c2 : Nat) (l2 : List Nat) (m2 : Bool) (q : Rat) (w : World) (h : QV w A1 c1 l1 m1 A2 c2 l2 m2 q) :
    Calls Tryz.prog 95 #[.agg #[.slice A1 l1.length c1, .bool m1, .slice A2 l2.length c2, .bool m2]] w fun e w' => WholeR w (q.den : Int) e w' := by
  obtain ⟨d, h2, rfl | ⟨rfl, h1⟩⟩ := h.den
  · refine (tden_any A1 c1 l1 m1 A2 c2 l2 m2 _ w h2 (by have := q.den_nz; omega)).mono ?_
    rintro e w' ⟨rfl, hb⟩
    exact ⟨A2, c2, l2, m2, rfl, h2.below hb, hb⟩
  · rw [h1]
    exact tdenv_nought A1 c1 l1 m1 A2 c2 l2 m2 w h2
end Go.Proofs.YtpjgoogeokbaaaaGreatDoor
/- The reference: sums and differences of amounts: what a round leaves, and slices that grow within their capacity. -/
namespace Go.Proofs.YtpjgoogeokbaaaaGreatDoor
open Go.RowKit

namespace Wd
/-- Behind i rounds of a sum: the words so far, and what is carried. -/
structure PlusInv (B : Nat) (xl yl l : List Nat) (i c : Nat) : Prop where
  len : l.length = i
  lt : ∀ x ∈ l, x < B
  c1 : c ≤ 1
  eq : Wd.val B l + B ^ i * c = Wd.val B (xl.take i) + Wd.val B (yl.take i)
theorem PlusInv.start (B : Nat) (xl yl : List Nat) : PlusInv B xl yl [] 0 0 := ⟨rfl, by simp, by omega, by simp [val]⟩
theorem lt_snoc' {B : Nat} {l : List Nat} {d : Nat} (h : ∀ x ∈ l, x < B) (hd : d < B) : ∀ x ∈ l ++ [d], x < B := by
  intro t ht
  rw [List.mem_append] at ht
  rcases ht with h1 | h1
  · exact h t h1
  · rw [List.mem_singleton] at h1; subst h1; exact hd
theorem PlusInv.step {B : Nat} {xl yl l : List Nat} {i c x y s : Nat} (hB : 1 < B) (h : PlusInv B xl yl l i c) (hx : x = xl.getD i 0) (hxB : x < B) (hy : y = yl.getD i 0) (hyB : y < B) (hs : s = c + x + y) :
    PlusInv B xl yl (l ++ [s % B]) (i + 1) (s / B) := by
  have hc := h.c1
  refine ⟨by simp [h.len], lt_snoc' h.lt (Nat.mod_lt _ (by omega)), ?_, ?_⟩
  · exact Nat.lt_succ_iff.1 ((Nat.div_lt_iff_lt_mul (by omega)).2 (by omega))
  · rw [val_snoc, h.len, Nat.pow_succ, val_take_succ', val_take_succ', ← hx, ← hy]
    have e := Nat.mod_add_div s B
    have h1 := h.eq
    have e2 : B ^ i * (s % B) + B ^ i * B * (s / B) = B ^ i * c + B ^ i * x + B ^ i * y := by
      rw [Nat.mul_assoc, ← Nat.mul_add, e, hs, Nat.mul_add, Nat.mul_add]
    omega
theorem PlusInv.done {B : Nat} {xl yl l : List Nat} {i c : Nat} (h : PlusInv B xl yl l i c) (hx : xl.length ≤ i) (hy : yl.length ≤ i) : Wd.val B (l ++ [c]) = Wd.val B xl + Wd.val B yl := by
  have h1 := h.eq
  rw [val_take_all _ _ _ hx, val_take_all _ _ _ hy] at h1
  rw [val_snoc, h.len, h1]
/-- Behind i rounds of a difference. -/
structure LessInv (B : Nat) (xl yl l : List Nat) (i b : Nat) : Prop where
  len : l.length = i
  lt : ∀ x ∈ l, x < B
  b1 : b ≤ 1
  eq : Wd.val B l + Wd.val B (yl.take i) = Wd.val B (xl.take i) + B ^ i * b
theorem LessInv.start (B : Nat) (xl yl : List Nat) : LessInv B xl yl [] 0 0 := ⟨rfl, by simp, by omega, by simp [val]⟩
theorem LessInv.step {B : Nat} {xl yl l : List Nat} {i b x y d b' : Nat} (h : LessInv B xl yl l i b) (hx : x = xl.getD i 0) (hy : y = yl.getD i 0) (hd : d < B) (hb : b' ≤ 1) (hs : d + y + b = x + B * b') :
    LessInv B xl yl (l ++ [d]) (i + 1) b' := by
  refine ⟨by simp [h.len], lt_snoc' h.lt hd, hb, ?_⟩
  rw [val_snoc, h.len, Nat.pow_succ, val_take_succ', val_take_succ', ← hx, ← hy]
  have h1 := h.eq
  have e2 : B ^ i * d + B ^ i * y + B ^ i * b = B ^ i * x + B ^ i * B * b' := by
    rw [← Nat.mul_add, ← Nat.mul_add, hs, Nat.mul_add, Nat.mul_assoc]
  omega
theorem LessInv.done {B : Nat} {xl yl l : List Nat} {i b : Nat} (h : LessInv B xl yl l i b) (hx : xl.length = i) (hy : yl.length ≤ i) (hle : Wd.val B yl ≤ Wd.val B xl) : Wd.val B l = Wd.val B xl - Wd.val B yl := by
  have h1 := h.eq
  rw [val_take_all B xl i (by omega), val_take_all B yl i hy] at h1
  have h2 := val_lt l h.lt
  rw [h.len] at h2
  have hb := h.b1
  rcases (show b = 0 ∨ b = 1 by omega) with rfl | rfl
  · omega
  · rw [Nat.mul_one] at h1; omega
end Wd

/-- A slice of the call's own, with room behind it. -/
theorem own_ws {w : World} {base g cap B : Nat} {T : TypeId} {l : List Nat} {n : Nat} (hn : n = l.length) (h : w.ownsRow base T 1 (.slice (some ⟨g, 0, none⟩) n cap) n (wvals .u32 l)) (hB : g < B) :
    Ws .u32 w B (some ⟨g, 0, none⟩) l ∧ l.length ≤ cap ∧ cap ≤ maxLen := by
  subst hn
  obtain ⟨_, ⟨h1, _⟩ | ⟨g', cap', cur, he, hb, hh, hn, hc, hs, ht⟩⟩ := h
  · injection h1 with h2; cases h2
  · injection he with e1 _ e2
    injection e1 with e1; injection e1 with e1
    subst e1 e2
    refine ⟨fun hl => ⟨g, 0, rfl, hB, fun j hj => ?_⟩, hn, hc⟩
    have hj2 : (cur.toList.take (l.length * 1))[j]? = some (.int .u32 ((Wd.g l j : Nat) : Int)) := by
      rw [ht]
      simp [wvals, Wd.g, List.getD, hj]
    rw [List.getElem?_take] at hj2
    simp only [World.cell?, hh, Option.isSome_none, Bool.false_eq_true, if_false]
    rw [if_pos (by omega)] at hj2
    simpa using hj2
theorem own_lt {w : World} {base g cap : Nat} {T : TypeId} {l : List Value} {n : Nat} (h : w.ownsRow base T 1 (.slice (some ⟨g, 0, none⟩) n cap) n l) : g < w.heap.size := by
  obtain ⟨_, ⟨h1, _⟩ | ⟨g', cap', cur, he, hb, hh, hn, hc, hs, ht⟩⟩ := h
  · injection h1 with h2; cases h2
  · injection he with e1 _ e2
    injection e1 with e1; injection e1 with e1
    subst e1
    exact lt_of_block hh
theorem make32cap (n : Nat) (h : n ≤ 35184372088832) (w : World) : (Instr.makeSlice 48 (.int .i64 0) (.int .i64 (n : Int))).run Tryz.prog w =
    .ok (.slice (some ⟨w.heap.size, 0, none⟩) 0 n) (w.alloc (.cells (wcells .u32 (List.replicate n 0)) 136)) := by
  obtain ⟨i0, hi, hz0, hz1, hz2⟩ := info_parts info32
  have hr := run_make (P := Tryz.prog) w 48 136 i0 (.int .u32 0) Tryz.underlying48 hi hz0 .i64 .i64 0 n (by omega) (by omega) (by rw [hz2]; omega) (by omega)
  simp only [Int.toNat_natCast, Int.toNat_zero] at hr
  rw [hr, hz1, madeCells_words]
theorem own_made (w : World) (n : Nat) (h : n ≤ 35184372088832) (T : TypeId) : (w.alloc (.cells (wcells .u32 (List.replicate n 0)) T)).ownsRow w.heap.size T 1 (.slice (some ⟨w.heap.size, 0, none⟩) 0 n) 0 (wvals .u32 []) :=
  ⟨by simp [wvals], .inr ⟨w.heap.size, n, _, rfl, Nat.le_refl _, heap_alloc_new w _, Nat.zero_le _, by unfold maxLen; omega, by simp [wcells], by simp [wvals]⟩⟩
theorem own_snoc {w : World} {base g n C d : Nat} {T : TypeId} {l : List Nat} (h : w.ownsRow base T 1 (.slice (some ⟨g, 0, none⟩) n C) n (wvals .u32 l ++ [.int .u32 (d : Int)])) : w.ownsRow base T 1 (.slice (some ⟨g, 0, none⟩) n C) n (wvals .u32 (l ++ [d])) := by
  simpa [wvals] using h
theorem NatT.of_trim_ws {w : World} {A : Option Addr} {cap : Nat} {zs : List Nat} {k : Nat} (hz : Ws .u32 w w.heap.size A zs) (hlt : ∀ x ∈ zs, x < B32) (ht : Wd.IsTrim zs (zs.take k)) (hk : k ≤ zs.length) (hc : zs.length ≤ cap) (hc2 : cap ≤ 9223372036854775807) :
    NatT w A cap (zs.take k) (Wd.val B32 zs) :=
  ⟨hz.take_ k, by simp; omega, hc2, fun x hx => hlt x (List.mem_of_mem_take hx), ht.norm, ht.val _⟩
theorem one_cell (w : World) (v : Value) (T : TypeId) : ∀ j u, [v][j]? = some u → (w.alloc (.cells #[v] T)).cell? ((⟨w.heap.size, 0, none⟩ : Addr).add j) = some u := by
  intro j u hj
  match j, hj with
  | 0, hj => simp at hj; subst hj; simp [Addr.add]
  | j + 1, hj => simp at hj
theorem one_u32 (d : Nat) : ∀ u ∈ [Value.int .u32 (d : Int)], u.oneCell' = true := by
  intro u hu
  rw [List.mem_singleton] at hu; subst hu; rfl
/-- Behind an append: the words and what lies below. -/
theorem behind_append {w X w1 : World} {n C d : Nat} {l : List Nat} {W0 : Nat} (hW : W0 = w.heap.size) (hb : Below W0 w X) (hlt : W0 ≤ X.heap.size)
    (hown1 : w1.ownsRow W0 136 1 (.slice (some ⟨W0, 0, none⟩) n C) n (wvals .u32 l ++ [.int .u32 ((d : Nat) : Int)])) (hgrow1 : X.grownBy w1 (some W0)) :
    w1.ownsRow W0 136 1 (.slice (some ⟨W0, 0, none⟩) n C) n (wvals .u32 (l ++ [d])) ∧ Below W0 w w1 :=
  ⟨own_snoc hown1, hb.grown hgrow1 hlt (fun k hk => by injection hk with hk; omega)⟩
end Go.Proofs.YtpjgoogeokbaaaaGreatDoor
/- The reference: sums and differences of amounts: the walks. -/
namespace Go.Proofs.YtpjgoogeokbaaaaGreatDoor
open Go.RowKit

set_option maxRecDepth 100000 in
set_option maxHeartbeats 2000000 in
theorem tplus_any (Ax Ay : Option Addr) (cx cy : Nat) (xl yl : List Nat) (n m : Nat) (w : World) (hx : NatT w Ax cx xl n) (hy : NatT w Ay cy yl m) (hk : xl.length + 1 ≤ 35184372088832) (hk2 : yl.length + 1 ≤ 35184372088832) :
    Calls Tryz.prog 143 #[.slice Ax xl.length cx, .slice Ay yl.length cy] w fun e w' => NatU w (n + m) e w' := by
  obtain ⟨M, hM⟩ : ∃ M, M = max xl.length yl.length := ⟨_, rfl⟩
  have hMx : xl.length ≤ M := by omega
  have hMy : yl.length ≤ M := by omega
  have hMd : M = xl.length ∨ M = yl.length := by omega
  have hM2 : M + 1 ≤ 35184372088832 := by omega
  have e0 : max (xl.length : Int) (yl.length : Int) = (M : Int) := by omega
  have hmk := make32cap (M + 1) hM2
  have hmade := own_made w (M + 1) hM2 136
  obtain ⟨C, hC⟩ : ∃ C, C = M + 1 := ⟨_, rfl⟩
  have hmade' : (w.alloc (.cells (wcells .u32 (List.replicate (M + 1) 0)) 136)).ownsRow w.heap.size 136 1 (.slice (some ⟨w.heap.size, 0, none⟩) 0 C) 0 (wvals .u32 []) := by rw [hC]; exact hmade
  have hmk' : ∀ W : World, (Instr.makeSlice 48 (.int .i64 0) (.int .i64 ((M : Int) + 1))).run Tryz.prog W = .ok (.slice (some ⟨W.heap.size, 0, none⟩) 0 C) (W.alloc (.cells (wcells .u32 (List.replicate (M + 1) 0)) 136)) := by
    intro W; rw [hC]; have := hmk W; simp only [Int.natCast_add, Int.cast_ofNat_Int] at this; exact this
  have HC := Lib.hid hC
  clear hmk hmade hC
  obtain ⟨i0, hi0, hz0, hz1, hz2⟩ := info_parts info32
  have hx1 := hx.cap1; have hx2 := hx.cap2; have hy1 := hy.cap1; have hy2 := hy.cap2
  clear hM
  go_enter Tryz.func143, Tryz.ntmps143
  go_wp2_with fail
  go_loopw [5, 6, 7] (fun ov cv iv wr => ∃ (i c : Nat) (l : List Nat), i ≤ M ∧ ov = .slice (some ⟨w.heap.size, 0, none⟩) i C ∧ cv = .int .u64 ((c : Nat) : Int) ∧ iv = .int .i64 ((i : Nat) : Int) ∧ Hid (Wd.PlusInv B32 xl yl l i c) ∧ wr.ownsRow w.heap.size 136 1 (.slice (some ⟨w.heap.size, 0, none⟩) i C) i (wvals .u32 l) ∧ Below w.heap.size w wr) (fun _ _ iv _ => M - (intOf iv).toNat)
  case atStart => exact ⟨0, 0, [], Nat.zero_le _, rfl, rfl, rfl, Wd.PlusInv.start _ _ _, hmade', (Below.refl _ _).alloc (Nat.le_refl _) _⟩
  case round =>
    obtain ⟨i, c, l, hi, rfl, rfl, rfl, HI, hown, hg⟩ := hrel
    have hCi : i + 1 ≤ C := by have := HC.out; omega
    have hcB := HI.out.c1
    have hcB2 : c < B64 := by rw [B64_eq]; omega
    have b64 : ∀ t : Nat, t < B32 → t < B64 := fun t ht => by rw [B32_eq] at ht; rw [B64_eq]; omega
    have hli := HI.out.len
    have hgl := own_lt hown
    obtain ⟨x, hxx⟩ : ∃ x, x = Wd.g xl i := ⟨_, rfl⟩
    obtain ⟨y, hyy⟩ : ∃ y, y = Wd.g yl i := ⟨_, rfl⟩
    have hxB : x < B32 := by rw [hxx]; exact Wd.getD_lt (by rw [B32_eq]; omega) _ hx.lt i
    have hyB : y < B32 := by rw [hyy]; exact Wd.getD_lt (by rw [B32_eq]; omega) _ hy.lt i
    obtain ⟨s1, hs1⟩ : ∃ t, t = c + x := ⟨_, rfl⟩
    obtain ⟨s, hs⟩ : ∃ t, t = s1 + y := ⟨_, rfl⟩
    obtain ⟨d, hd⟩ : ∃ t, t = s % B32 := ⟨_, rfl⟩
    obtain ⟨q, hq⟩ : ∃ t, t = s / B32 := ⟨_, rfl⟩
    have hsB : s < B64 := by rw [B32_eq] at hxB hyB; rw [B64_eq]; omega
    have hs1B : s1 < B64 := by rw [B32_eq] at hxB hyB; rw [B64_eq]; omega
    have e1 : IntKind.u64.wrap (x : Int) = (x : Int) := wrap64_nat rfl (b64 _ hxB)
    have e2 : IntKind.u64.wrap (y : Int) = (y : Int) := wrap64_nat rfl (b64 _ hyB)
    have e3 : IntKind.u64.wrap ((c : Int) + (x : Int)) = (s1 : Int) := wrap64_nat (by rw [hs1]; simp) hs1B
    have e4 : IntKind.u64.wrap ((s1 : Int) + (y : Int)) = (s : Int) := wrap64_nat (by rw [hs]; simp) hsB
    have e5 : IntKind.u32.wrap (s : Int) = (d : Int) := by rw [wrap32_nat, hd]
    have e5' : (s : Int) % 4294967296 = (d : Int) := by rw [hd, B32_eq]; omega
    have e6 : (s : Int) / 4294967296 = (q : Int) := by rw [hq, B32_eq]; omega
    have hst := HI.out.step B32_pos (by rw [← Wd.g_def]; exact hxx) hxB (by rw [← Wd.g_def]; exact hyy) hyB (s := s) (by omega)
    rw [← hd, ← hq] at hst
    have HST := hide hst
    have hcellx : i < xl.length → ∃ b o, Ax = some ⟨b, o, none⟩ ∧ wr.cell? ⟨b, o + i, none⟩ = some (.int .u32 (x : Int)) := fun h => by
      obtain ⟨b, o, rfl, hbb, hc⟩ := hx.ws (by omega)
      exact ⟨b, o, rfl, by rw [hxx]; exact (hg.cell (p := ⟨b, o + i, none⟩) hbb).trans (hc i h)⟩
    have hcelly : i < yl.length → ∃ b o, Ay = some ⟨b, o, none⟩ ∧ wr.cell? ⟨b, o + i, none⟩ = some (.int .u32 (y : Int)) := fun h => by
      obtain ⟨b, o, rfl, hbb, hc⟩ := hy.ws (by omega)
      exact ⟨b, o, rfl, by rw [hyy]; exact (hg.cell (p := ⟨b, o + i, none⟩) hbb).trans (hc i h)⟩
    have hx0 : ¬ i < xl.length → x = 0 := fun h => by rw [hxx]; simp [Wd.g, List.getD, h]
    have hy0 : ¬ i < yl.length → y = 0 := fun h => by rw [hyy]; simp [Wd.g, List.getD, h]
    have hsz := hg.size
    by_cases hlx : i < xl.length
    · by_cases hly : i < yl.length
      · have dx : decide ((i : Int) < (xl.length : Int)) = true := decide_eq_true (by omega)
        have dy : decide ((i : Int) < (yl.length : Int)) = true := decide_eq_true (by omega)
        have dx' : decide (i < xl.length) = true := decide_eq_true (by omega)
        have dy' : decide (i < yl.length) = true := decide_eq_true (by omega)
        obtain ⟨bx, ox, rfl, hxc⟩ := hcellx (by omega)
        obtain ⟨by', oy, rfl, hyc⟩ := hcelly (by omega)
        clear hcellx hcelly hx0 hy0 hxx hyy hs1 hs hd hq hst hxB hyB hsB hs1B hcB2 b64 hmade' hmk' hz0 hz2
        go_wp2_with (first | (at_builtin; refine wpList_append_fits _ rfl _ _ 48 rfl w.heap.size 136 i0 1 Tryz.underlying48 hi0 hz1 w.heap.size _ C (wvals .u32 l) rfl (hown.alloc _) ⟨_, 0, none⟩ 1 1 [.int .u32 ((d : Nat) : Int)] rfl rfl (one_cell _ _ _) (one_u32 _) (by omega) ?_; intro w1 hown1 hgrow1) | fail)
        obtain ⟨r1, r2⟩ := behind_append rfl (hg.alloc hsz _) (by simp <;> omega) hown1 hgrow1
        clear hown1 hgrow1 hown hg
        go_wp2_with fail
        go_roundw
        case rel => exact ⟨i + 1, q, l ++ [d], by omega, rfl, rfl, by go_num, unhide HST, r1, r2⟩
        case measure => simp [intOf] <;> omega
      · have dx : decide ((i : Int) < (xl.length : Int)) = true := decide_eq_true (by omega)
        have dy : decide ((i : Int) < (yl.length : Int)) = false := decide_eq_false (by omega)
        have dx' : decide (i < xl.length) = true := decide_eq_true (by omega)
        have dy' : decide (i < yl.length) = false := decide_eq_false (by omega)
        obtain ⟨bx, ox, rfl, hxc⟩ := hcellx (by omega)
        obtain rfl : s = s1 := by have := hy0 (by omega); omega
        clear hcellx hcelly hx0 hy0 hxx hyy hs1 hs hd hq hst hxB hyB hsB hs1B hcB2 b64 hmade' hmk' hz0 hz2
        go_wp2_with (first | (at_builtin; refine wpList_append_fits _ rfl _ _ 48 rfl w.heap.size 136 i0 1 Tryz.underlying48 hi0 hz1 w.heap.size _ C (wvals .u32 l) rfl (hown.alloc _) ⟨_, 0, none⟩ 1 1 [.int .u32 ((d : Nat) : Int)] rfl rfl (one_cell _ _ _) (one_u32 _) (by omega) ?_; intro w1 hown1 hgrow1) | fail)
        obtain ⟨r1, r2⟩ := behind_append rfl (hg.alloc hsz _) (by simp <;> omega) hown1 hgrow1
        clear hown1 hgrow1 hown hg
        go_wp2_with fail
        go_roundw
        case rel => exact ⟨i + 1, q, l ++ [d], by omega, rfl, rfl, by go_num, unhide HST, r1, r2⟩
        case measure => simp [intOf] <;> omega
    · by_cases hly : i < yl.length
      · have dx : decide ((i : Int) < (xl.length : Int)) = false := decide_eq_false (by omega)
        have dy : decide ((i : Int) < (yl.length : Int)) = true := decide_eq_true (by omega)
        have dx' : decide (i < xl.length) = false := decide_eq_false (by omega)
        have dy' : decide (i < yl.length) = true := decide_eq_true (by omega)
        obtain ⟨by', oy, rfl, hyc⟩ := hcelly (by omega)
        obtain rfl : s1 = c := by have := hx0 (by omega); omega
        clear hcellx hcelly hx0 hy0 hxx hyy hs1 hs hd hq hst hxB hyB hsB hs1B hcB2 b64 hmade' hmk' hz0 hz2
        go_wp2_with (first | (at_builtin; refine wpList_append_fits _ rfl _ _ 48 rfl w.heap.size 136 i0 1 Tryz.underlying48 hi0 hz1 w.heap.size _ C (wvals .u32 l) rfl (hown.alloc _) ⟨_, 0, none⟩ 1 1 [.int .u32 ((d : Nat) : Int)] rfl rfl (one_cell _ _ _) (one_u32 _) (by omega) ?_; intro w1 hown1 hgrow1) | fail)
        obtain ⟨r1, r2⟩ := behind_append rfl (hg.alloc hsz _) (by simp <;> omega) hown1 hgrow1
        clear hown1 hgrow1 hown hg
        go_wp2_with fail
        go_roundw
        case rel => exact ⟨i + 1, q, l ++ [d], by omega, rfl, rfl, by go_num, unhide HST, r1, r2⟩
        case measure => simp [intOf] <;> omega
      · have dx : decide ((i : Int) < (xl.length : Int)) = false := decide_eq_false (by omega)
        have dy : decide ((i : Int) < (yl.length : Int)) = false := decide_eq_false (by omega)
        have dx' : decide (i < xl.length) = false := decide_eq_false (by omega)
        have dy' : decide (i < yl.length) = false := decide_eq_false (by omega)
        have hv := HI.out.done (by omega) (by omega)
        rw [hx.val, hy.val] at hv
        have hcc : IntKind.u32.wrap (c : Int) = (c : Int) := by rw [IntKind.wrap_u32]; omega
        have hcc' : (c : Int) % 4294967296 = (c : Int) := by omega
        have hlt := Wd.lt_snoc' HI.out.lt (show c < B32 by rw [B32_eq]; omega)
        have HV := Lib.hid hv; have HLT := hide hlt
        clear hv hlt hcellx hcelly hx0 hy0 hxx hyy hs1 hs hd hq hst hxB hyB hsB hs1B hcB2 b64 hmade' hmk' hz0 hz2 e1 e2 e3 e4 e5 e5' e6 HST
        go_wp2_with (first | (at_builtin; refine wpList_append_fits _ rfl _ _ 48 rfl w.heap.size 136 i0 1 Tryz.underlying48 hi0 hz1 w.heap.size _ C (wvals .u32 l) rfl (hown.alloc _) ⟨_, 0, none⟩ 1 1 [.int .u32 ((c : Nat) : Int)] rfl rfl (one_cell _ _ _) (one_u32 _) (by omega) ?_; intro w1 hown1 hgrow1) | fail)
        obtain ⟨r1, r2⟩ := behind_append rfl (hg.alloc hsz _) (by simp <;> omega) hown1 hgrow1
        have hlen : i + 1 = (l ++ [c]).length := by simp; omega
        obtain ⟨hws, hcap, hmax⟩ := own_ws hlen r1 (own_lt r1)
        have htr := ttrim_any (some ⟨w.heap.size, 0, none⟩) C (l ++ [c]) w1.heap.size w1 hws hcap (by have := HC.out; omega)
        rw [← hlen] at htr
        have HTR := hide htr; have HWS := hide hws
        clear hown1 hgrow1 hown hg r1 htr hws hcap hmax
        go_wp2_with fail
        refine (unhide HTR).mono ?_
        rintro e w' ⟨⟨k, rfl, ht, hk2⟩, rfl⟩
        dsimp only
        go_wp2_with fail
        go_ret
        have hk3 : k = ((l ++ [c]).take k).length := by rw [List.length_take]; omega
        refine ⟨some ⟨w.heap.size, 0, none⟩, C, (l ++ [c]).take k, ret_slice hk3, ?_, r2⟩
        have := NatT.of_trim_ws (cap := C) (unhide HWS) (unhide HLT) ht (by omega) (by omega) (by have := HC.out; omega)
        rwa [HV.out] at this

end Go.Proofs.YtpjgoogeokbaaaaGreatDoor
