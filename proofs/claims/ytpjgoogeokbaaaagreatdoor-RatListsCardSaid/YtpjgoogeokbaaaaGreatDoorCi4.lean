/- Part 4 of the texts beneath a law of layer 1: RfWalk, RfDivA, RfDivB, RfDivC, RfGcd, NatAdd, Int, Int2. -/
import Derived.Test.YtpjgoogeokbaaaaGreatDoorCi3
/- The reference: the walk through one word of a long quotient. -/
namespace Go.Proofs.YtpjgoogeokbaaaaGreatDoor
open Go.RowKit

set_option maxRecDepth 100000 in
set_option maxHeartbeats 2000000 in
theorem word32_any (b off cap T n : Nat) (us ul vl : List Nat) (Av : Option Addr) (cv : Nat) (B top next : Nat) (w : World)
    (hz : ZB .u32 w b T us) (hoff : off + ul.length ≤ us.length) (hul : ul = (us.drop off).take ul.length) (hcz : ul.length ≤ cap) (hcz' : cap ≤ 9223372036854775807)
    (hv : Ws .u32 w B Av vl) (hB : ∀ bv ov, Av = some ⟨bv, ov, none⟩ → bv ≠ b) (hBw : B ≤ w.heap.size) (hcv : vl.length ≤ cv) (hcv' : cv ≤ 9223372036854775807) (hp : WordPre ul vl n) (htop : top = Wd.g vl (n - 1)) (hnext : next = Wd.g vl (n - 2)) :
    Calls Tryz.prog 170 #[.slice (some ⟨b, off, none⟩) (n + 1) cap, .slice Av n cv, .int .u64 ((top : Nat) : Int), .int .u64 ((next : Nat) : Int)] w fun e w' =>
      ∃ zr q, e = .returned (.int .u32 ((q : Nat) : Int)) ∧ StepT ul vl zr q ∧ q < B32 ∧ ZB .u32 w' b T (win us off zr) ∧ w.grownBy w' (some b) := by
  have hB0 : 0 < B32 := by rw [B32_eq]; omega
  have hn2 := hp.n2; have hvn := hp.lenv; have huv := hp.lenu
  obtain ⟨bv, ov, hA, hbv, hcvv⟩ := hv (by omega)
  subst hA
  have hgw : ∀ i, i < ul.length → Wd.g us (off + i) = Wd.g ul i := fun i hi => by
    have h := win_g us off ul hoff i hi
    rwa [show win us off ul = us by rw [hul]; exact win_self us off _ hoff] at h
  have hu0 := hz.cell (off + n) (by omega)
  have hu1 := hz.cell (off + (n - 1)) (by omega)
  have hu2 := hz.cell (off + (n - 2)) (by omega)
  rw [hgw n (by omega)] at hu0
  rw [hgw (n - 1) (by omega)] at hu1
  rw [hgw (n - 2) (by omega)] at hu2
  obtain ⟨x0, hx0⟩ : ∃ t, t = Wd.g ul n := ⟨_, rfl⟩
  obtain ⟨x1, hx1⟩ : ∃ t, t = Wd.g ul (n - 1) := ⟨_, rfl⟩
  obtain ⟨x2, hx2⟩ : ∃ t, t = Wd.g ul (n - 2) := ⟨_, rfl⟩
  rw [← hx0] at hu0
  rw [← hx1] at hu1
  rw [← hx2] at hu2
  have b0 : x0 < B32 := by rw [hx0]; exact Wd.getD_lt hB0 _ hp.ltu _
  have b1 : x1 < B32 := by rw [hx1]; exact Wd.getD_lt hB0 _ hp.ltu _
  have b2 : x2 < B32 := by rw [hx2]; exact Wd.getD_lt hB0 _ hp.ltu _
  have bt : top < B32 := by rw [htop]; exact Wd.getD_lt hB0 _ hp.ltv _
  have bn : next < B32 := by rw [hnext]; exact Wd.getD_lt hB0 _ hp.ltv _
  obtain ⟨hh, hhh⟩ : ∃ t, t = x0 * B32 := ⟨_, rfl⟩
  obtain ⟨head, hhead⟩ : ∃ t, t = x0 * B32 + x1 := ⟨_, rfl⟩
  obtain ⟨gq, hgq⟩ : ∃ t, t = head / top := ⟨_, rfl⟩
  obtain ⟨q0, hq0⟩ : ∃ t, t = min gq 4294967295 := ⟨_, rfl⟩
  obtain ⟨qt, hqt⟩ : ∃ t, t = q0 * top := ⟨_, rfl⟩
  obtain ⟨r0, hr0⟩ : ∃ t, t = head - qt := ⟨_, rfl⟩
  obtain ⟨Q, hQ⟩ : ∃ t, t = Wd.val B32 ul / Wd.val B32 vl := ⟨_, rfl⟩
  have hst := hp.start (head := head) (top := top) (by rw [hhead, hx0, hx1]; rfl) (by rw [htop]; rfl)
  rw [← hgq, ← hq0, ← hQ, ← hqt, ← hr0] at hst
  have hlow := hp.low
  rw [← hQ, ← Wd.g_def, ← Wd.g_def, ← Wd.g_def, ← Wd.g_def, ← Wd.g_def, ← htop, ← hnext, ← hx0, ← hx1, ← hx2, ← hhead] at hlow
  have hone : ∀ q, q * (top * B32 + next) ≤ head * B32 + x2 → q < B32 → q ≤ Q + 1 := fun q h1 h2 => by
    have := hp.one (q := q) (by rw [← Wd.g_def, ← Wd.g_def, ← Wd.g_def, ← Wd.g_def, ← Wd.g_def, ← htop, ← hnext, ← hx0, ← hx1, ← hx2, ← hhead]; exact h1) h2
    rwa [← hQ] at this
  have ht0 : 0 < top := by rw [htop]; exact Nat.pos_of_ne_zero hp.top
  have b64 : ∀ t : Nat, t < B32 → t < B64 := fun t ht => by rw [B32_eq] at ht; rw [B64_eq]; omega
  have hheadB : head < B64 := by rw [hhead]; rw [B32_eq] at *; rw [B64_eq]; omega
  have e0 : IntKind.u64.wrap (x0 : Int) = (x0 : Int) := wrap64_nat rfl (b64 _ b0)
  have e1 : IntKind.u64.wrap (x1 : Int) = (x1 : Int) := wrap64_nat rfl (b64 _ b1)
  have e2 : IntKind.u64.wrap (x2 : Int) = (x2 : Int) := wrap64_nat rfl (b64 _ b2)
  have e3 : IntKind.u64.wrap ((x0 : Int) * 4294967296) = (hh : Int) := wrap64_nat (by rw [hhh, B32_eq]; simp) (by rw [hhh]; rw [B32_eq] at *; rw [B64_eq]; omega)
  have e4 : Go.bits .or .u64 (hh : Int) (x1 : Int) = (head : Int) := by rw [hhh, or_shl b0 b1, hhead]
  have e5 : (head : Int).tdiv (top : Int) = (gq : Int) := by rw [hgq]; exact (Int.ofNat_tdiv _ _).symm
  have e5w : IntKind.u64.wrap (gq : Int) = (gq : Int) := wrap64_nat rfl (by have := Nat.div_le_self head top; omega)
  have e6 : min (gq : Int) 4294967295 = (q0 : Int) := by rw [hq0]; omega
  have e7 : IntKind.u64.wrap ((q0 : Int) * (top : Int)) = (qt : Int) := wrap64_nat (by rw [hqt]; simp) (by have := hst.2; omega)
  have e8 : IntKind.u64.wrap ((head : Int) - (qt : Int)) = (r0 : Int) := wrap64_nat (by have := hst.2; rw [hr0]; omega) (by rw [hr0]; omega)
  have e9 : ((top : Int) == 0) = false := beq_eq_false_iff_ne.2 (by omega)
  have e9' : ¬ ((top : Int) = 0) := by omega
  have e9'' : ¬ (top = 0) := by omega
  have f1 : IntKind.i64.wrap ((n : Int) - 1) = (n : Int) - 1 := IntWalk.i64_in _ (by omega)
  have f2 : (0 : Int) ≤ (n : Int) - 1 := by omega
  have f3 : ((n : Int) - 1).toNat = n - 1 := by omega
  have f4 : IntKind.i64.wrap ((n : Int) - 2) = (n : Int) - 2 := IntWalk.i64_in _ (by omega)
  have f5 : (0 : Int) ≤ (n : Int) - 2 := by omega
  have f6 : ((n : Int) - 2).toNat = n - 2 := by omega
  have HB2 := hide (And.intro b2 bn)
  have HST := hide hst; have HLOW := hide hlow; have HONE := hide hone; have HQ := Lib.hid hQ; have HP := hide hp
  have HGW := hide hgw; have HZ := hide hz; have HV := hide hv; have HT := hide (And.intro bt hheadB); have HB64 := hide b64
  have HWU := Lib.hid (show win us off ul = us by rw [hul]; exact win_self us off _ hoff)
  have HOFF := hide hoff; have HCV := hide hcvv; have HBB := hide (And.intro (hB bv ov rfl) (Nat.lt_of_lt_of_le hbv hBw))
  have hlen1 : n + 1 ≤ cap := by omega
  have hlen2 : n ≤ cv := by omega
  clear hst hlow hone hQ hp hgw hul hx0 hx1 hx2 b0 b1 b2 bt bn hhh hhead hgq hq0 hqt hr0 ht0 b64 hheadB htop hnext hoff hcz hcv hvn huv hcvv hz hv hB0 hB hbv hBw
  go_enter Tryz.func170, Tryz.ntmps170
  go_wp2_with fail
  go_quiet (fail)
  go_upto_block 0 with (fail)
  go_cut [11] (fun qv wx => ∃ q : Nat, qv = .int .u64 ((q : Nat) : Int) ∧ Hid (Q ≤ q ∧ q ≤ Q + 1 ∧ q < B32) ∧ ∃ t, wx = w.drewN t)
  case first =>
    have HL := HLOW
    go_wp2_with fail
    go_loop [11, 12] (fun qv rv => ∃ q r : Nat, qv = .int .u64 ((q : Nat) : Int) ∧ rv = .int .u64 ((r : Nat) : Int) ∧ Hid (r < B64) ∧ Hid (Wd.WInv B32 top head Q q r)) (fun qv _ => (intOf qv).toNat)
    case atStart => exact ⟨q0, r0, rfl, rfl, show r0 < B64 by have h1 := (unhide HST).1.eq; have h2 := (unhide HT).2; omega, (unhide HST).1⟩
    case round =>
      obtain ⟨q, r, rfl, rfl, hr, HI⟩ := hrel
      by_cases hb : B32 ≤ r
      · have d1 : decide ((r : Int) < 4294967296) = false := decide_eq_false (by rw [B32_eq] at hb; omega)
        have hfits := (unhide HI).fits (unhide HB2).2 (d := x2) (.inl hb)
        have hres : Q ≤ q ∧ q ≤ Q + 1 ∧ q < B32 := ⟨(unhide HI).ge, (unhide HONE) q hfits (unhide HI).lt, (unhide HI).lt⟩
        have HR := hide hres
        clear hfits hres hb
        go_wp2_with fail
        go_meet
        exact ⟨q, rfl, HR, _, rfl⟩
      · have d1 : decide ((r : Int) < 4294967296) = true := decide_eq_true (by rw [B32_eq] at hb; omega)
        have hrB : r < B32 := by omega
        obtain ⟨p, hpp⟩ : ∃ t, t = q * next := ⟨_, rfl⟩
        obtain ⟨rs, hrs⟩ : ∃ t, t = r * B32 := ⟨_, rfl⟩
        obtain ⟨ro, hro⟩ : ∃ t, t = r * B32 + x2 := ⟨_, rfl⟩
        have hpB : p < B64 := by
          have h1 := (unhide HI).lt
          have h2 := (unhide HB2).2
          have h3 : q * next ≤ 4294967295 * 4294967295 := Nat.mul_le_mul (by rw [B32_eq] at h1; omega) (by rw [B32_eq] at h2; omega)
          rw [hpp, B64_eq]; omega
        have g1 : IntKind.u64.wrap ((q : Int) * (next : Int)) = (p : Int) := wrap64_nat (by rw [hpp]; simp) hpB
        have g2 : IntKind.u64.wrap ((r : Int) * 4294967296) = (rs : Int) := wrap64_nat (by rw [hrs, B32_eq]; simp) (by rw [hrs]; rw [B32_eq] at *; rw [B64_eq]; omega)
        have g3 : Go.bits .or .u64 (rs : Int) (x2 : Int) = (ro : Int) := by rw [hrs, or_shl hrB (unhide HB2).1, hro]
        by_cases hlt : ro < p
        · have d2 : decide ((ro : Int) < (p : Int)) = true := decide_eq_true (by omega)
          have d2' : decide (ro < p) = true := decide_eq_true hlt
          obtain ⟨h1, hstep⟩ := (unhide HI).step (unhide HLOW) (by rw [← hro, ← hpp]; exact hlt)
          obtain ⟨q2, hq2⟩ : ∃ t, t = q - 1 := ⟨_, rfl⟩
          obtain ⟨r2, hr2⟩ : ∃ t, t = r + top := ⟨_, rfl⟩
          rw [← hq2, ← hr2] at hstep
          have hr2B : r2 < B64 := by have := (unhide HT).1; rw [hr2]; rw [B32_eq] at *; rw [B64_eq]; omega
          have g4 : IntKind.u64.wrap ((q : Int) - 1) = (q2 : Int) := wrap64_nat (by rw [hq2]; omega) (by have := (unhide HI).lt; rw [hq2]; rw [B32_eq] at this; rw [B64_eq]; omega)
          have g5 : IntKind.u64.wrap ((r : Int) + (top : Int)) = (r2 : Int) := wrap64_nat (by rw [hr2]; simp) hr2B
          have HS := hide hstep; have HR2 := hide hr2B; have HM := hide (show q2 < q by omega)
          clear hstep hr2B hq2 hr2 h1 hlt hpp hrs hro hpB hrB hb
          go_wp2_with fail
          go_round
          case rel => exact ⟨q2, r2, rfl, rfl, HR2, HS⟩
          case measure => have := unhide HM; simp [intOf]; omega
        · have d2 : decide ((ro : Int) < (p : Int)) = false := decide_eq_false (by omega)
          have d2' : decide (ro < p) = false := decide_eq_false hlt
          have hfits := (unhide HI).fits (unhide HB2).2 (d := x2) (.inr (by rw [← hro, ← hpp]; omega))
          have hres : Q ≤ q ∧ q ≤ Q + 1 ∧ q < B32 := ⟨(unhide HI).ge, (unhide HONE) q hfits (unhide HI).lt, (unhide HI).lt⟩
          have HR := hide hres
          clear hfits hres hlt hpp hrs hro hpB hrB hb
          go_wp2_with fail
          go_meet
          exact ⟨q, rfl, HR, _, rfl⟩
  case rest =>
    obtain ⟨q, rfl, HQR, t0, rfl⟩ := hcut
    go_wp2_with fail
    go_loopw [13, 14, 15] (fun bv cv iv wr => ∃ (i c b' : Nat) (zc : List Nat), i ≤ n + 1 ∧ bv = .int .u64 ((b' : Nat) : Int) ∧ cv = .int .u64 ((c : Nat) : Int) ∧ iv = .int .i64 ((i : Nat) : Int) ∧ Hid (Wd.WSub B32 ul vl zc q i c b') ∧ Hid (i = n + 1 → c = 0) ∧ ZB .u32 wr b T (win us off zc) ∧ w.grownBy wr (some b)) (fun _ _ iv _ => n + 1 - (intOf iv).toNat)
    case atStart => exact ⟨0, 0, 0, ul, by omega, rfl, rfl, rfl, Wd.WSub.start _ _ _ (by rw [B32_eq]; omega) (unhide HP).ltu, fun _ => rfl, by rw [HWU.out]; exact (unhide HZ).drewN _, grown_drewN (grown_refl _ _) _⟩
    case round =>
      obtain ⟨i, c, b', zc, hi, rfl, rfl, rfl, HI, HC0, hzr, hgr⟩ := hrel
      have hBB2 : B32 * B32 = B64 := by rw [B32_eq, B64_eq]
      have hzl := (unhide HI).len
      by_cases hle : i ≤ n
      · have d1 : decide ((i : Int) ≤ (n : Int)) = true := decide_eq_true (by omega)
        have d1' : decide (i ≤ n) = true := decide_eq_true hle
        obtain ⟨x, hx⟩ : ∃ t, t = Wd.g ul i := ⟨_, rfl⟩
        have hxc := hzr.cell (off + i) (by rw [win_length _ _ _ (by rw [hzl]; exact unhide HOFF)]; have h1 := (unhide HOFF); have h2 := (unhide HP).lenu; omega)
        rw [win_g us off zc (by rw [hzl]; exact unhide HOFF) i (by rw [hzl, (unhide HP).lenu]; omega), show Wd.g zc i = Wd.g ul i from (unhide HI).same i (Nat.le_refl _), ← hx] at hxc
        have hzf := hzr.frozen (off + i)
        have hxB : x < B32 := by rw [hx]; exact Wd.getD_lt (by rw [B32_eq]; omega) _ (unhide HP).ltu _
        by_cases hin : i < n
        · have d2 : decide ((i : Int) < (n : Int)) = true := decide_eq_true (by omega)
          have d2' : decide (i < n) = true := decide_eq_true hin
          obtain ⟨y, hy⟩ : ∃ t, t = Wd.g vl i := ⟨_, rfl⟩
          have hyc := (World.cell?_of_block (hgr.block bv (unhide HBB).2 (fun e => by injection e with e; exact (unhide HBB).1 e))).trans ((unhide HCV) i (by rw [(unhide HP).lenv]; exact hin))
          rw [← hy] at hyc
          have hyB : y < B32 := by rw [hy]; exact Wd.getD_lt (by rw [B32_eq]; omega) _ (unhide HP).ltv _
          obtain ⟨p, hpp⟩ : ∃ t, t = q * y := ⟨_, rfl⟩
          obtain ⟨t, ht⟩ : ∃ t, t = c + p := ⟨_, rfl⟩
          have htB : t < B32 * B32 := by
            have h1 := Wd.mul_bound (z := 0) (unhide HQR).2.2 hyB (unhide HI).c1 (by rw [B32_eq]; omega)
            rw [ht, hpp]; omega
          have k1 : IntKind.u64.wrap (y : Int) = (y : Int) := wrap64_nat rfl ((unhide HB64) _ hyB)
          have k2 : IntKind.u64.wrap ((q : Int) * (y : Int)) = (p : Int) := wrap64_nat (by rw [hpp]; simp) (by rw [← hBB2]; omega)
          have k3 : IntKind.u64.wrap ((c : Int) + (p : Int)) = (t : Int) := wrap64_nat (by rw [ht]; simp) (by rw [← hBB2]; exact htB)
          obtain ⟨lo, hlo⟩ : ∃ u, u = t % B32 := ⟨_, rfl⟩
          obtain ⟨c2, hc2⟩ : ∃ u, u = t / B32 := ⟨_, rfl⟩
          obtain ⟨s1, hs1⟩ : ∃ u : Nat, (u : Int) = ((x : Int) - (lo : Int)) % 18446744073709551616 := ⟨(((x : Int) - (lo : Int)) % 18446744073709551616).toNat, by omega⟩
          obtain ⟨s2, hs2⟩ : ∃ u : Nat, (u : Int) = ((s1 : Int) - (b' : Int)) % 18446744073709551616 := ⟨(((s1 : Int) - (b' : Int)) % 18446744073709551616).toNat, by omega⟩
          obtain ⟨d, hd⟩ : ∃ u, u = s2 % B32 := ⟨_, rfl⟩
          obtain ⟨b2, hb2⟩ : ∃ u, u = s2 / 9223372036854775808 := ⟨_, rfl⟩
          have hloB : lo < B32 := by rw [hlo]; exact Nat.mod_lt _ (by rw [B32_eq]; omega)
          have hsw := sub_word hxB hloB (unhide HI).b1 hs1 hs2
          rw [← hd, ← hb2] at hsw
          have hnew : Wd.WSub B32 ul vl (zc.set i d) q (i + 1) c2 b2 := by
            rw [hc2]
            refine (unhide HI).step (by rw [(unhide HP).lenu]; omega) (by rw [ht, hpp, hy]; rfl) htB hsw.1 hsw.2.1 ?_
            rw [← hlo, ← Wd.g_def, ← hx]
            exact hsw.2.2
          have m1 : IntKind.u64.wrap (x : Int) = (x : Int) := wrap64_nat rfl ((unhide HB64) _ hxB)
          have m2 : IntKind.u32.wrap (t : Int) = (lo : Int) := by rw [wrap32_nat, hlo]
          have m2' : (t : Int) % 4294967296 = (lo : Int) := by rw [hlo, B32_eq]; omega
          have m3 : IntKind.u64.wrap (lo : Int) = (lo : Int) := wrap64_nat rfl ((unhide HB64) _ hloB)
          have m4 : IntKind.u64.wrap ((x : Int) - (lo : Int)) = (s1 : Int) := by rw [IntKind.wrap_u64, hs1]
          have m5 : IntKind.u64.wrap ((s1 : Int) - (b' : Int)) = (s2 : Int) := by rw [IntKind.wrap_u64, hs2]
          have m6 : IntKind.u32.wrap (s2 : Int) = (d : Int) := by rw [wrap32_nat, hd]
          have m6' : (s2 : Int) % 4294967296 = (d : Int) := by rw [hd, B32_eq]; omega
          have m7 : (s2 : Int) / 9223372036854775808 = (b2 : Int) := by rw [hb2]; omega
          have m8 : (t : Int) / 4294967296 = (c2 : Int) := by rw [hc2, B32_eq]; omega
          have hfin : ∀ W, W = wr.setCell ⟨b, off + i, none⟩ (.int .u32 (d : Int)) → ZB .u32 W b T (win us off (zc.set i d)) ∧ w.grownBy W (some b) := by
            rintro W rfl
            refine ⟨?_, grown_setCell hgr _ _⟩
            rw [← win_set us off zc (by rw [hzl, (unhide HP).lenu]; have := (unhide HOFF); rw [(unhide HP).lenu] at this; exact this) i d (by rw [hzl, (unhide HP).lenu]; omega)]
            exact hzr.set_ _ _
          have HN := hide hnew; have HF := hide hfin
          clear hnew hfin hsw hd hb2 hs1 hs2 hlo hc2 ht htB hloB hxB hx hzl hgr hzr hBB2 hpp hy hyB
          go_wp2_with fail
          go_roundw
          case rel =>
            obtain ⟨r1, r2⟩ := (unhide HF) _ rfl
            exact ⟨i + 1, c2, b2, zc.set i d, by omega, rfl, rfl, by go_num, HN, fun h => by omega, r1, r2⟩
          case measure => simp [intOf]; omega
        · have d2 : decide ((i : Int) < (n : Int)) = false := decide_eq_false (by omega)
          have d2' : decide (i < n) = false := decide_eq_false hin
          replace hin : i = n := by omega
          have hy0 : vl.getD i 0 = 0 := by
            have h := (unhide HP).lenv
            rw [List.getD, List.getElem?_eq_none (by omega)]; rfl
          obtain ⟨t, ht⟩ : ∃ t, t = c := ⟨_, rfl⟩
          have htc : (t : Int) = (c : Int) := by rw [ht]
          have htB : t < B32 * B32 := by
            have h1 := (unhide HI).c1
            have h2 : B32 * 1 ≤ B32 * B32 := Nat.mul_le_mul_left _ (by rw [B32_eq]; omega)
            omega
          obtain ⟨lo, hlo⟩ : ∃ u, u = t % B32 := ⟨_, rfl⟩
          obtain ⟨c2, hc2⟩ : ∃ u, u = t / B32 := ⟨_, rfl⟩
          obtain ⟨s1, hs1⟩ : ∃ u : Nat, (u : Int) = ((x : Int) - (lo : Int)) % 18446744073709551616 := ⟨(((x : Int) - (lo : Int)) % 18446744073709551616).toNat, by omega⟩
          obtain ⟨s2, hs2⟩ : ∃ u : Nat, (u : Int) = ((s1 : Int) - (b' : Int)) % 18446744073709551616 := ⟨(((s1 : Int) - (b' : Int)) % 18446744073709551616).toNat, by omega⟩
          obtain ⟨d, hd⟩ : ∃ u, u = s2 % B32 := ⟨_, rfl⟩
          obtain ⟨b2, hb2⟩ : ∃ u, u = s2 / 9223372036854775808 := ⟨_, rfl⟩
          have hloB : lo < B32 := by rw [hlo]; exact Nat.mod_lt _ (by rw [B32_eq]; omega)
          have hsw := sub_word hxB hloB (unhide HI).b1 hs1 hs2
          rw [← hd, ← hb2] at hsw
          have hnew : Wd.WSub B32 ul vl (zc.set i d) q (i + 1) c2 b2 := by
            rw [hc2]
            refine (unhide HI).step (by rw [(unhide HP).lenu]; omega) (by rw [ht, hy0, Nat.mul_zero, Nat.add_zero]) htB hsw.1 hsw.2.1 ?_
            rw [← hlo, ← Wd.g_def, ← hx]
            exact hsw.2.2
          have m1 : IntKind.u64.wrap (x : Int) = (x : Int) := wrap64_nat rfl ((unhide HB64) _ hxB)
          have m2 : IntKind.u32.wrap (t : Int) = (lo : Int) := by rw [wrap32_nat, hlo]
          have m2' : (t : Int) % 4294967296 = (lo : Int) := by rw [hlo, B32_eq]; omega
          have m3 : IntKind.u64.wrap (lo : Int) = (lo : Int) := wrap64_nat rfl ((unhide HB64) _ hloB)
          have m4 : IntKind.u64.wrap ((x : Int) - (lo : Int)) = (s1 : Int) := by rw [IntKind.wrap_u64, hs1]
          have m5 : IntKind.u64.wrap ((s1 : Int) - (b' : Int)) = (s2 : Int) := by rw [IntKind.wrap_u64, hs2]
          have m6 : IntKind.u32.wrap (s2 : Int) = (d : Int) := by rw [wrap32_nat, hd]
          have m6' : (s2 : Int) % 4294967296 = (d : Int) := by rw [hd, B32_eq]; omega
          have m7 : (s2 : Int) / 9223372036854775808 = (b2 : Int) := by rw [hb2]; omega
          have m8 : (t : Int) / 4294967296 = (c2 : Int) := by rw [hc2, B32_eq]; omega
          have hfin : ∀ W, W = wr.setCell ⟨b, off + i, none⟩ (.int .u32 (d : Int)) → ZB .u32 W b T (win us off (zc.set i d)) ∧ w.grownBy W (some b) := by
            rintro W rfl
            refine ⟨?_, grown_setCell hgr _ _⟩
            rw [← win_set us off zc (by rw [hzl, (unhide HP).lenu]; have := (unhide HOFF); rw [(unhide HP).lenu] at this; exact this) i d (by rw [hzl, (unhide HP).lenu]; omega)]
            exact hzr.set_ _ _
          have HC2 := Lib.hid (show c2 = 0 by rw [hc2, ht]; exact Nat.div_eq_of_lt (unhide HI).c1)
          have HN := hide hnew; have HF := hide hfin
          clear hnew hfin hsw hd hb2 hs1 hs2 hlo hc2 htB hloB hxB hx hzl hgr hzr hBB2
          have HIN := Lib.hid hin
          subst ht
          clear hin hy0 htc
          go_wp2_with fail
          go_roundw
          case rel =>
            obtain ⟨r1, r2⟩ := (unhide HF) _ rfl
            exact ⟨i + 1, c2, b2, zc.set i d, by have := HIN.out; omega, rfl, rfl, by go_num, HN, fun _ => HC2.out, r1, r2⟩
          case measure => have := HIN.out; simp [intOf]; omega
      · have d1 : decide ((i : Int) ≤ (n : Int)) = false := decide_eq_false (by omega)
        have d1' : decide (i ≤ n) = false := decide_eq_false hle
        have e : i = n + 1 := by omega
        subst e
        clear hle
        have hc0 := (unhide HC0) rfl
        subst hc0
        have hqB := (unhide HQR).2.2
        have j1 : (q : Int) % 4294967296 = (q : Int) := by rw [B32_eq] at hqB; omega
        have j2 : IntKind.u32.wrap (q : Int) = (q : Int) := by rw [IntKind.wrap_u32]; exact j1
        have hdone : Wd.val B32 zc + q * Wd.val B32 vl = Wd.val B32 ul + B32 ^ (n + 1) * b' := by
          have h1 := (unhide HP).lenu
          have h2 := unhide HI
          rw [← h1] at h2 ⊢
          exact h2.done (by rw [h1, (unhide HP).lenv]; omega)
        have hV0 : 0 < Wd.val B32 vl := by
          rcases Nat.eq_zero_or_pos (Wd.val B32 vl) with h | h
          · have := (unhide HP).pre; rw [h] at this; omega
          · exact h
        have hdm := Nat.div_add_mod (Wd.val B32 ul) (Wd.val B32 vl)
        rw [← HQ.out, Nat.mul_comm] at hdm
        have hml := Nat.mod_lt (Wd.val B32 ul) hV0
        have hzlt := Wd.val_lt zc (unhide HI).lt
        rw [hzl, (unhide HP).lenu] at hzlt
        rcases (show b' = 0 ∨ b' = 1 by have := (unhide HI).b1; omega) with rfl | rfl
        · have hqQ : q = Q := by
            have h1 := (unhide HQR).1
            have h2 := (unhide HQR).2.1
            rcases (show q = Q ∨ q = Q + 1 by omega) with h | h
            · exact h
            · rw [h, Nat.add_mul, Nat.one_mul] at hdone; omega
          have hok : StepT ul vl zc q := ⟨hzl, (unhide HI).lt, hqQ.trans HQ.out, by rw [hqQ] at hdone; omega⟩
          have HOK := hide hok
          clear hok hqQ hdone hV0 hdm hml hzlt hBB2 hqB
          go_wp2_with fail
          go_ret
          exact ⟨zc, q, rfl, unhide HOK, (unhide HQR).2.2, hzr, hgr⟩
        · have hqQ : q = Q + 1 := by
            have h1 := (unhide HQR).1
            have h2 := (unhide HQR).2.1
            rcases (show q = Q ∨ q = Q + 1 by omega) with h | h
            · rw [h] at hdone; omega
            · exact h
          have hOF2 : off + (n + 1) ≤ us.length := by have := unhide HOFF; rwa [(unhide HP).lenu] at this
          have HOF2 := hide hOF2
          have HZL := Lib.hid (hzl.trans (unhide HP).lenu)
          have HQQ := Lib.hid hqQ
          have HDN := Lib.hid hdone
          have HDM := hide (And.intro hdm (And.intro hml hzlt))
          have j3 : IntKind.u64.wrap ((q : Int) - 1) = (Q : Int) := wrap64_nat (by rw [hqQ]; omega) (by rw [B32_eq] at hqB; rw [B64_eq]; omega)
          have j4 : (Q : Int) % 4294967296 = (Q : Int) := by rw [B32_eq] at hqB; omega
          have j5 : IntKind.u32.wrap (Q : Int) = (Q : Int) := by rw [IntKind.wrap_u32]; exact j4
          have HQB := hide (show Q < B32 by omega)
          have HZC := hide (unhide HI).lt
          clear hdone hV0 hdm hml hzlt hBB2 hqB hOF2 hqQ
          go_wp2_with fail
          go_loopw [14, 17] (fun cv iv wr => ∃ (i c : Nat) (zd : List Nat), i ≤ n + 1 ∧ cv = .int .u64 ((c : Nat) : Int) ∧ iv = .int .i64 ((i : Nat) : Int) ∧ Hid (Wd.AddInv B32 zc vl zd i c) ∧ ZB .u32 wr b T (win us off zd) ∧ w.grownBy wr (some b)) (fun _ iv _ => n + 1 - (intOf iv).toNat)
          case atStart => exact ⟨0, 0, zc, by omega, rfl, rfl, Wd.AddInv.start _ _ (unhide HZC), hzr, hgr⟩
          case round =>
            clear hzr hgr
            obtain ⟨i, c, zd, hi, rfl, rfl, HA, hzr, hgr⟩ := hrel
            have hzdl := (unhide HA).len.trans HZL.out
            by_cases hle : i ≤ n
            · have d1 : decide ((i : Int) ≤ (n : Int)) = true := decide_eq_true (by omega)
              have d1' : decide (i ≤ n) = true := decide_eq_true hle
              obtain ⟨x, hx⟩ : ∃ t, t = Wd.g zc i := ⟨_, rfl⟩
              have hxc := hzr.cell (off + i) (by rw [win_length _ _ _ (by rw [hzdl]; exact unhide HOF2)]; have h1 := (unhide HOF2); omega)
              rw [win_g us off zd (by rw [hzdl]; exact unhide HOF2) i (by rw [hzdl]; omega), show Wd.g zd i = Wd.g zc i from (unhide HA).same i (Nat.le_refl _), ← hx] at hxc
              have hzf := hzr.frozen (off + i)
              have hxB : x < B32 := by rw [hx]; exact Wd.getD_lt (by rw [B32_eq]; omega) _ (unhide HZC) _
              by_cases hin : i < n
              · have d2 : decide ((i : Int) < (n : Int)) = true := decide_eq_true (by omega)
                have d2' : decide (i < n) = true := decide_eq_true hin
                obtain ⟨y, hy⟩ : ∃ t, t = Wd.g vl i := ⟨_, rfl⟩
                have hyc := (World.cell?_of_block (hgr.block bv (unhide HBB).2 (fun e => by injection e with e; exact (unhide HBB).1 e))).trans ((unhide HCV) i (by rw [(unhide HP).lenv]; exact hin))
                rw [← hy] at hyc
                have hyB : y < B32 := by rw [hy]; exact Wd.getD_lt (by rw [B32_eq]; omega) _ (unhide HP).ltv _
                obtain ⟨s, hs⟩ : ∃ u, u = c + x := ⟨_, rfl⟩
                obtain ⟨t, ht⟩ : ∃ u, u = s + y := ⟨_, rfl⟩
                have hcB := (unhide HA).c1
                have k1 : IntKind.u64.wrap (y : Int) = (y : Int) := wrap64_nat rfl ((unhide HB64) _ hyB)
                have k2 : IntKind.u64.wrap ((c : Int) + (x : Int)) = (s : Int) := wrap64_nat (by rw [hs]; simp) (by rw [hs]; rw [B32_eq] at *; rw [B64_eq]; omega)
                have k3 : IntKind.u64.wrap ((s : Int) + (y : Int)) = (t : Int) := wrap64_nat (by rw [ht]; simp) (by rw [ht, hs]; rw [B32_eq] at *; rw [B64_eq]; omega)
                have het : zd.getD i 0 + vl.getD i 0 + c = t := by rw [ht, hs, hx, hy, (unhide HA).same i (Nat.le_refl _)]; show _ + Wd.g vl i + c = c + Wd.g zc i + Wd.g vl i; rw [show zc.getD i 0 = Wd.g zc i from rfl]; omega
                obtain ⟨d, hd⟩ : ∃ u, u = t % B32 := ⟨_, rfl⟩
                obtain ⟨c2, hc2⟩ : ∃ u, u = t / B32 := ⟨_, rfl⟩
                have hnew : Wd.AddInv B32 zc vl (zd.set i d) (i + 1) c2 := by
                  have := (unhide HA).step B32_pos (unhide HP).ltv (by rw [HZL.out]; omega)
                  rw [het] at this
                  rw [hd, hc2]; exact this
                have m1 : IntKind.u64.wrap (x : Int) = (x : Int) := wrap64_nat rfl ((unhide HB64) _ hxB)
                have m2 : IntKind.u32.wrap (t : Int) = (d : Int) := by rw [wrap32_nat, hd]
                have m2' : (t : Int) % 4294967296 = (d : Int) := by rw [hd, B32_eq]; omega
                have m8 : (t : Int) / 4294967296 = (c2 : Int) := by rw [hc2, B32_eq]; omega
                have hfin : ∀ W, W = wr.setCell ⟨b, off + i, none⟩ (.int .u32 (d : Int)) → ZB .u32 W b T (win us off (zd.set i d)) ∧ w.grownBy W (some b) := by
                  rintro W rfl
                  refine ⟨?_, grown_setCell hgr _ _⟩
                  rw [← win_set us off zd (by rw [hzdl]; exact unhide HOF2) i d (by rw [hzdl]; omega)]
                  exact hzr.set_ _ _
                have HN := hide hnew; have HF := hide hfin
                have HIN := Lib.hid hin
                clear hnew hfin het hd hc2 ht hxB hx hzdl hgr hzr hcB hin hs hy hyB
                go_wp2_with fail
                go_roundw
                case rel =>
                  obtain ⟨r1, r2⟩ := (unhide HF) _ rfl
                  exact ⟨i + 1, c2, zd.set i d, by have := HIN.out; omega, rfl, by go_num, HN, r1, r2⟩
                case measure => have := HIN.out; simp [intOf]; omega
              · have d2 : decide ((i : Int) < (n : Int)) = false := decide_eq_false (by omega)
                have d2' : decide (i < n) = false := decide_eq_false hin
                replace hin : i = n := by omega
                have hy0 : vl.getD i 0 = 0 := by
                  have h := (unhide HP).lenv
                  rw [List.getD, List.getElem?_eq_none (by omega)]; rfl
                obtain ⟨t, ht⟩ : ∃ u, u = c + x := ⟨_, rfl⟩
                have hcB := (unhide HA).c1
                have k2 : IntKind.u64.wrap ((c : Int) + (x : Int)) = (t : Int) := wrap64_nat (by rw [ht]; simp) (by rw [ht]; rw [B32_eq] at *; rw [B64_eq]; omega)
                have het : zd.getD i 0 + vl.getD i 0 + c = t := by rw [ht, hx, hy0, (unhide HA).same i (Nat.le_refl _)]; show _ + 0 + c = c + Wd.g zc i; rw [show zc.getD i 0 = Wd.g zc i from rfl]; omega
                obtain ⟨d, hd⟩ : ∃ u, u = t % B32 := ⟨_, rfl⟩
                obtain ⟨c2, hc2⟩ : ∃ u, u = t / B32 := ⟨_, rfl⟩
                have hnew : Wd.AddInv B32 zc vl (zd.set i d) (i + 1) c2 := by
                  have := (unhide HA).step B32_pos (unhide HP).ltv (by rw [HZL.out]; omega)
                  rw [het] at this
                  rw [hd, hc2]; exact this
                have m1 : IntKind.u64.wrap (x : Int) = (x : Int) := wrap64_nat rfl ((unhide HB64) _ hxB)
                have m2 : IntKind.u32.wrap (t : Int) = (d : Int) := by rw [wrap32_nat, hd]
                have m2' : (t : Int) % 4294967296 = (d : Int) := by rw [hd, B32_eq]; omega
                have m8 : (t : Int) / 4294967296 = (c2 : Int) := by rw [hc2, B32_eq]; omega
                have hfin : ∀ W, W = wr.setCell ⟨b, off + i, none⟩ (.int .u32 (d : Int)) → ZB .u32 W b T (win us off (zd.set i d)) ∧ w.grownBy W (some b) := by
                  rintro W rfl
                  refine ⟨?_, grown_setCell hgr _ _⟩
                  rw [← win_set us off zd (by rw [hzdl]; exact unhide HOF2) i d (by rw [hzdl]; omega)]
                  exact hzr.set_ _ _
                have HN := hide hnew; have HF := hide hfin
                have HIN := Lib.hid hin
                clear hnew hfin het hd hc2 ht hxB hx hzdl hgr hzr hcB hin hy0
                go_wp2_with fail
                go_roundw
                case rel =>
                  obtain ⟨r1, r2⟩ := (unhide HF) _ rfl
                  exact ⟨i + 1, c2, zd.set i d, by have := HIN.out; omega, rfl, by go_num, HN, r1, r2⟩
                case measure => have := HIN.out; simp [intOf]; omega
            · have d1 : decide ((i : Int) ≤ (n : Int)) = false := decide_eq_false (by omega)
              have d1' : decide (i ≤ n) = false := decide_eq_false hle
              have e : i = n + 1 := by omega
              subst e
              have hok : StepT ul vl zd Q := by
                have h1 : Wd.val B32 zd + B32 ^ (n + 1) * c = Wd.val B32 zc + Wd.val B32 vl := by
                  have h2 := unhide HA
                  rw [← HZL.out] at h2 ⊢
                  exact h2.done (by rw [HZL.out, (unhide HP).lenv]; omega)
                have h3 := Wd.val_lt zd (unhide HA).lt
                rw [hzdl] at h3
                have h4 := HDN.out
                rw [HQQ.out, Nat.add_mul, Nat.one_mul, Nat.mul_one] at h4
                have h5 := (unhide HDM).1
                have h6 := (unhide HDM).2.2
                have hc := (unhide HA).c1
                refine ⟨(unhide HA).len.trans (HZL.out.trans (unhide HP).lenu.symm), (unhide HA).lt, HQ.out, ?_⟩
                rcases (show c = 0 ∨ c = 1 by omega) with rfl | rfl
                · rw [Nat.mul_zero] at h1; omega
                · rw [Nat.mul_one] at h1; omega
              have HOK := hide hok
              clear hok hle hzdl
              go_wp2_with fail
              go_ret
              exact ⟨zd, Q, rfl, unhide HOK, unhide HQB, hzr, hgr⟩
end Go.Proofs.YtpjgoogeokbaaaaGreatDoor
/- The reference: quotient and rest of two amounts: the short ways. -/
namespace Go.Proofs.YtpjgoogeokbaaaaGreatDoor
open Go.RowKit

/-- What quotient and rest are handed back as. -/
def PartsU (w : World) (q r : Nat) (e : Ending) (w' : World) : Prop :=
  ∃ A cap l A' cap' l', e = .returned (.tuple #[.slice A l.length cap, .slice A' l'.length cap']) ∧ NatT w' A cap l q ∧ NatT w' A' cap' l' r ∧ Below w.heap.size w w'

set_option maxRecDepth 100000 in
set_option maxHeartbeats 1000000 in
theorem parts_small (Ax Ay : Option Addr) (cx cy : Nat) (xl yl : List Nat) (n m : Nat) (w : World) (hx : NatT w Ax cx xl n) (hy : NatT w Ay cy yl m) (hlt : n < m) :
    Calls Tryz.prog 140 #[.slice Ax xl.length cx, .slice Ay yl.length cy] w fun e w' => PartsU w (n / m) (n % m) e w' := by
  have hc := torder_any Ax Ay cx cy xl yl n m w hx hy
  rw [show ord3 n m = -1 by unfold ord3; rw [if_pos hlt]] at hc
  rw [Nat.div_eq_of_lt hlt, Nat.mod_eq_of_lt hlt]
  have HC := hide hc
  have HX := hide hx
  clear hc hx hy hlt
  go_enter Tryz.func140, Tryz.ntmps140
  go_wp2_with fail
  refine (unhide HC).mono ?_
  rintro e w' ⟨rfl, k, rfl⟩
  go_wp2
  go_ret2
  exact ⟨none, 0, [], Ax, cx, xl, rfl, NatT.nil_ _ _ (by omega), (unhide HX).below (belowN (Below.refl _ _) k), belowN (Below.refl _ _) k⟩

set_option maxRecDepth 100000 in
set_option maxHeartbeats 1000000 in
theorem parts_one (Ax Ay : Option Addr) (cx cy : Nat) (xl yl : List Nat) (n m : Nat) (w : World) (hx : NatT w Ax cx xl n) (hy : NatT w Ay cy yl m) (hge : ¬ n < m) (h1 : yl.length = 1) (hk : xl.length ≤ 35184372088832) :
    Calls Tryz.prog 140 #[.slice Ax xl.length cx, .slice Ay yl.length cy] w fun e w' => PartsU w (n / m) (n % m) e w' := by
  have hc := torder_any Ax Ay cx cy xl yl n m w hx hy
  obtain ⟨o, ho⟩ : ∃ o, o = ord3 n m := ⟨_, rfl⟩
  rw [← ho] at hc
  have hd : decide (o < 0) = false := decide_eq_false (by rw [ho]; unfold ord3; rw [if_neg hge]; split <;> omega)
  have HC := hide hc
  have hmk := make32 xl.length hk
  have hx1 := hx.cap1; have hx2 := hx.cap2; have hy1 := hy.cap1; have hy2 := hy.cap2
  obtain ⟨by', oy, hA, hby, hcy⟩ := hy.ws (by omega)
  subst hA
  have hy0 := hcy 0 (by omega)
  have hym : Wd.g yl 0 = m := by rw [one_word B32 yl h1]; exact hy.val
  rw [hym, Nat.add_zero] at hy0
  have hmB : m < B32 := by rw [← hym]; exact Wd.getD_lt (by rw [B32_eq]; omega) _ hy.lt 0
  have hm0 : 0 < m := by
    rcases hy.norm with h | h
    · rw [h] at h1; simp at h1
    · rw [h1] at h; have : Wd.g yl 0 ≠ 0 := h; omega
  have l1 : ((yl.length : Int) == 1) = true := by rw [h1]; rfl
  have e1 : IntKind.u64.wrap (m : Int) = (m : Int) := wrap64_nat rfl (by rw [B32_eq] at hmB; rw [B64_eq]; omega)
  have e9 : ((m : Int) == 0) = false := beq_eq_false_iff_ne.2 (by omega)
  have e9' : ¬ ((m : Int) = 0) := by omega
  have e9'' : ¬ (m = 0) := by omega
  have ylpos : 0 < yl.length := by omega
  have HY0 := hide (And.intro hby hy0)
  have hne1 : ¬ (w.heap.size = by') := by omega
  have hne2 : ¬ (by' = w.heap.size) := by omega
  have HMB := hide hmB; have HM0 := hide hm0
  have HX := hide hx
  clear hc ho hcy hy hym hmB hm0 hge hy0 hby hx h1
  go_enter Tryz.func140, Tryz.ntmps140
  go_wp2_with fail
  refine (unhide HC).mono ?_
  rintro e w' ⟨rfl, k, rfl⟩
  go_wp2_with fail
  go_loopw [7, 8] (fun rv iv wr => ∃ (i : Int) (r : Nat) (qc : List Nat), -1 ≤ i ∧ i < xl.length ∧ iv = .int .i64 i ∧ rv = .int .u64 ((r : Nat) : Int) ∧ Hid (Wd.DivInv B32 xl qc m (i + 1).toNat r) ∧ ZB .u32 wr w.heap.size 136 qc ∧ Below w.heap.size w wr) (fun _ iv _ => (intOf iv + 1).toNat)
  case atStart =>
    refine ⟨(xl.length : Int) - 1, 0, List.replicate xl.length 0, by omega, by omega, by first | rfl | go_num, rfl, ?_, heap_alloc_new (w.drewN k) _, (belowN (Below.refl _ _) k).alloc (Nat.le_refl _) _⟩
    rw [show ((xl.length : Int) - 1 + 1).toNat = xl.length by omega]
    exact Wd.DivInv.start _ _ _ (by simp) (unhide HM0) (zeros_lt (by rw [B32_eq]; omega) _)
  case round =>
    obtain ⟨i, r, qc, hi1, hi2, rfl, rfl, HI, hzr, hg⟩ := hrel
    have hlen := HI.out.len
    by_cases h0 : i < 0
    · have e : i = -1 := by omega
      subst e
      obtain ⟨v1, v2⟩ := HI.out.done
      rw [(unhide HX).val] at v1 v2
      have hrB : r < B32 := Nat.lt_trans HI.out.r1 (unhide HMB)
      have j1 : (r : Int) % 4294967296 = (r : Int) := by rw [B32_eq] at hrB; omega
      have j2 : IntKind.u32.wrap (r : Int) = (r : Int) := by rw [IntKind.wrap_u32]; exact j1
      have V1 := Lib.hid v1; have V2 := Lib.hid v2; have HRB := hide hrB
      clear v1 v2 hrB
      go_wp2_with fail
      have htr := ttrim_any (some ⟨w.heap.size, 0, none⟩) qc.length qc (wr.heap.size) wr (hzr.ws0 _ hzr.lt) (Nat.le_refl _) (by omega)
      rw [hlen] at htr
      refine htr.mono ?_
      rintro e w' ⟨⟨k1, rfl, ht, hk2⟩, hw⟩
      obtain rfl : wr = w' := hw.symm
      clear hw
      go_wp2_with fail
      have hn := heap_alloc_new wr (.cells (wcells .u32 [r]) 136)
      have hzr2 : ZB .u32 (wr.alloc (.cells (wcells .u32 [r]) 136)) wr.heap.size 136 [r] := hn
      have htr2 := ttrim_any (some ⟨wr.heap.size, 0, none⟩) 1 [r] _ _ (hzr2.ws0 _ hzr2.lt) (Nat.le_refl _) (by omega)
      refine htr2.mono ?_
      rintro e w' ⟨⟨k3, rfl, ht2, hk3⟩, hw⟩
      subst hw
      go_wp2_with fail
      go_ret2
      have hk4 : k1 = (qc.take k1).length := by simp; omega
      have hk5 : k3 = ([r].take k3).length := by rw [List.length_take]; omega
      have q1 := NatT.of_trim (cap := xl.length) hzr HI.out.lt ht (by omega) (by omega) (by omega)
      rw [V1.out] at q1
      have q2 := NatT.of_trim (cap := 1) hzr2 (by simpa using unhide HRB) ht2 hk3 (by simp) (by omega)
      rw [show Wd.val B32 [r] = n % m by rw [← V2.out]; simp [Wd.val]] at q2
      exact ⟨some ⟨w.heap.size, 0, none⟩, xl.length, qc.take k1, some ⟨wr.heap.size, 0, none⟩, 1, [r].take k3, ret_slices hk4 hk5, q1.below ((Below.refl _ _).alloc (Nat.le_refl _) _), q2, hg.alloc hg.size _⟩
    · obtain ⟨j, rfl⟩ := Int.eq_ofNat_of_zero_le (show 0 ≤ i by omega)
      have hjx : j < xl.length := by omega
      obtain ⟨bx, ox, rfl, hbx, hcx⟩ := (unhide HX).ws (by omega)
      have hxc := (hg.cell (p := ⟨bx, ox + j, none⟩) hbx).trans (hcx j hjx)
      have hyc := (hg.cell (p := ⟨by', oy, none⟩) (unhide HY0).1).trans (unhide HY0).2
      clear hcx
      have hzc := hzr.cell j (by omega)
      have hzf := hzr.frozen j
      obtain ⟨xj, hxj⟩ : ∃ t, t = Wd.g xl j := ⟨_, rfl⟩
      rw [← hxj] at hxc
      have hxB : xj < B32 := by rw [hxj]; exact Wd.getD_lt (by rw [B32_eq]; omega) _ (unhide HX).lt _
      have hinv : Wd.DivInv B32 xl qc m (j + 1) r := by have := HI.out; rwa [show ((j : Int) + 1).toNat = j + 1 by omega] at this
      have hrB : r < B32 := Nat.lt_trans hinv.r1 (unhide HMB)
      obtain ⟨rs, hrs⟩ : ∃ t, t = r * B32 := ⟨_, rfl⟩
      obtain ⟨X, hX⟩ : ∃ t, t = r * B32 + xj := ⟨_, rfl⟩
      obtain ⟨q, hq⟩ : ∃ t, t = (r * B32 + xj) / m := ⟨_, rfl⟩
      obtain ⟨s, hs⟩ : ∃ t, t = (r * B32 + xj) % m := ⟨_, rfl⟩
      have hXB : X < B64 := by rw [hX]; rw [B32_eq] at *; rw [B64_eq]; omega
      have hqB : q < B32 := by
        rw [hq, Nat.div_lt_iff_lt_mul (unhide HM0)]
        have h1 : (r + 1) * B32 ≤ m * B32 := Nat.mul_le_mul_right _ hinv.r1
        rw [Nat.add_mul, Nat.one_mul] at h1
        rw [Nat.mul_comm B32]; omega
      have hsm : s < m := by rw [hs]; exact Nat.mod_lt _ (unhide HM0)
      have b64 : ∀ t : Nat, t < B32 → t < B64 := fun t ht => by rw [B32_eq] at ht; rw [B64_eq]; omega
      have g1 : IntKind.u64.wrap ((r : Int) * 4294967296) = (rs : Int) := wrap64_nat (by rw [hrs, B32_eq]; simp) (by omega)
      have g2 : Go.bits .or .u64 (rs : Int) (xj : Int) = (X : Int) := by rw [hrs, or_shl hrB hxB, hX]
      have g3 : IntKind.u64.wrap (xj : Int) = (xj : Int) := wrap64_nat rfl (b64 _ hxB)
      have g4 : (X : Int).tdiv (m : Int) = (q : Int) := by rw [hq, hX]; exact (Int.ofNat_tdiv _ _).symm
      have g5 : (X : Int).tmod (m : Int) = (s : Int) := by rw [hs, hX]; exact (Int.ofNat_tmod _ _).symm
      have g6 : IntKind.u64.wrap (q : Int) = (q : Int) := wrap64_nat rfl (b64 _ hqB)
      have g7 : IntKind.u64.wrap (s : Int) = (s : Int) := wrap64_nat rfl (b64 _ (Nat.lt_trans hsm (unhide HMB)))
      have g8 : (q : Int) % 4294967296 = (q : Int) := by rw [B32_eq] at hqB; omega
      have g9 : IntKind.u32.wrap (q : Int) = (q : Int) := by rw [IntKind.wrap_u32]; exact g8
      have g10 : IntKind.u64.wrap (X : Int) = (X : Int) := wrap64_nat rfl hXB
      have hfin : ∀ W, W = wr.setCell ⟨w.heap.size, j, none⟩ (.int .u32 (q : Int)) → Hid (Wd.DivInv B32 xl (qc.set j q) m j s) ∧ ZB .u32 W w.heap.size 136 (qc.set j q) ∧ Below w.heap.size w W := by
        rintro W rfl
        refine ⟨?_, hzr.set_ _ _, hg.setCell (p := ⟨w.heap.size, j, none⟩) (Nat.le_refl _) _⟩
        rw [hq, hs, hxj]
        exact hinv.step hjx (by rw [← Wd.g_def, ← hxj]; exact hxB)
      have HF := hide hfin
      clear hfin hq hs hxj hxB hinv hzr hg HI hX hrs hXB hqB hsm b64 hrB
      go_wp2_with fail
      go_roundw
      case rel =>
        obtain ⟨r1, r2, r3⟩ := (unhide HF) _ rfl
        exact ⟨(j : Int) - 1, s, qc.set j q, by omega, by omega, by go_num, rfl, by rw [show ((j : Int) - 1 + 1).toNat = j by omega]; exact r1, r2, r3⟩
      case measure => simp [intOf] <;> omega
end Go.Proofs.YtpjgoogeokbaaaaGreatDoor
/- The reference: quotient and rest of two amounts: the long way. -/
namespace Go.Proofs.YtpjgoogeokbaaaaGreatDoor
open Go.RowKit

theorem lz_spec32 (y : Nat) (hy : y < B32) (h0 : 0 < y) (w : World) : ∃ s : Nat, s < 32 ∧ 2147483648 ≤ y * 2 ^ s ∧ y * 2 ^ s < B32 ∧
    ∀ w : World, Calls Tryz.prog 168 #[.int .u32 ((y : Nat) : Int)] w fun e w' => e = .returned (.int .i64 ((s : Nat) : Int)) ∧ w' = w := by
  obtain ⟨h1, h2⟩ := bitLenAux_spec 64 y (by rw [B32_eq] at hy; omega)
  have h3 := (h2 (by omega)).1
  change y < 2 ^ Lib.bitLen y at h1
  change 2 ^ (Lib.bitLen y - 1) ≤ y at h3
  have hle := Lib.bitLen_le y 32 (by omega) (by rw [B32_eq] at hy; omega)
  have hpos : 0 < Lib.bitLen y := by
    apply Classical.byContradiction
    intro h
    rw [show Lib.bitLen y = 0 by omega] at h1
    simp at h1; omega
  have e1 : 2 ^ (Lib.bitLen y - 1) * 2 ^ (32 - Lib.bitLen y) = 2147483648 := by
    rw [← Nat.pow_add, show Lib.bitLen y - 1 + (32 - Lib.bitLen y) = 31 by omega]
  have e2 : 2 ^ Lib.bitLen y * 2 ^ (32 - Lib.bitLen y) = B32 := by
    rw [← Nat.pow_add, show Lib.bitLen y + (32 - Lib.bitLen y) = 32 by omega]; rfl
  refine ⟨32 - Lib.bitLen y, by omega, ?_, ?_, fun w => ?_⟩
  · rw [← e1]; exact Nat.mul_le_mul_right _ h3
  · rw [← e2]; exact Nat.mul_lt_mul_of_pos_right h1 (Nat.pow_pos (by omega))
  · refine (Tryz.bits_LeadingZeros32 (y : Int) w (by omega) (by rw [B32_eq] at hy; omega)).mono ?_
    rintro e w' ⟨rfl, rfl⟩
    refine ⟨ret_int ?_, rfl⟩
    rw [Int.toNat_natCast]; omega

/-- What the shift of the divisor's top word does to the whole. -/
theorem shift_bounds32 (yl : List Nat) (m s : Nat) (hs64 : s ≤ 32) (hn : 1 ≤ yl.length) (hlt : ∀ x ∈ yl, x < B32) (hv : Wd.val B32 yl = m) (hs1 : yl.getD (yl.length - 1) 0 * 2 ^ s < B32) (ht : yl.getD (yl.length - 1) 0 ≠ 0) :
    B32 ^ (yl.length - 1) * 2 ^ s ≤ m * 2 ^ s ∧ m * 2 ^ s < B32 ^ yl.length := by
  have h2 := Wd.val_take_succ B32 yl (yl.length - 1) (by omega)
  rw [show yl.length - 1 + 1 = yl.length by omega, Wd.val_take_all _ _ _ (Nat.le_refl _), hv] at h2
  have h3 := Wd.val_lt (B := B32) (yl.take (yl.length - 1)) (fun x hx => hlt x (List.mem_of_mem_take hx))
  rw [List.length_take, Nat.min_eq_left (by omega)] at h3
  have e : B32 ^ yl.length = B32 ^ (yl.length - 1) * B32 := by rw [← Nat.pow_succ, show (yl.length - 1).succ = yl.length by omega]
  rw [e]
  generalize hP : B32 ^ (yl.length - 1) = P at *
  generalize yl.getD (yl.length - 1) 0 = t at *
  have hS : 0 < 2 ^ s := Nat.pow_pos (by omega)
  have hsp := pow_split32 s hs64
  generalize 2 ^ s = S at *
  generalize 2 ^ (32 - s) = T at *
  have h6 : t * S + S ≤ B32 := by
    rw [← hsp, Nat.mul_comm S] at hs1 ⊢
    have := Nat.lt_of_mul_lt_mul_right hs1
    have h7 : (t + 1) * S ≤ T * S := Nat.mul_le_mul_right _ this
    rwa [Nat.add_mul, Nat.one_mul] at h7
  constructor
  · refine Nat.mul_le_mul_right _ ?_
    have : P * 1 ≤ P * t := Nat.mul_le_mul_left _ (by omega)
    omega
  · have h4 : m + 1 ≤ P * (t + 1) := by rw [Nat.mul_add, Nat.mul_one]; omega
    have h5 : (m + 1) * S ≤ P * (t + 1) * S := Nat.mul_le_mul_right _ h4
    rw [Nat.add_mul, Nat.one_mul, Nat.mul_assoc, Nat.add_mul, Nat.one_mul] at h5
    have : P * (t * S + S) ≤ P * B32 := Nat.mul_le_mul_left _ h6
    omega

theorem shifted2 (Ax : Option Addr) (cx : Nat) (xl : List Nat) (n s : Nat) (w : World) (hx : NatT w Ax cx xl n) (hs : s < 32) (hk : xl.length + 1 ≤ 35184372088832) :
    Calls Tryz.prog 169 #[.slice Ax xl.length cx, .int .u64 ((s : Nat) : Int)] w fun e w' =>
      ∃ b zr, e = .returned (.slice (some ⟨b, 0, none⟩) (xl.length + 1) (xl.length + 1)) ∧ w.heap.size ≤ b ∧ zr.length = xl.length + 1 ∧ (∀ x ∈ zr, x < B32) ∧ Wd.val B32 zr = n * 2 ^ s ∧ ZB .u32 w' b 136 zr ∧ Below w.heap.size w w' :=
  (shifted_any Ax cx xl n s w hx hs hk).mono fun e w' ⟨zr, h1, h2, h3, h4, h5, h6⟩ => ⟨w.heap.size, zr, h1, Nat.le_refl _, h2, h3, h4, h5, h6⟩
end Go.Proofs.YtpjgoogeokbaaaaGreatDoor
/- The reference: quotient and rest of two amounts: the walk of the long way. -/
namespace Go.Proofs.YtpjgoogeokbaaaaGreatDoor
open Go.RowKit

set_option maxRecDepth 100000 in
set_option maxHeartbeats 2000000 in
theorem parts_long (Ax Ay : Option Addr) (cx cy : Nat) (xl yl : List Nat) (n m : Nat) (w : World) (hx : NatT w Ax cx xl n) (hy : NatT w Ay cy yl m) (hge : ¬ n < m) (hk : xl.length + 1 ≤ 35184372088832) (hk2 : yl.length + 1 ≤ 35184372088832) (hn2 : 2 ≤ yl.length) :
    Calls Tryz.prog 140 #[.slice Ax xl.length cx, .slice Ay yl.length cy] w fun e w' => PartsU w (n / m) (n % m) e w' := by
  have hx1 := hx.cap1; have hx2 := hx.cap2; have hy1 := hy.cap1; have hy2 := hy.cap2
  have hny : yl.length ≤ xl.length := by
    rcases Nat.lt_or_ge xl.length yl.length with h | h
    · exfalso; apply hge; rw [← hx.val, ← hy.val]; exact Wd.val_lt_of_length B32_pos xl yl hx.lt hy.norm h
    · exact h
  have hc := torder_any Ax Ay cx cy xl yl n m w hx hy
  obtain ⟨o3, ho3⟩ : ∃ o, o = ord3 n m := ⟨_, rfl⟩
  rw [← ho3] at hc
  have ho : decide (o3 < 0) = false := decide_eq_false (by rw [ho3]; unfold ord3; rw [if_neg hge]; split <;> omega)
  have HC := hide hc
  have hb1 : ((yl.length : Int) == 1) = false := by simp; omega
  obtain ⟨by', oy, hA, hby, hcy⟩ := hy.ws (by omega)
  subst hA
  have hyt := hcy (yl.length - 1) (by omega)
  obtain ⟨yt, hytt⟩ : ∃ t, t = Wd.g yl (yl.length - 1) := ⟨_, rfl⟩
  rw [← hytt] at hyt
  have hyB : yt < B32 := by rw [hytt]; exact Wd.getD_lt (by rw [B32_eq]; omega) _ hy.lt _
  have hy0 : yt ≠ 0 := by
    rw [hytt]
    rcases hy.norm with h | h
    · rw [h] at hn2; simp at hn2
    · exact h
  have hm : 0 < m := by
    rcases Nat.eq_zero_or_pos m with h | h
    · exfalso
      have h1 := top1 (B := B32) yl yl.length (by omega) rfl
      rw [hy.val, h] at h1
      have h2 : 0 < B32 ^ (yl.length - 1) := Nat.pow_pos (by rw [B32_eq]; omega)
      have h3 := Nat.mul_pos (Nat.pos_of_ne_zero (show yl.getD (yl.length - 1) 0 ≠ 0 by rw [← Wd.g_def, ← hytt]; exact hy0)) h2
      omega
    · exact h
  obtain ⟨s, hs, hs1, hs2, hlz⟩ := lz_spec32 yt hyB (by omega) w
  obtain ⟨vb1, vb2⟩ := shift_bounds32 yl m s (by omega) (by omega) hy.lt hy.val (by rw [← Wd.g_def, ← hytt]; exact hs2) (by rw [← Wd.g_def, ← hytt]; exact hy0)
  obtain ⟨lq, hlq⟩ : ∃ t, t = xl.length + 1 - yl.length := ⟨_, rfl⟩
  have hlqI : ((lq : Nat) : Int) = (xl.length : Int) + 1 - (yl.length : Int) := by omega
  have hmk := make32 lq (by omega)
  rw [hlqI] at hmk
  have hlq1 : lq + yl.length = xl.length + 1 := by omega
  have es : IntKind.u64.wrap (s : Int) = (s : Int) := wrap64_nat rfl (by rw [B64_eq]; omega)
  have HLZ := hide hlz
  have HLQ := Lib.hid hlqI
  have HYT := Lib.hid hytt
  have HV1 := hide vb1; have HV2 := hide vb2
  clear hlz hytt hcy vb1 vb2 hs1 hs2 hlqI hlq hc ho3 hge
  go_enter Tryz.func140, Tryz.ntmps140
  go_wp2_with fail
  refine (unhide HC).mono ?_
  rintro e w' ⟨rfl, k, rfl⟩
  go_wp2_with fail
  refine ((unhide HLZ) _).mono ?_
  rintro e w1 ⟨rfl, hw1⟩
  have hb1w : Below w.heap.size w w1 := by rw [hw1]; exact belowN (Below.refl _ _) k
  clear hw1
  go_wp2_with fail
  refine (shifted2 Ax cx xl n s w1 (hx.below hb1w) hs hk).mono ?_
  rintro e w2 ⟨bu, uz, rfl, hbu, hul, hult, huv, huz, hb2⟩
  have hy2w := (hy.below hb1w).below hb2
  have HUL := Lib.hid hul
  have HUV := Lib.hid huv
  clear hul huv
  go_wp2_with fail
  refine (shifted2 _ cy yl m s w2 hy2w hs hk2).mono ?_
  rintro e w4 ⟨bv, vz, rfl, hbv, hvl, hvlt, hvv, hvz, hb3⟩
  have HVL := Lib.hid hvl; have HVV := Lib.hid hvv
  have hbuv : bu < bv := Nat.lt_of_lt_of_le huz.lt hbv
  replace huz := huz.below hb3 huz.lt
  clear hvl hvv
  go_wp2_with fail
  have htr := ttrim_any (some ⟨bv, 0, none⟩) vz.length vz w4.heap.size w4 (hvz.ws0 _ hvz.lt) (Nat.le_refl _) (by have := HVL.out; omega)
  rw [HVL.out] at htr
  refine htr.mono ?_
  rintro e w3 ⟨⟨kv, rfl, ht, hkv⟩, hw3⟩
  obtain rfl : w4 = w3 := hw3.symm
  clear hw3
  have hvn : (vz.take kv).length = yl.length := by
    refine norm_len_eq B32_pos _ ht.norm (fun x hx => hvlt x (List.mem_of_mem_take hx)) _ (by omega) ?_ ?_
    · rw [ht.val, HVV.out]; exact Nat.le_trans (Nat.le_mul_of_pos_right _ (Nat.pow_pos (by omega))) (unhide HV1)
    · rw [ht.val, HVV.out]; exact unhide HV2
  have hkv2 : kv = yl.length := by have := HVL.out; rw [List.length_take] at hvn; omega
  subst hkv2
  have HT := hide ht; have HVN := Lib.hid hvn
  have hbw4 : Below w.heap.size w w4 := hb1w.trans ((hb2.mono hb1w.size).trans (hb3.mono (Nat.le_trans hb1w.size hb2.size)))
  clear ht hvn
  obtain ⟨V, hV⟩ : ∃ t, t = m * 2 ^ s := ⟨_, rfl⟩
  have hvval : Wd.val B32 (vz.take yl.length) = V := by rw [(unhide HT).val, HVV.out, hV]
  have hVlt : V < B32 ^ yl.length := by rw [hV]; exact unhide HV2
  have hV0 : 0 < V := by rw [hV]; exact Nat.mul_pos hm (Nat.pow_pos (by omega))
  have htop : Wd.val B32 uz < V * B32 ^ lq := by
    rw [HUV.out, hV]
    have h1 := Wd.val_lt xl hx.lt
    rw [hx.val] at h1
    have h2 := unhide HV1
    have h3 : B32 ^ (yl.length - 1) * B32 ^ lq = B32 ^ xl.length := by rw [← Nat.pow_add, show yl.length - 1 + lq = xl.length by omega]
    have h4 : B32 ^ (yl.length - 1) * 2 ^ s * B32 ^ lq ≤ m * 2 ^ s * B32 ^ lq := Nat.mul_le_mul_right _ h2
    have h5 : n * 2 ^ s < B32 ^ xl.length * 2 ^ s := Nat.mul_lt_mul_of_pos_right h1 (Nat.pow_pos (by omega))
    have h6 : B32 ^ (yl.length - 1) * 2 ^ s * B32 ^ lq = B32 ^ xl.length * 2 ^ s := by
      rw [← h3]; simp only [Nat.mul_comm, Nat.mul_left_comm, Nat.mul_assoc]
    omega
  have hstart : Wd.LongInv B32 V uz uz (List.replicate lq 0) lq := Wd.LongInv.start _ _ _ hult (zeros_lt (by rw [B32_eq]; omega) _) (by simp) htop
  have hvws : Ws .u32 w4 (bv + 1) (some ⟨bv, 0, none⟩) (vz.take yl.length) := (hvz.ws0 _ (Nat.lt_succ_self _)).take_ _
  have hgt : ∀ i, i < yl.length → Wd.g vz i = Wd.g (vz.take yl.length) i := fun i hi => by rw [Wd.g_def, Wd.g_def, Wd.getD_take _ _ _ hi]
  have hvt := hvz.cell (yl.length - 1) (by have := HVL.out; omega)
  have hvt2 := hvz.cell (yl.length - 2) (by have := HVL.out; omega)
  rw [hgt _ (by omega)] at hvt hvt2
  obtain ⟨top, htp⟩ : ∃ t, t = Wd.g (vz.take yl.length) (yl.length - 1) := ⟨_, rfl⟩
  obtain ⟨next, hnx⟩ : ∃ t, t = Wd.g (vz.take yl.length) (yl.length - 2) := ⟨_, rfl⟩
  rw [← htp] at hvt
  rw [← hnx] at hvt2
  have htB : top < B32 := by rw [htp]; exact Wd.getD_lt (by rw [B32_eq]; omega) _ (fun x hx => hvlt x (List.mem_of_mem_take hx)) _
  have hnB : next < B32 := by rw [hnx]; exact Wd.getD_lt (by rw [B32_eq]; omega) _ (fun x hx => hvlt x (List.mem_of_mem_take hx)) _
  have et : IntKind.u64.wrap (top : Int) = (top : Int) := wrap64_nat rfl (by rw [B32_eq] at htB; rw [B64_eq]; omega)
  have en : IntKind.u64.wrap (next : Int) = (next : Int) := wrap64_nat rfl (by rw [B32_eq] at hnB; rw [B64_eq]; omega)
  have hv4 : bv < w4.heap.size := hvz.lt
  have hu4 : bu < w4.heap.size := huz.lt
  have f1 : IntKind.i64.wrap ((yl.length : Int) - 1) = (yl.length : Int) - 1 := IntWalk.i64_in _ (by omega)
  have f2 : (0 : Int) ≤ (yl.length : Int) - 1 := by omega
  have f3 : ((yl.length : Int) - 1).toNat = yl.length - 1 := by omega
  have f4 : IntKind.i64.wrap ((yl.length : Int) - 2) = (yl.length : Int) - 2 := IntWalk.i64_in _ (by omega)
  have f5 : (0 : Int) ≤ (yl.length : Int) - 2 := by omega
  have f6 : ((yl.length : Int) - 2).toNat = yl.length - 2 := by omega
  have i1 : ¬ (bv = w4.heap.size) := by omega
  have i2 : ¬ (w4.heap.size = bv) := by omega
  have HVALS := Lib.hid hvval; have HVLT := hide hVlt; have HV0 := hide hV0; have HVV2 := Lib.hid hV; have HST := hide hstart
  have HTP := Lib.hid htp; have HNX := Lib.hid hnx; have HB12 := hide (And.intro hv4 hu4)
  have hlq0 : 0 < lq := by omega
  clear hvval hVlt hV hstart htop hyt hy0 htp hnx hgt htB hnB
  go_wp2_with fail
  go_quiet (fail)
  go_wp2_with fail
  go_loopw [16] (fun iv wr => ∃ (i : Int) (us qs : List Nat), -1 ≤ i ∧ i < lq ∧ iv = .int .i64 i ∧ Hid (Wd.LongInv B32 V uz us qs (i + 1).toNat) ∧ Hid (qs.length = lq) ∧ ZB .u32 wr bu 136 us ∧ ZB .u32 wr w4.heap.size 136 qs ∧ Ws .u32 wr (bv + 1) (some ⟨bv, 0, none⟩) (vz.take yl.length) ∧ Below w.heap.size w wr ∧ w4.heap.size < wr.heap.size) (fun iv _ => (intOf iv + 1).toNat)
  case atStart =>
    refine ⟨(lq : Int) - 1, uz, List.replicate lq 0, by omega, by omega, rfl, ?_, by show _ = _; simp, (huz.alloc _).drewN _, ZB.drewN (heap_alloc_new w4 _) _, (hvws.alloc (by omega) _).drewN _, belowN (hbw4.alloc hbw4.size _) _, by show w4.heap.size < (w4.alloc _).heap.size; simp⟩
    rw [show ((lq : Int) - 1 + 1).toNat = lq by omega]
    exact HST
  case round =>
    clear huz hvz hvws hvt hvt2
    obtain ⟨i, us, qs, hi1, hi2, rfl, HI, HQL, huzr, hqz, hvr, hbr, hszr⟩ := hrel
    obtain ⟨wo, rfl⟩ : ∃ wo : World, wo = wr := ⟨_, rfl⟩
    by_cases h0 : i < 0
    · have e : i = -1 := by omega
      subst e
      obtain ⟨v1, v2⟩ := HI.out.done
      have hS : 0 < 2 ^ s := Nat.pow_pos (by omega)
      obtain ⟨sd1, sd2⟩ := Wd.scaled_div (N := n) (Y := m) (S := 2 ^ s) hS
      rw [HUV.out, HVV2.out] at v1 v2
      rw [sd1] at v1
      have v3 : Wd.val B32 us / 2 ^ s = n % m := by rw [v2]; exact sd2
      have V1 := Lib.hid v1; have V3 := Lib.hid v3
      have husl : us.length = xl.length + 1 := HI.out.lenu.trans HUL.out
      have HLT1 := hide HI.out.lt; have HLT2 := hide HI.out.ltq
      have htr2 := ttrim_any (some ⟨bu, 0, none⟩) us.length us wo.heap.size wo (huzr.ws0 _ huzr.lt) (Nat.le_refl _) (by omega)
      rw [husl] at htr2
      have T2 := hide htr2
      have HUSL := Lib.hid husl
      clear v1 v2 sd1 sd2 v3 htr2 husl HI hvr
      go_wp2_with fail
      refine (unhide T2).mono ?_
      rintro e w6 ⟨⟨k2, rfl, ht2, hk2'⟩, hw6⟩
      obtain rfl : wo = w6 := hw6.symm
      clear hw6
      obtain ⟨rl, hrl⟩ : ∃ l, l = us.take k2 := ⟨_, rfl⟩
      have hrlen : rl.length = k2 := by rw [hrl, List.length_take]; have := HUSL.out; omega
      have hrv : Wd.val B32 rl = Wd.val B32 us := by rw [hrl]; exact ht2.val _
      have hrlt : ∀ x ∈ rl, x < B32 := fun x hx => (unhide HLT1) x (by rw [hrl] at hx; exact List.mem_of_mem_take hx)
      have hwin : win us 0 rl = us := by
        have := win_self us 0 k2 (by have := HUSL.out; omega)
        rw [List.drop_zero, ← hrl] at this
        exact this
      have hk2u : k2 ≤ us.length := by rw [HUSL.out]; exact hk2'
      have HRV := Lib.hid hrv; have HRLT := hide hrlt; have HWIN := Lib.hid hwin; have HRLEN := Lib.hid hrlen
      have hk2x : k2 ≤ xl.length + 1 := by have := HUSL.out; omega
      have HQZ := hide hqz
      clear hrv hrlt hwin hrlen hrl ht2 hk2' T2
      go_wp2_with fail
      go_loopw [18] (fun iv wr => ∃ (i : Nat) (zc : List Nat), i ≤ k2 ∧ iv = .int .i64 ((i : Nat) : Int) ∧ Hid (Wd.ShrInv B32 (2 ^ s) rl zc i) ∧ Hid (∀ j, i ≤ j → zc.getD j 0 = rl.getD j 0) ∧ ZB .u32 wr bu 136 (win us 0 zc) ∧ Hid (ZB .u32 wr w4.heap.size 136 qs) ∧ Below w.heap.size w wr) (fun iv _ => k2 - (intOf iv).toNat)
      case atStart => exact ⟨0, rl, Nat.zero_le _, rfl, Wd.ShrInv.start _ _ rfl (unhide HRLT), fun _ _ => rfl, by rw [HWIN.out]; exact huzr, HQZ, hbr⟩
      case round =>
        clear huzr hqz HQZ hbr
        obtain ⟨i, zc, hi, rfl, HI, HSM, hzr, HQZ, hbr⟩ := hrel
        have hzl : zc.length = k2 := HI.out.len.trans HRLEN.out
        by_cases hlt : i < k2
        · have gz : ∀ t, t < k2 → Wd.g (win us 0 zc) t = Wd.g zc t := fun t ht => by
            have := win_g us 0 zc (by omega) t (by omega)
            rwa [Nat.zero_add] at this
          obtain ⟨x, hx'⟩ : ∃ t, t = Wd.g rl i := ⟨_, rfl⟩
          have hxc := hzr.cell i (by rw [win_length _ _ _ (by omega)]; omega)
          rw [gz i hlt, show Wd.g zc i = Wd.g rl i from HSM.out i (Nat.le_refl _), ← hx'] at hxc
          have hzf := hzr.frozen i
          have hxB : x < B32 := by rw [hx']; exact Wd.getD_lt (by rw [B32_eq]; omega) _ (unhide HRLT) _
          obtain ⟨v, hv⟩ : ∃ t, t = x / 2 ^ s := ⟨_, rfl⟩
          have hvB : v < B32 := Nat.lt_of_le_of_lt (by rw [hv]; exact Nat.div_le_self _ _) hxB
          have m1 : (x : Int) / 2 ^ s = (v : Int) := by rw [hv]; simp
          have m1' : (x : Int) / 2 ^ (min s 32) = (v : Int) := by rw [Nat.min_eq_left (by omega)]; exact m1
          have hset : ∀ (W : World) (y : Nat), ZB .u32 W bu 136 (win us 0 zc) → ZB .u32 (W.setCell ⟨bu, i, none⟩ (.int .u32 (y : Int))) bu 136 (win us 0 (zc.set i y)) := fun W y h => by
            have := win_set us 0 zc (by omega) i y (by omega)
            rw [Nat.zero_add] at this
            rw [← this]
            exact h.set_ _ _
          by_cases hin : i + 1 < k2
          · have d1 : decide ((i : Int) + 1 < (k2 : Int)) = true := decide_eq_true (by omega)
            have d1' : decide (i + 1 < k2) = true := decide_eq_true hin
            obtain ⟨x2, hx2'⟩ : ∃ t, t = Wd.g rl (i + 1) := ⟨_, rfl⟩
            have hxc2 := hzr.cell (i + 1) (by rw [win_length _ _ _ (by omega)]; omega)
            rw [gz (i + 1) hin, show Wd.g zc (i + 1) = Wd.g rl (i + 1) from HSM.out (i + 1) (by omega), ← hx2'] at hxc2
            have hx2B : x2 < B32 := by rw [hx2']; exact Wd.getD_lt (by rw [B32_eq]; omega) _ (unhide HRLT) _
            obtain ⟨p, hpp⟩ : ∃ t, t = x2 * 2 ^ (32 - s) := ⟨_, rfl⟩
            obtain ⟨lo, hlo⟩ : ∃ t, t = p % B32 := ⟨_, rfl⟩
            obtain ⟨v2, hv2⟩ : ∃ t, t = v + lo := ⟨_, rfl⟩
            have hpB : p < B64 := by
              have h1 : 2 ^ (32 - s) ≤ 2 ^ 32 := Nat.pow_le_pow_right (by omega) (by omega)
              have h2 : x2 * 2 ^ (32 - s) ≤ x2 * 2 ^ 32 := Nat.mul_le_mul_left _ h1
              rw [hpp]; rw [B32_eq] at hx2B; rw [B64_eq]; omega
            have hlo2 : lo = x2 % 2 ^ s * 2 ^ (32 - s) := by
              rw [hlo, hpp, ← pow_split32 s (by omega), Nat.mul_mod_mul_right]
            have hvT : v < 2 ^ (32 - s) := by
              rw [hv, Nat.div_lt_iff_lt_mul (Nat.pow_pos (by omega)), Nat.mul_comm, pow_split32 s (by omega)]; exact hxB
            have hloB : lo < B32 := by rw [hlo]; exact Nat.mod_lt _ (by rw [B32_eq]; omega)
            have m2 : IntKind.u64.wrap (x2 : Int) = (x2 : Int) := wrap64_nat rfl (by rw [B32_eq] at hx2B; rw [B64_eq]; omega)
            have m3 : IntKind.u64.wrap (32 - (s : Int)) = ((32 - s : Nat) : Int) := wrap64_nat (by omega) (by rw [B64_eq]; omega)
            have m4 : IntKind.u64.wrap ((x2 : Int) * 2 ^ (32 - s)) = (p : Int) := wrap64_nat (by rw [hpp]; simp) hpB
            have m4' : IntKind.u64.wrap ((x2 : Int) * 2 ^ (min (32 - s) 64)) = (p : Int) := by rw [Nat.min_eq_left (by omega)]; exact m4
            have m5 : (p : Int) % 4294967296 = (lo : Int) := by rw [hlo, B32_eq]; omega
            have m6 : IntKind.u32.wrap (p : Int) = (lo : Int) := by rw [wrap32_nat, hlo]
            have m7 : Go.bits .or .u32 (v : Int) (lo : Int) = (v2 : Int) := by rw [bits_or_u32_nat v lo hvB hloB, hv2, hlo2, or_word hvT]
            have hfin : ∀ W, W = (wr.setCell ⟨bu, i, none⟩ (.int .u32 (v : Int))).setCell ⟨bu, i, none⟩ (.int .u32 (v2 : Int)) → Hid (Wd.ShrInv B32 (2 ^ s) rl (zc.set i v2) (i + 1)) ∧ Hid (∀ j, i + 1 ≤ j → (zc.set i v2).getD j 0 = rl.getD j 0) ∧ ZB .u32 W bu 136 (win us 0 (zc.set i v2)) ∧ Hid (ZB .u32 W w4.heap.size 136 qs) ∧ Below w.heap.size w W := by
              rintro W rfl
              have hne : w4.heap.size ≠ bu := by have := (unhide HB12).2; omega
              have hbw : w.heap.size ≤ bu := Nat.le_trans hb1w.size hbu
              refine ⟨?_, fun j hj => ?_, ?_, ?_, ?_⟩
              · have := HI.out.step (pow_split32 s (by omega)) (Nat.pow_pos (by omega)) (by rw [HRLEN.out]; exact hlt) (by rw [← Wd.g_def, ← hx']; exact hxB)
                rw [← Wd.g_def, ← Wd.g_def, ← hx', ← hx2', ← hv, ← hlo2, ← hv2] at this
                exact this
              · simp only [List.getD]
                rw [List.getElem?_set_ne (by omega)]
                exact HSM.out j (by omega)
              · have h1 := hset wr v hzr
                have h2 := win_set us 0 (zc.set i v) (by rw [List.length_set]; omega) i v2 (by rw [List.length_set]; omega)
                rw [Nat.zero_add, List.set_set] at h2
                rw [← h2]
                exact h1.set_ _ _
              · exact (Below.heap_setCell _ _ _ w4.heap.size hne).trans ((Below.heap_setCell _ _ _ w4.heap.size hne).trans (unhide HQZ))
              · exact (hbr.setCell (p := ⟨bu, i, none⟩) hbw _).setCell (p := ⟨bu, i, none⟩) hbw _
            have HF := hide hfin
            have hzr1 := hset wr v hzr
            have hcc1 := hzr1.cell i (by rw [win_length _ _ _ (by rw [List.length_set]; omega)]; omega)
            have hgg1 : Wd.g (win us 0 (zc.set i v)) i = v := by
              have := win_g us 0 (zc.set i v) (by rw [List.length_set]; omega) i (by rw [List.length_set]; omega)
              rw [Nat.zero_add] at this
              rw [this, Wd.g_def, List.getD, List.getElem?_set_self (by omega)]; rfl
            rw [hgg1] at hcc1
            have hzf1 := hzr1.frozen i
            have hcc2 := hzr1.cell (i + 1) (by rw [win_length _ _ _ (by rw [List.length_set]; omega)]; omega)
            have hgg2 : Wd.g (win us 0 (zc.set i v)) (i + 1) = x2 := by
              have := win_g us 0 (zc.set i v) (by rw [List.length_set]; omega) (i + 1) (by rw [List.length_set]; omega)
              rw [Nat.zero_add] at this
              rw [this, Wd.g_def, List.getD, List.getElem?_set_ne (by omega)]
              exact (HSM.out (i + 1) (by omega)).trans hx2'.symm
            rw [hgg2] at hcc2
            clear hset hfin hx' hx2' hv hv2 hlo hlo2 hpp hzr gz hgg1 hgg2 hvT hxB hx2B hvB hloB hpB hbr
            go_wp2_with fail
            have hii : IntKind.i64.wrap ((i : Int) + 1) = (i : Int) + 1 := IntWalk.i64_in _ (by omega)
            have hi1 : (0 : Int) ≤ (i : Int) + 1 := by omega
            have hi2 : ((i : Int) + 1).toNat = i + 1 := by omega
            have hi3 : (i : Int) + 1 < (k2 : Int) := by omega
            go_region
            all_goals
              go_wp2_with fail
              go_roundw
              case rel =>
                obtain ⟨r1, r2, r3, r4, r5⟩ := (unhide HF) _ rfl
                exact ⟨i + 1, _, by omega, by go_num, r1, r2, r3, r4, by first | exact r5 | exact r5.drew⟩
              case measure => simp [intOf] <;> omega
          · have d1 : decide ((i : Int) + 1 < (k2 : Int)) = false := decide_eq_false (by omega)
            have d1' : decide (i + 1 < k2) = false := decide_eq_false hin
            have hfin : ∀ W, W = wr.setCell ⟨bu, i, none⟩ (.int .u32 (v : Int)) → Hid (Wd.ShrInv B32 (2 ^ s) rl (zc.set i v) (i + 1)) ∧ Hid (∀ j, i + 1 ≤ j → (zc.set i v).getD j 0 = rl.getD j 0) ∧ ZB .u32 W bu 136 (win us 0 (zc.set i v)) ∧ Hid (ZB .u32 W w4.heap.size 136 qs) ∧ Below w.heap.size w W := by
              rintro W rfl
              have hne : w4.heap.size ≠ bu := by have := (unhide HB12).2; omega
              have hbw : w.heap.size ≤ bu := Nat.le_trans hb1w.size hbu
              refine ⟨?_, fun j hj => ?_, hset _ _ hzr, ?_, ?_⟩
              · have := HI.out.step (pow_split32 s (by omega)) (Nat.pow_pos (by omega)) (by rw [HRLEN.out]; exact hlt) (by rw [← Wd.g_def, ← hx']; exact hxB)
                have h0 : rl.getD (i + 1) 0 = 0 := by simp only [List.getD]; rw [List.getElem?_eq_none (by rw [HRLEN.out]; omega)]; rfl
                rw [h0, Nat.zero_mod, Nat.zero_mul, Nat.add_zero, ← Wd.g_def, ← hx', ← hv] at this
                exact this
              · simp only [List.getD]
                rw [List.getElem?_set_ne (by omega)]
                exact HSM.out j (by omega)
              · exact (Below.heap_setCell _ _ _ w4.heap.size hne).trans (unhide HQZ)
              · exact hbr.setCell (p := ⟨bu, i, none⟩) hbw _
            have HF := hide hfin
            clear hset hfin hx' hv hzr gz hxB hvB hbr
            go_wp2_with fail
            go_roundw
            case rel =>
              obtain ⟨r1, r2, r3, r4, r5⟩ := (unhide HF) _ rfl
              exact ⟨i + 1, _, by omega, by go_num, r1, r2, r3, r4, r5⟩
            case measure => simp [intOf] <;> omega
        · have e : i = k2 := by omega
          subst e
          have hdn : Wd.val B32 zc = n % m := by
            have h1 := HI.out
            rw [← HRLEN.out] at h1
            rw [h1.done (pow_split32 s (by omega)) (Nat.pow_pos (by omega)), HRV.out, V3.out]
          have hwt : (win us 0 zc).take i = zc := by simp [win, ← hzl]
          have hwz : Ws .u32 wr (bu + 1) (some ⟨bu, 0, none⟩) zc := by
            have := (hzr.ws0 _ (Nat.lt_succ_self _)).take_ i
            rwa [hwt] at this
          have HDN := Lib.hid hdn; have HWZ := hide hwz
          have hzs : bu < wr.heap.size := hzr.lt
          have hlz0 : ∀ x ∈ zc, x < B32 := HI.out.lt
          have HLZ0 := hide hlz0
          have hqz := unhide HQZ
          have htr2 := ttrim_any (some ⟨w4.heap.size, 0, none⟩) qs.length qs wr.heap.size wr (hqz.ws0 _ hqz.lt) (Nat.le_refl _) (by rw [HQL.out]; omega)
          rw [HQL.out] at htr2
          have T3 := hide htr2
          clear hdn hwt hwz hlz0 htr2 hqz hzr
          go_wp2_with fail
          refine (unhide T3).mono ?_
          rintro e w6 ⟨⟨k3, rfl, ht2, hk3⟩, hw6⟩
          obtain rfl : wr = w6 := hw6.symm
          clear hw6
          have q1 := NatT.of_trim (cap := lq) (unhide HQZ) (unhide HLT2) ht2 (by rw [HQL.out]; exact hk3) (by rw [HQL.out]; omega) (by omega)
          rw [V1.out] at q1
          have Q1 := hide q1
          have hk3l : k3 = (qs.take k3).length := by rw [List.length_take, HQL.out]; omega
          have HK3 := Lib.hid hk3l
          clear ht2 q1 T3 hk3l
          have htr4 := ttrim_any (some ⟨bu, 0, none⟩) (xl.length + 1) zc (bu + 1) wr (unhide HWZ) (by omega) (by omega)
          rw [hzl] at htr4
          have T4 := hide htr4
          clear htr4
          go_wp2_with fail
          refine (unhide T4).mono ?_
          rintro e w6 ⟨⟨k4, rfl, ht4, hk4⟩, hw6⟩
          obtain rfl : wr = w6 := hw6.symm
          clear hw6
          have q2 : NatT wr (some ⟨bu, 0, none⟩) (xl.length + 1) (zc.take k4) (n % m) := by
            refine ⟨(((unhide HWZ).take_ k4).more (by omega)), by rw [List.length_take]; omega, by omega, fun x hx => (unhide HLZ0) x (List.mem_of_mem_take hx), ht4.norm, ?_⟩
            rw [ht4.val, HDN.out]
          have Q2 := hide q2
          have hk4l : k4 = (zc.take k4).length := by rw [List.length_take]; omega
          have HK4 := Lib.hid hk4l
          clear ht4 q2 T4 hk4l
          go_wp2_with fail
          go_ret2
          exact ⟨some ⟨w4.heap.size, 0, none⟩, lq, qs.take k3, some ⟨bu, 0, none⟩, xl.length + 1, zc.take k4, ret_slices HK3.out HK4.out, unhide Q1, unhide Q2, hbr⟩
    · obtain ⟨j, rfl⟩ := Int.eq_ofNat_of_zero_le (show 0 ≤ i by omega)
      have hinv : Wd.LongInv B32 V uz us qs (j + 1) := by have := HI.out; rwa [show ((j : Int) + 1).toNat = j + 1 by omega] at this
      have husl : us.length = xl.length + 1 := hinv.lenu.trans HUL.out
      have hql := HQL.out
      have hqc := hqz.cell j (by omega)
      have hqf := hqz.frozen j
      have HINV := hide hinv; have HUSL := Lib.hid husl
      obtain ⟨wd1, wd2, wd3⟩ := hinv.window B32_pos (unhide HVLT)
      have hwl : ((us.drop j).take (yl.length + 1)).length = yl.length + 1 := by rw [List.length_take, List.length_drop]; omega
      have hpre : WordPre ((us.drop j).take (yl.length + 1)) (vz.take yl.length) yl.length := by
        refine ⟨hn2, HVN.out, hwl, fun x hx => hinv.lt x (List.mem_of_mem_drop (List.mem_of_mem_take hx)), fun x hx => hvlt x (List.mem_of_mem_take hx), ?_, by rw [HVALS.out]; exact wd2⟩
        rcases (unhide HT).norm with h | h
        · have := HVN.out; rw [h] at this; simp at this; omega
        · rwa [HVN.out] at h
      have hds := word32_any bu j (xl.length + 1 - j) 136 yl.length us ((us.drop j).take (yl.length + 1)) (vz.take yl.length) (some ⟨bv, 0, none⟩) (yl.length + 1) (bv + 1) top next wo huzr (by omega) (by rw [hwl]) (by omega) (by omega) hvr (fun b o e => by injection e with e; injection e with e; omega) (by have := (unhide HB12).1; omega) (by simp; omega) (by omega) hpre HTP.out HNX.out
      have HDS := hide hds
      clear hds
      have hfin : ∀ (W : World) (zr : List Nat) (q : Nat), StepT ((us.drop j).take (yl.length + 1)) (vz.take yl.length) zr q → Hid (Wd.LongInv B32 V uz (win us j zr) (qs.set j q) j) := fun W zr q hok => by
        have hzl : zr.length = yl.length + 1 := hok.len.trans hwl
        refine hinv.step (n := yl.length) B32_pos (unhide HVLT) (unhide HV0) (by omega) ?_ ?_ ?_ ?_ ?_
        · rw [hok.quo, HVALS.out]
        · have e1 : (win us j zr).drop j = zr ++ us.drop (j + zr.length) := by
            simp only [win, List.append_assoc]
            rw [List.drop_append_of_le_length (by simp; omega), List.drop_of_length_le (by simp; omega), List.nil_append]
          have e2 : Wd.val B32 (us.drop (j + zr.length)) = 0 := by
            have h1 := Wd.val_split B32 (us.drop j) (yl.length + 1)
            rw [wd3, List.drop_drop] at h1
            have h2 : 0 < B32 ^ min (yl.length + 1) (us.drop j).length := Nat.pow_pos (by rw [B32_eq]; omega)
            rw [hzl]
            rcases Nat.eq_zero_or_pos (Wd.val B32 (us.drop (j + (yl.length + 1)))) with h | h
            · exact h
            · have := Nat.mul_pos h2 h; omega
          rw [e1, Wd.val_append, e2, Nat.mul_zero, Nat.add_zero, hok.rem, HVALS.out]
        · rw [win_length _ _ _ (by omega)]
        · intro x hx
          simp only [win, List.append_assoc, List.mem_append] at hx
          rcases hx with h | h | h
          · exact hinv.lt x (List.mem_of_mem_take h)
          · exact hok.lt x h
          · exact hinv.lt x (List.mem_of_mem_drop h)
        · intro t ht
          simp only [win, List.append_assoc, List.getD]
          rw [List.getElem?_append_left (by simp; omega), List.getElem?_take, if_pos ht]
      have HFIN := hide hfin
      clear hinv husl hql HI wd1 wd2 wd3 hfin hpre
      go_wp2_with fail
      rw [show j + yl.length + 1 - j = yl.length + 1 by omega]
      refine (unhide HDS).mono ?_
      rintro e w5 ⟨zr, q, rfl, hok, hqB, huz5, hg5⟩
      have hinv5 := (unhide HFIN) w5 zr q hok
      have hqz5 := hqz.grown hg5 (by intro h; injection h with h; have := (unhide HB12).2; omega)
      have hqc5 := hqz5.cell j (by have := HQL.out; omega)
      have hqf5 := hqz5.frozen j
      have hv5 : Ws .u32 w5 (bv + 1) (some ⟨bv, 0, none⟩) (vz.take yl.length) := fun hl => by
        obtain ⟨b, o, e, hb, hc⟩ := hvr hl
        injection e with e; injection e with e1 e2
        subst e1 e2
        exact ⟨bv, 0, rfl, hb, fun t ht => (World.cell?_of_block (hg5.block bv (by have := (unhide HB12).1; omega) (fun e => by injection e with e; omega))).trans (hc t ht)⟩
      have hb5 : Below w.heap.size w w5 := hbr.grown hg5 hbr.size (fun g e => by injection e with e; subst e; exact Nat.le_trans hb1w.size hbu)
      have hs5 : w4.heap.size < w5.heap.size := Nat.lt_of_lt_of_le hszr hg5.size
      have hw4s : w.heap.size ≤ w4.heap.size := hbw4.size
      have hfin2 : ∀ W, W = w5.setCell ⟨w4.heap.size, j, none⟩ (.int .u32 (q : Int)) → ZB .u32 W bu 136 (win us j zr) ∧ ZB .u32 W w4.heap.size 136 (qs.set j q) ∧ Ws .u32 W (bv + 1) (some ⟨bv, 0, none⟩) (vz.take yl.length) ∧ Below w.heap.size w W ∧ w4.heap.size < W.heap.size := by
        rintro W rfl
        exact ⟨(Below.heap_setCell w5 _ _ bu (by show bu ≠ w4.heap.size; have := (unhide HB12).2; omega)).trans huz5, hqz5.set_ _ _, hv5.setCell (p := ⟨w4.heap.size, j, none⟩) (by show bv + 1 ≤ w4.heap.size; have := (unhide HB12).1; omega) _, hb5.setCell (p := ⟨w4.heap.size, j, none⟩) hw4s _, by simp [World.setCell]; omega⟩
      have HF2 := hide hfin2
      clear hok hg5 hfin2 huz5 hqz5 hv5 hb5
      go_wp2_with fail
      go_roundw
      case rel =>
        obtain ⟨f1, f2, f3, f4, f5⟩ := (unhide HF2) _ rfl
        exact ⟨(j : Int) - 1, win us j zr, qs.set j q, by omega, by omega, by go_num, by rw [show ((j : Int) - 1 + 1).toNat = j by omega]; exact hinv5, by show _ = _; rw [List.length_set]; exact HQL.out, f1, f2, f3, f4, f5⟩
      case measure => simp [intOf] <;> omega
end Go.Proofs.YtpjgoogeokbaaaaGreatDoor
/- The reference: quotient and rest in all ways; the greatest common divisor of two amounts. -/
namespace Go.Proofs.YtpjgoogeokbaaaaGreatDoor
open Go.RowKit

theorem parts_any (Ax Ay : Option Addr) (cx cy : Nat) (xl yl : List Nat) (n m : Nat) (w : World) (hx : NatT w Ax cx xl n) (hy : NatT w Ay cy yl m) (hm : 0 < m) (hk : xl.length + 1 ≤ 35184372088832) (hk2 : yl.length + 1 ≤ 35184372088832) :
    Calls Tryz.prog 140 #[.slice Ax xl.length cx, .slice Ay yl.length cy] w fun e w' => PartsU w (n / m) (n % m) e w' := by
  by_cases hlt : n < m
  · exact parts_small Ax Ay cx cy xl yl n m w hx hy hlt
  · by_cases h1 : yl.length = 1
    · exact parts_one Ax Ay cx cy xl yl n m w hx hy hlt h1 (by omega)
    · refine parts_long Ax Ay cx cy xl yl n m w hx hy hlt hk hk2 ?_
      rcases Nat.eq_zero_or_pos yl.length with h | h
      · exfalso
        have := hy.val
        rw [List.length_eq_zero_iff.1 h] at this
        simp [Wd.val] at this; omega
      · omega

/-- The number that a slice's words stand for. -/
def memNum (w : World) : Value → Nat
  | .slice (some p) n _ => Wd.val B32 ((List.range n).map fun i => match w.cell? ⟨p.block, p.off + i, none⟩ with | some (.int _ z) => z.toNat | _ => 0)
  | _ => 0
theorem memNum_eq {w : World} {A : Option Addr} {cap : Nat} {l : List Nat} {n : Nat} (h : NatT w A cap l n) : memNum w (.slice A l.length cap) = n := by
  rcases Nat.eq_zero_or_pos l.length with h0 | h0
  · have hv := h.val
    have hl := List.length_eq_zero_iff.1 h0
    subst hl
    rw [← hv]
    cases A <;> simp [memNum, Wd.val]
  · obtain ⟨b, o, rfl, _, hc⟩ := h.ws h0
    show Wd.val B32 _ = n
    rw [← h.val]
    congr 1
    apply List.ext_getElem (by simp)
    intro i h1 h2
    simp only [List.getElem_map, List.getElem_range]
    rw [hc i h2, Wd.g_def]
    simp [List.getD, h2]

set_option maxRecDepth 100000 in
set_option maxHeartbeats 1000000 in
theorem divisor_any (Ax Ay : Option Addr) (cx cy : Nat) (xl yl : List Nat) (n m K : Nat) (w : World) (hx : NatT w Ax cx xl n) (hy : NatT w Ay cy yl m) (hn : n < B32 ^ K) (hm : m < B32 ^ K) (hK : K + 1 ≤ 35184372088832) :
    Calls Tryz.prog 139 #[.slice Ax xl.length cx, .slice Ay yl.length cy] w fun e w' => NatU w (n.gcd m) e w' := by
  go_enter Tryz.func139, Tryz.ntmps139
  go_wp2_with fail
  have HK := hide hK
  clear hK
  go_loopw [0, 1] (fun av bv wr => ∃ Aa ca la na Ab cb lb nb, av = .slice Aa la.length ca ∧ bv = .slice Ab lb.length cb ∧ NatT wr Aa ca la na ∧ NatT wr Ab cb lb nb ∧ na < B32 ^ K ∧ nb < B32 ^ K ∧ Hid (na.gcd nb = n.gcd m) ∧ Below w.heap.size w wr) (fun _ bv wr => memNum wr bv)
  case atStart => exact ⟨Ax, cx, xl, n, Ay, cy, yl, m, rfl, rfl, hx, hy, hn, hm, rfl, Below.refl _ _⟩
  case round =>
    clear hx hy hn hm
    obtain ⟨Aa, ca, la, na, Ab, cb, lb, nb, rfl, rfl, ha, hb, hna, hnb, HG, hbl⟩ := hrel
    have ha1 := ha.cap1; have ha2 := ha.cap2; have hb1 := hb.cap1; have hb2 := hb.cap2
    have la1 : la.length ≤ K := ha.len hna
    have lb1 : lb.length ≤ K := hb.len hnb
    by_cases h0 : lb.length = 0
    · have e : nb = 0 := by rw [← hb.val, List.length_eq_zero_iff.1 h0]; rfl
      have hg := HG.out
      rw [e, Nat.gcd_zero_right] at hg
      have HGG := Lib.hid hg
      have HA := hide ha
      clear hg ha hb hna hnb e HG
      go_wp2_with fail
      go_ret
      exact ⟨Aa, ca, la, rfl, by rw [← HGG.out]; exact unhide HA, hbl⟩
    · have hnb0 : 0 < nb := by
        rcases Nat.eq_zero_or_pos nb with h | h
        · exfalso
          have := hb.len (k := 0) (by rw [h]; simp)
          omega
        · exact h
      have hp := parts_any Aa Ab ca cb la lb na nb wr ha hb hnb0 (by have := unhide HK; omega) (by have := unhide HK; omega)
      have hg : nb.gcd (na % nb) = n.gcd m := by
        rw [← HG.out, Nat.gcd_comm nb (na % nb), ← Nat.gcd_rec nb na, Nat.gcd_comm]
      have hlt := Nat.mod_lt na hnb0
      have hmem := memNum_eq hb
      have HP := hide hp; have HGG := Lib.hid hg; have HB := hide hb; have HNB := hide hnb
      have HLT := hide hlt; have HM := Lib.hid hmem
      clear hp hg ha hb hna hnb HG hlt hmem
      go_wp2_with fail
      refine (unhide HP).mono ?_
      rintro e w' ⟨A5, c5, l5, A6, c6, l6, rfl, h5, h6, hbl2⟩
      have hb' := (unhide HB).below hbl2
      have hbl3 : Below w.heap.size w w' := hbl.trans (hbl2.mono hbl.size)
      have HB2 := hide hb'; have H6 := hide h6
      clear hb' h5 h6 hbl2 hbl
      go_wp2_with fail
      go_roundw
      case rel => exact ⟨Ab, cb, lb, nb, A6, c6, l6, na % nb, rfl, rfl, unhide HB2, unhide H6, unhide HNB, Nat.lt_trans (unhide HLT) (unhide HNB), HGG, hbl3⟩
      case measure =>
        have := memNum_eq (unhide H6)
        have h2 := HM.out
        have h3 := unhide HLT
        simp_all
end Go.Proofs.YtpjgoogeokbaaaaGreatDoor
/- The sum of two numbers of many words. -/
namespace Go.Proofs.YtpjgoogeokbaaaaGreatDoor
open Go.RowKit

theorem addr_add (b off j : Nat) : (⟨b, off, none⟩ : Addr).add j = ⟨b, off + j, none⟩ := by
  unfold Addr.add
  split
  · rename_i h; subst h; rfl
  · rfl

/-- The words of a list, as cells. -/
def wvals (k : IntKind) (l : List Nat) : List Value := l.map fun (x : Nat) => Value.int k (x : Int)
theorem wvals_get {k : IntKind} {l : List Nat} {j : Nat} {v : Value} (h : (wvals k l)[j]? = some v) : j < l.length ∧ v = .int k ((Wd.g l j : Nat) : Int) := by
  simp only [wvals, List.getElem?_map, Option.map_eq_some_iff] at h
  obtain ⟨x, hx, rfl⟩ := h
  obtain ⟨hl, rfl⟩ := List.getElem?_eq_some_iff.1 hx
  exact ⟨hl, by simp [Wd.g, List.getD, hl]⟩

theorem splice_words (k : IntKind) (l : List Nat) (n : Nat) (hn : l.length ≤ n) : (splice (wvals k (List.replicate n 0)) 0 (wvals k l)).toArray = wcells k (l ++ List.replicate (n - l.length) 0) := by
  simp [splice, wvals, wcells]

theorem oneCell_words (k : IntKind) (l : List Nat) : ∀ v ∈ wvals k l, v.oneCell' = true := by
  intro v hv
  simp only [wvals, List.mem_map] at hv
  obtain ⟨x, _, rfl⟩ := hv
  rfl

theorem val_append_zeros (B : Nat) (l : List Nat) (n : Nat) : Wd.val B (l ++ List.replicate n 0) = Wd.val B l := by
  rw [Wd.val_append, Wd.val_replicate_zero]; simp

theorem size64 : (Tryz.prog.info? 116).map (·.size) = some 1 := by kernel_rfl

theorem copy64 (A : Option Addr) (c : Nat) (l : List Nat) (wa : World) (B g : Nat) (hz : ZB .u64 wa g 116 (List.replicate (l.length + 1) 0)) (hws : Ws .u64 wa B A l) :
    ∃ W', (Builtin.copy_ #[59, 59] 3 #[.slice (some ⟨g, 0, none⟩) (l.length + 1) (l.length + 1), .slice A l.length c]).run Tryz.prog wa = .ok (goInt l.length) W' ∧ ZB .u64 W' g 116 (l ++ [0]) ∧ ∀ B', B' ≤ g → Below B' wa W' := by
  by_cases h0 : l.length = 0
  · have hl := List.eq_nil_of_length_eq_zero h0
    subst hl
    exact ⟨wa, run_copy_none wa 59 59 3 116 _ _ _ _ _ _ Tryz.underlying59 size64 (by simp), hz, fun B' _ => Below.refl _ _⟩
  · obtain ⟨b, off, rfl, _, hc⟩ := hws (by omega)
    have hlen : (wvals .u64 l).length = l.length := by simp [wvals]
    have hsp := splice_words .u64 l (l.length + 1) (by omega)
    rw [show l.length + 1 - l.length = 1 by omega] at hsp
    have hrun := run_copy_row (P := Tryz.prog) wa 59 59 3 116 g 0 (l.length + 1) (l.length + 1) ⟨b, off, none⟩ l.length c (wcells .u64 (List.replicate (l.length + 1) 0)) 116 (wvals .u64 l) Tryz.underlying59 size64 hz
      (by rw [hlen]; exact (Nat.min_eq_left (by omega)).symm) (fun j v hj => by
        obtain ⟨h1, rfl⟩ := wvals_get hj
        rw [addr_add]
        exact hc j h1) (by rw [hlen]; simp [wcells]) (oneCell_words _ _)
    rw [hlen] at hrun
    refine ⟨_, hrun, ?_, fun B' hB' => below_setRow (Below.refl _ _) hB' _⟩
    have e : ((wcells .u64 (List.replicate (l.length + 1) 0)).toList.take 0 ++ wvals .u64 l ++ (wcells .u64 (List.replicate (l.length + 1) 0)).toList.drop (0 + l.length)).toArray = wcells .u64 (l ++ [0]) := by
      rw [show [0] = List.replicate 1 0 from rfl, ← hsp]
      simp [splice, wcells, wvals]
    rw [e]
    exact setRow_heap wa g _ _ 116 (0, 0) hz

theorem add_val {B : Nat} (hB : 1 < B) {pl ql zr : List Nat} {n m c : Nat} (h1 : Wd.val B zr + B ^ (pl ++ [0]).length * c = Wd.val B (pl ++ [0]) + Wd.val B ql) (hp : Wd.val B pl = n) (hq : Wd.val B ql = m) (hn : n < B ^ pl.length) (hm : m < B ^ ql.length) (hl : ql.length ≤ pl.length) (hc : c ≤ 1) : Wd.val B zr = n + m := by
  have h2 : Wd.val B (pl ++ [0]) = n := by rw [show [0] = List.replicate 1 0 from rfl, val_append_zeros]; exact hp
  rw [h2, hq] at h1
  have h5 : B ^ ql.length ≤ B ^ pl.length := Nat.pow_le_pow_right (Nat.lt_trans Nat.zero_lt_one hB) hl
  have h6 : B ^ (pl ++ [0]).length = B ^ pl.length * B := by rw [List.length_append, List.length_singleton, Nat.pow_succ]
  have h7 : 2 * B ^ pl.length ≤ B ^ pl.length * B := by rw [Nat.mul_comm]; exact Nat.mul_le_mul_left _ hB
  rw [h6] at h1
  generalize B ^ pl.length * B = Q at *
  generalize B ^ pl.length = P at *
  generalize B ^ ql.length = R at *
  rcases (show c = 0 ∨ c = 1 by omega) with rfl | rfl <;> omega

theorem lt_snoc {l : List Nat} (h : ∀ x ∈ l, x < B64) : ∀ x ∈ l ++ [0], x < B64 := by
  intro t ht
  rw [List.mem_append] at ht
  rcases ht with h1 | h1
  · exact h t h1
  · rw [List.mem_singleton] at h1; subst h1; exact Nat.lt_trans Nat.zero_lt_one B64_pos

set_option maxRecDepth 100000 in
set_option maxHeartbeats 1000000 in
theorem add_any (Ax Ay : Option Addr) (cx cy : Nat) (xl yl : List Nat) (n m : Nat) (w : World) (hx : NatV w Ax cx xl n) (hy : NatV w Ay cy yl m) (hk : xl.length ≤ lim) (hk2 : yl.length ≤ lim) :
    Calls Tryz.prog 163 #[.slice Ax xl.length cx, .slice Ay yl.length cy] w fun e w' => NatR w (n + m) e w' := by
  have hx1 := hx.cap1; have hx2 := hx.cap2; have hy1 := hy.cap1; have hy2 := hy.cap2
  have hkk : xl.length ≤ 17592186044416 := by rw [← lim_eq]; exact hk
  have hkk2 : yl.length ≤ 17592186044416 := by rw [← lim_eq]; exact hk2
  by_cases hlt : xl.length < yl.length
  · have b1 : decide ((xl.length : Int) < (yl.length : Int)) = true := decide_eq_true (by omega)
    have b2 : decide (xl.length < yl.length) = true := decide_eq_true (by omega)
    have hmk := make64 (yl.length + 1) (by omega)
    simp only [Int.natCast_add, Int.cast_ofNat_Int] at hmk
    have hws : Ws .u64 (w.alloc (.cells (wcells .u64 (List.replicate (yl.length + 1) 0)) 116)) w.heap.size Ay yl := hy.ws.alloc (Nat.le_refl _) _
    obtain ⟨w1, hcopy, hz, hb0⟩ := copy64 Ay cy yl _ w.heap.size w.heap.size (heap_alloc_new w _) hws
    have hb1 : Below w.heap.size w w1 := ((Below.refl _ _).alloc (Nat.le_refl _) _).trans (hb0 _ (Nat.le_refl _))
    clear hb0 hws
    go_enter Tryz.func163, Tryz.ntmps163
    go_wp2_with fail
    have hx1 := hx.below hb1
    have hadd := addInto_any w.heap.size 0 (yl.length + 1) 116 (yl ++ [0]) (yl ++ [0]) xl Ax cx w.heap.size w1 hz (by simp) (by rw [List.drop_zero, List.take_of_length_le (Nat.le_refl _)]) (by simp) (by omega) (hx.ws.below hb1) (Nat.le_refl _) hx.cap1 hx.cap2 (by simp; omega) (lt_snoc hy.lt) hx.lt
    have e0 : (yl ++ [0]).length = yl.length + 1 := by simp
    rw [e0] at hadd
    refine hadd.mono ?_
    rintro e w2 ⟨zr, c, rfl, hok, hz2, hg2⟩
    have hl2 : zr.length = yl.length + 1 := by rw [hok.len]; simp
    rw [win_zero _ _ (by rw [hok.len])] at hz2
    have hval : Wd.val B64 zr = n + m := by rw [Nat.add_comm]; exact add_val B64_pos hok.eq hy.val hx.val hy.lt_pow hx.lt_pow (by omega) hok.c1
    have hb2 : Below w.heap.size w w2 := hb1.grown hg2 hb1.size (fun g e => by injection e with e; omega)
    have HL2 := Lib.hid hl2; have HVAL := Lib.hid hval; have HLT := hide hok.lt
    have htr := trim_any (some ⟨w.heap.size, 0, none⟩) zr.length zr w2.heap.size w2 (hz2.ws0 _ hz2.lt) (Nat.le_refl _) (by omega)
    rw [hl2] at htr
    have HTR := hide htr
    clear hl2 hval hok hadd htr
    go_wp2_with fail
    refine (unhide HTR).mono ?_
    rintro e w3 ⟨⟨k, rfl, ht, hk3⟩, hw3⟩
    obtain rfl : w2 = w3 := hw3.symm
    go_wp2_with fail
    go_ret
    have hk4 : k = (zr.take k).length := by have := HL2.out; rw [List.length_take]; omega
    have h := NatV.of_trim (cap := yl.length + 1) hz2 (unhide HLT) ht (by rw [HL2.out]; exact hk3) (by rw [HL2.out]; exact Nat.le_refl _) (by omega)
    rw [HVAL.out] at h
    exact ⟨some ⟨w.heap.size, 0, none⟩, yl.length + 1, zr.take k, ret_slice hk4, h, hb2⟩
  · have b1 : decide ((xl.length : Int) < (yl.length : Int)) = false := decide_eq_false (by omega)
    have b2 : decide (xl.length < yl.length) = false := decide_eq_false (by omega)
    have hmk := make64 (xl.length + 1) (by omega)
    simp only [Int.natCast_add, Int.cast_ofNat_Int] at hmk
    have hws : Ws .u64 (w.alloc (.cells (wcells .u64 (List.replicate (xl.length + 1) 0)) 116)) w.heap.size Ax xl := hx.ws.alloc (Nat.le_refl _) _
    obtain ⟨w1, hcopy, hz, hb0⟩ := copy64 Ax cx xl _ w.heap.size w.heap.size (heap_alloc_new w _) hws
    have hb1 : Below w.heap.size w w1 := ((Below.refl _ _).alloc (Nat.le_refl _) _).trans (hb0 _ (Nat.le_refl _))
    clear hb0 hws
    go_enter Tryz.func163, Tryz.ntmps163
    go_wp2_with fail
    have hy1 := hy.below hb1
    have hadd := addInto_any w.heap.size 0 (xl.length + 1) 116 (xl ++ [0]) (xl ++ [0]) yl Ay cy w.heap.size w1 hz (by simp) (by rw [List.drop_zero, List.take_of_length_le (Nat.le_refl _)]) (by simp) (by omega) (hy.ws.below hb1) (Nat.le_refl _) hy.cap1 hy.cap2 (by simp; omega) (lt_snoc hx.lt) hy.lt
    have e0 : (xl ++ [0]).length = xl.length + 1 := by simp
    rw [e0] at hadd
    refine hadd.mono ?_
    rintro e w2 ⟨zr, c, rfl, hok, hz2, hg2⟩
    have hl2 : zr.length = xl.length + 1 := by rw [hok.len]; simp
    rw [win_zero _ _ (by rw [hok.len])] at hz2
    have hval : Wd.val B64 zr = n + m := add_val B64_pos hok.eq hx.val hy.val hx.lt_pow hy.lt_pow (by omega) hok.c1
    have hb2 : Below w.heap.size w w2 := hb1.grown hg2 hb1.size (fun g e => by injection e with e; omega)
    have HL2 := Lib.hid hl2; have HVAL := Lib.hid hval; have HLT := hide hok.lt
    have htr := trim_any (some ⟨w.heap.size, 0, none⟩) zr.length zr w2.heap.size w2 (hz2.ws0 _ hz2.lt) (Nat.le_refl _) (by omega)
    rw [hl2] at htr
    have HTR := hide htr
    clear hl2 hval hok hadd htr
    go_wp2_with fail
    refine (unhide HTR).mono ?_
    rintro e w3 ⟨⟨k, rfl, ht, hk3⟩, hw3⟩
    obtain rfl : w2 = w3 := hw3.symm
    go_wp2_with fail
    go_ret
    have hk4 : k = (zr.take k).length := by have := HL2.out; rw [List.length_take]; omega
    have h := NatV.of_trim (cap := xl.length + 1) hz2 (unhide HLT) ht (by rw [HL2.out]; exact hk3) (by rw [HL2.out]; exact Nat.le_refl _) (by omega)
    rw [HVAL.out] at h
    exact ⟨some ⟨w.heap.size, 0, none⟩, xl.length + 1, zr.take k, ret_slice hk4, h, hb2⟩
end Go.Proofs.YtpjgoogeokbaaaaGreatDoor
/- Whole numbers without a limit. -/
namespace Go.Proofs.YtpjgoogeokbaaaaGreatDoor
open Go.RowKit

/-- Every old cell, and every old mark, reads as before. -/
theorem bcell {W w1 : World} (hb : Below W.heap.size W w1) : (∀ b o, b < W.heap.size → w1.cell? ⟨b, o, none⟩ = W.cell? ⟨b, o, none⟩) ∧ (∀ b o, b < W.heap.size → w1.frozen? ⟨b, o, none⟩ = W.frozen? ⟨b, o, none⟩) :=
  ⟨fun b o h => hb.cell (p := ⟨b, o, none⟩) h, fun b o h => hb.frozen (p := ⟨b, o, none⟩) h⟩

/-- The greatest word that is a small number, and one more. -/
def M63 : Nat := 9223372036854775808
theorem M63_eq : M63 = 9223372036854775808 := rfl

/-- The three parts of a whole number: small ones without words, the others by their amount and sign. -/
structure IntF (w : World) (s : Int) (neg : Bool) (A : Option Addr) (cap : Nat) (l : List Nat) (z : Int) : Prop where
  nat : ∃ n, NatV w A cap l n
  form : (l.length = 0 ∧ neg = false ∧ s = z ∧ z.natAbs < M63) ∨ (0 < l.length ∧ s = 0 ∧ neg = decide (z < 0) ∧ Wd.val B64 l = z.natAbs ∧ M63 ≤ z.natAbs)

theorem IntF.below {w w' : World} {s : Int} {neg : Bool} {A : Option Addr} {cap : Nat} {l : List Nat} {z : Int} (h : IntF w s neg A cap l z) (hb : Below w.heap.size w w') : IntF w' s neg A cap l z :=
  ⟨let ⟨n, hn⟩ := h.nat; ⟨n, hn.below hb⟩, h.form⟩
theorem IntF.small {w : World} {z : Int} (hz : z.natAbs < M63) : IntF w z false none 0 [] z := ⟨⟨0, NatV.nil_ _ _ (by omega)⟩, .inl ⟨rfl, rfl, rfl, hz⟩⟩

/-- What a call hands back: a whole number; what was there is as it was. -/
def IntR (w : World) (z : Int) (e : Ending) (w' : World) : Prop := ∃ s neg A cap l, e = .returned (.agg #[.int .i64 s, .bool neg, .slice A l.length cap]) ∧ IntF w' s neg A cap l z ∧ Below w.heap.size w w'

/-- A block of which no cell is a word. -/
def NoWord (cs : Array Value) : Prop := ∀ (i : Nat) (n : Int), cs[i]? ≠ some (Value.int .u64 n)
theorem noWord3 (s : Int) (b : Bool) (A : Option Addr) (n c : Nat) : NoWord #[.int .i64 s, .bool b, .slice A n c] := by
  intro i n h
  match i, h with
  | 0, h => simp at h
  | 1, h => simp at h
  | 2, h => simp at h
  | i + 3, h => simp at h

theorem Ws.upto {w w' : World} {B g : Nat} {A : Option Addr} {l : List Nat} {T : TypeId} {cs : Array Value} (h : Ws .u64 w B A l) (hg : w.heap[g]? = some (.cells cs T (0, 0))) (hn : NoWord cs) (hgr : w.grownBy w' (some g)) (hB : B ≤ w.heap.size) : Ws .u64 w' B A l := fun hl => by
  obtain ⟨b, off, rfl, hb, hc⟩ := h hl
  have hne : b ≠ g := by
    rintro rfl
    have := hc 0 hl
    simp only [World.cell?, hg, Option.isSome_none, Bool.false_eq_true, if_false] at this
    exact hn _ _ this
  exact ⟨b, off, rfl, hb, fun j hj => (World.cell?_of_block (hgr.block b (by omega) (fun e => hne (by injection e)))).trans (hc j hj)⟩
theorem NatV.upto {w w' : World} {g : Nat} {A : Option Addr} {cap : Nat} {l : List Nat} {n : Nat} {T : TypeId} {cs : Array Value} (h : NatV w A cap l n) (hg : w.heap[g]? = some (.cells cs T (0, 0))) (hn : NoWord cs) (hgr : w.grownBy w' (some g)) : NatV w' A cap l n :=
  ⟨(h.ws.upto hg hn hgr (Nat.le_refl _)).more hgr.size, h.cap1, h.cap2, h.lt, h.norm, h.val⟩
theorem IntF.upto {w w' : World} {g : Nat} {s : Int} {neg : Bool} {A : Option Addr} {cap : Nat} {l : List Nat} {z : Int} {T : TypeId} {cs : Array Value} (h : IntF w s neg A cap l z) (hg : w.heap[g]? = some (.cells cs T (0, 0))) (hn : NoWord cs) (hgr : w.grownBy w' (some g)) : IntF w' s neg A cap l z :=
  ⟨let ⟨n, hn'⟩ := h.nat; ⟨n, hn'.upto hg hn hgr⟩, h.form⟩

/-- The end of a call that hands back a whole number: three stores into the block of the result. -/
theorem set3_grown (w : World) (g : Nat) (u0 u1 u2 : Value) : w.grownBy (((w.setCell ⟨g, 0, none⟩ u0).setCell ⟨g, 1, none⟩ u1).setCell ⟨g, 2, none⟩ u2) (some g) :=
  grown_setCell (grown_setCell (grown_setCell (grown_refl _ _) _ _) _ _) _ _

set_option maxHeartbeats 400000 in
theorem isSmall_any (s : Int) (neg : Bool) (A : Option Addr) (cap n : Nat) (w : World) :
    Calls Tryz.prog 150 #[.agg #[.int .i64 s, .bool neg, .slice A n cap]] w fun e w' => e = .returned (.bool (decide (n = 0))) ∧ w' = w.alloc (.cells #[.int .i64 s, .bool neg, .slice A n cap] 61) := by
  by_cases h : n = 0
  · subst h
    go_enter Tryz.func150, Tryz.ntmps150
    go_wp2
    go_ret
    exact ⟨rfl, rfl⟩
  · have hb : ((n : Int) == 0) = false := beq_eq_false_iff_ne.2 (by omega)
    have hd : decide (n = 0) = false := decide_eq_false h
    rw [hd]
    clear hd
    go_enter Tryz.func150, Tryz.ntmps150
    go_wp2
    go_ret
    exact ⟨rfl, rfl⟩

set_option maxHeartbeats 400000 in
theorem size_any (s : Int) (hs1 : -9223372036854775808 ≤ s) (hs2 : s ≤ 9223372036854775807) (w : World) :
    Calls Tryz.prog 148 #[.int .i64 s] w fun e w' => e = .returned (.int .u64 ((s.natAbs : Nat) : Int)) ∧ w' = w := by
  by_cases h : s < 0
  · have e1 : IntKind.u64.wrap (-(IntKind.u64.wrap s)) = ((s.natAbs : Nat) : Int) := by
      rw [IntKind.wrap_u64, IntKind.wrap_u64]; omega
    have HE := Lib.hid e1
    clear e1 hs1 hs2
    go_enter Tryz.func148, Tryz.ntmps148
    go_wp2
    go_ret
    exact ⟨ret_int (by first | exact HE.out | (rw [← HE.out]; simp)), rfl⟩
  · have e1 : IntKind.u64.wrap s = ((s.natAbs : Nat) : Int) := by
      rw [IntKind.wrap_u64]; omega
    have HE := Lib.hid e1
    clear e1 hs1 hs2
    go_enter Tryz.func148, Tryz.ntmps148
    go_wp2
    go_ret
    exact ⟨ret_int (by first | exact HE.out | (rw [← HE.out]; simp)), rfl⟩

set_option maxHeartbeats 400000 in
theorem word_any (neg : Bool) (m : Nat) (hm : m < B64) (w : World) :
    Calls Tryz.prog 147 #[.bool neg, .int .u64 ((m : Nat) : Int)] w fun e w' => IntR w (if neg then -(m : Int) else (m : Int)) e w' := by
  by_cases h : M63 ≤ m
  · have b1 : decide ((9223372036854775807 : Int) < (m : Int)) = true := decide_eq_true (by rw [M63_eq] at h; omega)
    have hz : (if neg then -(m : Int) else (m : Int)).natAbs = m := by cases neg <;> simp
    have hn : decide ((if neg then -(m : Int) else (m : Int)) < 0) = neg := by rw [M63_eq] at h; cases neg <;> simp <;> omega
    obtain ⟨z, hzz⟩ : ∃ z, z = if neg then -(m : Int) else (m : Int) := ⟨_, rfl⟩
    rw [← hzz] at hz hn ⊢
    have HZ := Lib.hid hz; have HN := Lib.hid hn; have HM := hide h; have HMB := hide hm
    clear hz hn hzz h hm
    go_enter Tryz.func147, Tryz.ntmps147
    go_wp2
    refine bodyPost_ret (v := .agg #[.int .i64 0, .bool neg, .slice (some ⟨w.heap.size + 1, 0, none⟩) 1 1]) (by simp [results, Tryz.results147, go_sem]) rfl ⟨0, neg, some ⟨w.heap.size + 1, 0, none⟩, 1, [m], rfl, ?_, ?_⟩
    · have hz : ZB .u64 ((w.alloc (.cells #[.int .i64 0, .bool neg, .slice (some ⟨w.heap.size + 1, 0, none⟩) 1 1] 61)).alloc (.cells #[.int .u64 (m : Int)] 116)) (w.heap.size + 1) 116 [m] := by
        have : ZB .u64 ((w.alloc (.cells #[.int .i64 0, .bool neg, .slice (some ⟨w.heap.size + 1, 0, none⟩) 1 1] 61)).alloc (.cells #[.int .u64 (m : Int)] 116)) (w.alloc (.cells #[.int .i64 0, .bool neg, .slice (some ⟨w.heap.size + 1, 0, none⟩) 1 1] 61)).heap.size 116 [m] := heap_alloc_new _ _
        rwa [World.size_alloc] at this
      have h63 := HM.out
      rw [M63_eq] at h63
      exact ⟨⟨m, hz.ws0 _ hz.lt, by simp, by omega, by simpa using HMB.out, .inr (by simp; omega), by simp [Wd.val]⟩, .inr ⟨by simp, rfl, HN.out.symm, by rw [HZ.out]; simp [Wd.val], by rw [HZ.out]; exact HM.out⟩⟩
    · exact ((Below.refl _ _).alloc (Nat.le_refl _) _).alloc (by simp) _
  · have b1 : decide ((9223372036854775807 : Int) < (m : Int)) = false := decide_eq_false (by rw [M63_eq] at h; omega)
    have HM := hide h
    cases neg
    · have e1 : IntKind.i64.wrap (m : Int) = (m : Int) := IntWalk.i64_in _ (by rw [M63_eq] at h; omega)
      clear hm h
      go_enter Tryz.func147, Tryz.ntmps147
      go_wp2
      refine bodyPost_ret (v := .agg #[.int .i64 (m : Int), .bool false, .slice none 0 0]) (by simp [results, Tryz.results147, go_sem]) rfl ⟨(m : Int), false, none, 0, [], rfl, ?_, ?_⟩
      · exact IntF.small (by have := HM.out; simpa using this)
      · exact (Below.refl _ _).alloc (Nat.le_refl _) _
    · have e1 : IntKind.i64.wrap (m : Int) = (m : Int) := IntWalk.i64_in _ (by rw [M63_eq] at h; omega)
      have e2 : wrap64 (-(m : Int)) = -(m : Int) := IntWalk.wrap64_in _ ⟨by rw [M63_eq] at h; omega, by omega⟩
      clear hm h
      go_enter Tryz.func147, Tryz.ntmps147
      go_wp2
      refine bodyPost_ret (v := .agg #[.int .i64 (-(m : Int)), .bool false, .slice none 0 0]) (by simp [results, Tryz.results147, go_sem]) rfl ⟨-(m : Int), false, none, 0, [], rfl, ?_, ?_⟩
      · exact IntF.small (by have := HM.out; simpa using this)
      · exact (Below.refl _ _).alloc (Nat.le_refl _) _

set_option maxHeartbeats 400000 in
theorem newInt_any (n : Int) (h1 : -9223372036854775808 ≤ n) (h2 : n ≤ 9223372036854775807) (w : World) :
    Calls Tryz.prog 102 #[.int .i64 n] w fun e w' => IntR w n e w' := by
  have hs := size_any n h1 h2
  have hw : ∀ W, Calls Tryz.prog 147 #[.bool (decide (n < 0)), .int .u64 ((n.natAbs : Nat) : Int)] W fun e w' => IntR W n e w' := fun W => by
    have := word_any (decide (n < 0)) n.natAbs (by rw [B64_eq]; omega) W
    rwa [show (if decide (n < 0) = true then -((n.natAbs : Nat) : Int) else ((n.natAbs : Nat) : Int)) = n by by_cases h : n < 0 <;> simp [h] <;> omega] at this
  have HS := hide hs; have HW := hide hw
  clear hs hw h1 h2
  by_cases hn : n < 0
  all_goals
    have hd : decide (n < 0) = decide (n < 0) := rfl
    first
      | rw [decide_eq_true hn] at HW
      | rw [decide_eq_false hn] at HW
    clear hd
    go_enter Tryz.func102, Tryz.ntmps102
    go_wp2_with fail
    refine ((unhide HS) _).mono ?_
    rintro e w1 ⟨rfl, rfl⟩
    go_wp2_with fail
    refine ((unhide HW) _).mono ?_
    rintro e w2 ⟨s, neg, A, cap, l, rfl, hf, hb⟩
    obtain ⟨hc, hfz⟩ := bcell hb
    have hsz : w.heap.size < w2.heap.size := by have := hb.size; simp at this; omega
    have hblk : w2.heap[w.heap.size]? = some (.cells #[.int .i64 0, .bool false, .slice none 0 0] 61 (0, 0)) := (hb.block _ (by simp)).trans (heap_alloc_new w _)
    have HBLK := Lib.hid hblk
    clear hblk
    go_wp2_with fail
    exact bodyPost_ret (v := .agg #[.int .i64 s, .bool neg, .slice A l.length cap]) (by simp [results, Tryz.results102, go_sem, hc, hsz]) rfl
      ⟨s, neg, A, cap, l, rfl, hf.upto HBLK.out (noWord3 _ _ _ _ _) (set3_grown _ _ _ _ _), (((Below.refl _ _).alloc (Nat.le_refl _) _).trans (hb.mono (by simp))).grown (set3_grown _ _ _ _ _) (by omega) (fun k hk => by injection hk with hk; omega)⟩

/-- The sign of a whole number. -/
def sgn (z : Int) : Int := if z < 0 then -1 else if 0 < z then 1 else 0

set_option maxHeartbeats 400000 in
theorem cmp64_any (x y : Int) (w : World) :
    Calls Tryz.prog 155 #[.int .i64 x, .int .i64 y] w fun e w' => e = .returned (.int .i64 (sgn (x - y))) ∧ w' = w := by
  go_enter Tryz.func155, Tryz.ntmps155
  go_wp2
  · have h : x < y := by assumption
    go_ret
    exact ⟨ret_int (by unfold sgn; rw [if_pos (by omega)]), rfl⟩
  · have h : y < x := by assumption
    go_ret
    exact ⟨ret_int (by unfold sgn; rw [if_neg (by omega), if_pos (by omega)]), rfl⟩
  · have h1 : y ≤ x := by assumption
    have h2 : x ≤ y := by assumption
    go_ret
    exact ⟨ret_int (by unfold sgn; rw [if_neg (by omega), if_neg (by omega)]), rfl⟩
end Go.Proofs.YtpjgoogeokbaaaaGreatDoor
/- Whole numbers: amount, sign, opposite. -/
namespace Go.Proofs.YtpjgoogeokbaaaaGreatDoor
open Go.RowKit

theorem IntF.bounds {w : World} {s : Int} {neg : Bool} {A : Option Addr} {cap : Nat} {l : List Nat} {z : Int} (h : IntF w s neg A cap l z) : -9223372036854775808 ≤ s ∧ s ≤ 9223372036854775807 := by
  rcases h.form with ⟨_, _, rfl, h⟩ | ⟨_, rfl, _⟩
  · rw [M63_eq] at h; omega
  · omega

set_option maxRecDepth 100000 in
set_option maxHeartbeats 400000 in
theorem abs_any (s : Int) (neg : Bool) (A : Option Addr) (cap : Nat) (l : List Nat) (z : Int) (w : World) (h : IntF w s neg A cap l z) :
    Calls Tryz.prog 153 #[.agg #[.int .i64 s, .bool neg, .slice A l.length cap]] w fun e w' => NatR w z.natAbs e w' := by
  have hsm := fun W => isSmall_any s neg A cap l.length W
  have HSM := hide hsm
  clear hsm
  rcases h.form with ⟨h1, h2, h3, h4⟩ | ⟨h1, h2, h3, h4, h5⟩
  · rw [decide_eq_true h1] at HSM
    have hb := h.bounds
    have HSZ := hide (fun W => size_any s hb.1 hb.2 W)
    have hzB : z.natAbs < B64 := by rw [M63_eq] at h4; rw [B64_eq]; omega
    rw [h3] at HSZ
    obtain ⟨a, ha⟩ : ∃ a, a = z.natAbs := ⟨_, rfl⟩
    rw [← ha] at HSZ hzB ⊢
    have HZB := hide hzB
    subst h3
    clear hb hzB h1 h2 h4 h ha
    go_enter Tryz.func153, Tryz.ntmps153
    go_wp2_with fail
    refine ((unhide HSM) _).mono ?_
    rintro e w1 ⟨rfl, rfl⟩
    go_wp2_with fail
    refine ((unhide HSZ) _).mono ?_
    rintro e w1 ⟨rfl, rfl⟩
    go_wp2_with fail
    refine (natOf_any _ (unhide HZB) _).mono ?_
    rintro e w2 ⟨A', cap', l', rfl, hn, hb⟩
    go_wp2_with fail
    go_ret
    exact ⟨A', cap', l', rfl, hn, (((Below.refl _ _).alloc (Nat.le_refl _) _).alloc (by simp) _).trans (hb.mono (by simp; omega))⟩
  · rw [decide_eq_false (by omega)] at HSM
    obtain ⟨n, hn⟩ := h.nat
    have hnz : n = z.natAbs := by rw [← h4, hn.val]
    subst hnz
    have HN := hide hn
    clear h1 h2 h3 h4 h5 h hn
    go_enter Tryz.func153, Tryz.ntmps153
    go_wp2_with fail
    refine ((unhide HSM) _).mono ?_
    rintro e w1 ⟨rfl, rfl⟩
    go_wp2_with fail
    go_ret
    exact ⟨A, cap, l, rfl, (unhide HN).below (((Below.refl _ _).alloc (Nat.le_refl _) _).alloc (by simp) _), ((Below.refl _ _).alloc (Nat.le_refl _) _).alloc (by simp) _⟩

set_option maxRecDepth 100000 in
set_option maxHeartbeats 400000 in
theorem sign_any (s : Int) (neg : Bool) (A : Option Addr) (cap : Nat) (l : List Nat) (z : Int) (w : World) (h : IntF w s neg A cap l z) :
    Calls Tryz.prog 128 #[.agg #[.int .i64 s, .bool neg, .slice A l.length cap]] w fun e w' => e = .returned (.int .i64 (sgn z)) ∧ Below w.heap.size w w' := by
  have HSM := hide (fun W => isSmall_any s neg A cap l.length W)
  rcases h.form with ⟨h1, h2, h3, h4⟩ | ⟨h1, h2, h3, h4, h5⟩
  · rw [decide_eq_true h1] at HSM
    have HC := hide (fun W => cmp64_any z 0 W)
    rw [Int.sub_zero] at HC
    subst h3
    clear h1 h2 h4 h
    go_enter Tryz.func128, Tryz.ntmps128
    go_wp2_with fail
    refine ((unhide HSM) _).mono ?_
    rintro e w1 ⟨rfl, rfl⟩
    go_wp2_with fail
    refine ((unhide HC) _).mono ?_
    rintro e w1 ⟨rfl, rfl⟩
    go_wp2_with fail
    go_ret
    exact ⟨rfl, ((Below.refl _ _).alloc (Nat.le_refl _) _).alloc (by simp) _⟩
  · rw [decide_eq_false (by omega)] at HSM
    have hs : sgn z = if neg = true then -1 else 1 := by
      unfold sgn; rw [h3]; rw [M63_eq] at h5
      by_cases hz : z < 0
      · simp [hz]
      · simp [hz]; omega
    have HO := hide (fun W => order_any neg W)
    cases neg
    all_goals
      simp only [Bool.false_eq_true, if_false, if_true] at hs HO
      have HS := Lib.hid hs
      clear h1 h2 h3 h4 h5 h hs
      go_enter Tryz.func128, Tryz.ntmps128
      go_wp2_with fail
      refine ((unhide HSM) _).mono ?_
      rintro e w1 ⟨rfl, rfl⟩
      go_wp2_with fail
      refine ((unhide HO) _).mono ?_
      rintro e w1 ⟨rfl, rfl⟩
      go_wp2_with fail
      go_ret
      exact ⟨ret_int HS.out.symm, ((Below.refl _ _).alloc (Nat.le_refl _) _).alloc (by simp) _⟩

set_option maxRecDepth 100000 in
set_option maxHeartbeats 400000 in
theorem neg_any (s : Int) (neg : Bool) (A : Option Addr) (cap : Nat) (l : List Nat) (z : Int) (w : World) (h : IntF w s neg A cap l z) :
    Calls Tryz.prog 129 #[.agg #[.int .i64 s, .bool neg, .slice A l.length cap]] w fun e w' => IntR w (-z) e w' := by
  have HSM := hide (fun W => isSmall_any s neg A cap l.length W)
  rcases h.form with ⟨h1, h2, h3, h4⟩ | ⟨h1, h2, h3, h4, h5⟩
  · rw [decide_eq_true h1] at HSM
    subst h3
    have e1 : wrap64 (-s) = -s := IntWalk.wrap64_in _ (by rw [M63_eq] at h4; omega)
    have H4 := hide h4
    clear h1 h2 h4 h
    go_enter Tryz.func129, Tryz.ntmps129
    go_wp2_with fail
    refine ((unhide HSM) _).mono ?_
    rintro e w1 ⟨rfl, rfl⟩
    go_wp2_with fail
    refine bodyPost_ret (v := .agg #[.int .i64 (-s), .bool false, .slice none 0 0]) (by simp [results, Tryz.results129, go_sem]) rfl ⟨-s, false, none, 0, [], rfl, IntF.small (by have := unhide H4; simpa using this), ?_⟩
    exact (((Below.refl _ _).alloc (Nat.le_refl _) _).alloc (by simp) _).alloc (by simp; omega) _
  · rw [decide_eq_false (by omega)] at HSM
    have hf : IntF w 0 (!neg) A cap l (-z) := by
      refine ⟨h.nat, .inr ⟨h1, rfl, ?_, by rw [h4]; simp, by simpa using h5⟩⟩
      rw [h3]; rw [M63_eq] at h5
      by_cases hz : z < 0
      · simp [hz]; omega
      · simp [hz]; omega
    have H := hide hf
    clear h1 h2 h3 h4 h5 h hf
    go_enter Tryz.func129, Tryz.ntmps129
    go_wp2_with fail
    refine ((unhide HSM) _).mono ?_
    rintro e w1 ⟨rfl, rfl⟩
    go_wp2_with fail
    refine bodyPost_ret (v := .agg #[.int .i64 0, .bool (!neg), .slice A l.length cap]) (by simp [results, Tryz.results129, go_sem]) rfl ⟨0, !neg, A, cap, l, rfl, ?_, ?_⟩
    · exact (unhide H).below ((((Below.refl _ _).alloc (Nat.le_refl _) _).alloc (by simp) _).alloc (by simp; omega) _)
    · exact (((Below.refl _ _).alloc (Nat.le_refl _) _).alloc (by simp) _).alloc (by simp; omega) _

set_option maxRecDepth 100000 in
set_option maxHeartbeats 400000 in
theorem small_any (s : Int) (neg : Bool) (A : Option Addr) (cap n : Nat) (w : World) :
    Calls Tryz.prog 105 #[.agg #[.int .i64 s, .bool neg, .slice A n cap]] w fun e w' => e = .returned (.tuple #[.int .i64 s, .bool (decide (n = 0))]) ∧ Below w.heap.size w w' := by
  have HSM := hide (fun W => isSmall_any s neg A cap n W)
  go_enter Tryz.func105, Tryz.ntmps105
  go_wp2_with fail
  go_region_with (go_at_call 150; refine ((unhide HSM) _).mono ?_; rintro e w' ⟨rfl, rfl⟩)
  all_goals
    go_wp2_with fail
    go_ret2
    refine ⟨rfl, ?_⟩
    repeat (first | exact Below.refl _ _ | refine Below.drew ?_ | (refine Below.alloc ?_ (by simp <;> omega) _))
end Go.Proofs.YtpjgoogeokbaaaaGreatDoor
