/- Texts beneath a law of layer 1. -/
import Derived.Test.YtfgeaakhlcaibaaGreatDoorCy7
set_option maxRecDepth 100000
set_option maxHeartbeats 16000000
namespace Go.Proofs.YtfgeaakhlcaibaaGreatDoor
open Go.RowKit

theorem akm (b off cap T n : Nat) (us ul vl : List Nat) (Av : Option Addr) (cv : Nat) (B top next : Nat) (w : World)
  (hz : ZB .u32 w b T us) (hoff : off + ul.length ≤ us.length) (Kk : ul = (us.drop off).take ul.length) (hcz : ul.length ≤ cap) (agc : cap ≤ 9223372036854775807)
  (hv : Ws .u32 w B Av vl) (hB : ∀ bv ov, Av = some ⟨bv, ov, none⟩ → bv ≠ b) (hBw : B ≤ w.heap.size) (hcv : vl.length ≤ cv) (amo : cv ≤ 9223372036854775807) (hp : Ie ul vl n) (htop : top = Wd.g vl (n - 1)) (hnext : next = Wd.g vl (n - 2)) :
  Calls Tryz.prog 213 #[.slice (some ⟨b, off, none⟩) (n + 1) cap, .slice Av n cv, .int .u64 ((top : Nat) : Int), .int .u64 ((next : Nat) : Int)] w fun e w' =>
   ∃ zr q, e = .returned (.int .u32 ((q : Nat) : Int)) ∧ StepT ul vl zr q ∧ q < ek ∧ ZB .u32 w' b T (win us off zr) ∧ w.grownBy w' (some b) := by
 have hB0 : 0 < ek := by rw [fe]; omega
 have hn2 := hp.n2; have Fp := hp.Mj; have huv := hp.Au
 obtain ⟨bv, ov, hA, hbv, agd⟩ := hv om
 subst hA
 have hgw : ∀ i, i < ul.length → Wd.g us (off + i) = Wd.g ul i := fun i hi => by
  have h := Jq us off ul hoff i hi
  rwa [show win us off ul = us by rw [Kk]; exact Jb us off _ hoff] at h
 have hu0 := hz.cell (off + n) om
 have hu1 := hz.cell (off + (n - 1)) om
 have hu2 := hz.cell (off + (n - 2)) om
 rw [hgw n om] at hu0
 rw [hgw (n - 1) om] at hu1
 rw [hgw (n - 2) om] at hu2
 obtain ⟨x0, hx0⟩ : ∃ t, t = Wd.g ul n := ⟨_, rfl⟩
 obtain ⟨x1, hx1⟩ : ∃ t, t = Wd.g ul (n - 1) := ⟨_, rfl⟩
 obtain ⟨x2, hx2⟩ : ∃ t, t = Wd.g ul (n - 2) := ⟨_, rfl⟩
 rw [← hx0] at hu0
 rw [← hx1] at hu1
 rw [← hx2] at hu2
 have b0 : x0 < ek := by rw [hx0]; exact Wd.getD_lt hB0 _ hp.ltu _
 have b1 : x1 < ek := by rw [hx1]; exact Wd.getD_lt hB0 _ hp.ltu _
 have b2 : x2 < ek := by rw [hx2]; exact Wd.getD_lt hB0 _ hp.ltu _
 have bt : top < ek := by rw [htop]; exact Wd.getD_lt hB0 _ hp.Yn _
 have bn : next < ek := by rw [hnext]; exact Wd.getD_lt hB0 _ hp.Yn _
 obtain ⟨hh, hhh⟩ : ∃ t, t = x0 * ek := ⟨_, rfl⟩
 obtain ⟨head, hhead⟩ : ∃ t, t = x0 * ek + x1 := ⟨_, rfl⟩
 obtain ⟨gq, hgq⟩ : ∃ t, t = head / top := ⟨_, rfl⟩
 obtain ⟨q0, hq0⟩ : ∃ t, t = min gq 4294967295 := ⟨_, rfl⟩
 obtain ⟨qt, hqt⟩ : ∃ t, t = q0 * top := ⟨_, rfl⟩
 obtain ⟨r0, hr0⟩ : ∃ t, t = head - qt := ⟨_, rfl⟩
 obtain ⟨Q, hQ⟩ : ∃ t, t = Wd.val ek ul / Wd.val ek vl := ⟨_, rfl⟩
 have hst := hp.start (head := head) (top := top) (by rw [hhead, hx0, hx1]; rfl) (by rw [htop]; rfl)
 rw [← hgq, ← hq0, ← hQ, ← hqt, ← hr0] at hst
 have hlow := hp.low
 rw [← hQ, ← Wd.qf, ← Wd.qf, ← Wd.qf, ← Wd.qf, ← Wd.qf, ← htop, ← hnext, ← hx0, ← hx1, ← hx2, ← hhead] at hlow
 have hone : ∀ q, q * (top * ek + next) ≤ head * ek + x2 → q < ek → q ≤ Q + 1 := fun q h1 h2 => by
  have := hp.one (q := q) (by rw [← Wd.qf, ← Wd.qf, ← Wd.qf, ← Wd.qf, ← Wd.qf, ← htop, ← hnext, ← hx0, ← hx1, ← hx2, ← hhead]; exact h1) h2
  rwa [← hQ] at this
 have ht0 : 0 < top := by rw [htop]; exact Nat.pos_of_ne_zero hp.top
 have b64 : ∀ t : Nat, t < ek → t < dm := fun t ht => by rw [fe] at ht; rw [gp]; omega
 have aqr : head < dm := by rw [hhead]; rw [fe] at *; rw [gp]; omega
 have e0 : IntKind.u64.wrap (x0 : Int) = (x0 : Int) := il rfl (b64 _ b0)
 have e1 : IntKind.u64.wrap (x1 : Int) = (x1 : Int) := il rfl (b64 _ b1)
 have e2 : IntKind.u64.wrap (x2 : Int) = (x2 : Int) := il rfl (b64 _ b2)
 have e3 : IntKind.u64.wrap ((x0 : Int) * 4294967296) = (hh : Int) := il (by rw [hhh, fe]; simp) (by rw [hhh]; rw [fe] at *; rw [gp]; omega)
 have e4 : Go.bits .or .u64 (hh : Int) (x1 : Int) = (head : Int) := by rw [hhh, aep b0 b1, hhead]
 have e5 : (head : Int).tdiv (top : Int) = (gq : Int) := by rw [hgq]; exact (Int.ofNat_tdiv _ _).symm
 have e5w : IntKind.u64.wrap (gq : Int) = (gq : Int) := il rfl (by have := Nat.div_le_self head top; omega)
 have e6 : min (gq : Int) 4294967295 = (q0 : Int) := by rw [hq0]; omega
 have e7 : IntKind.u64.wrap ((q0 : Int) * (top : Int)) = (qt : Int) := il (by rw [hqt]; simp) (by have := hst.2; omega)
 have e8 : IntKind.u64.wrap ((head : Int) - (qt : Int)) = (r0 : Int) := il (by have := hst.2; rw [hr0]; omega) (by rw [hr0]; omega)
 have e9 : ((top : Int) == 0) = false := beq_eq_false_iff_ne.2 om
 have e9' : ¬ ((top : Int) = 0) := by omega
 have bnl : ¬ (top = 0) := by omega
 have f1 : IntKind.i64.wrap ((n : Int) - 1) = (n : Int) - 1 := IntWalk.i64_in _ om
 have f2 : (0 : Int) ≤ (n : Int) - 1 := by omega
 have f3 : ((n : Int) - 1).toNat = n - 1 := by omega
 have f4 : IntKind.i64.wrap ((n : Int) - 2) = (n : Int) - 2 := IntWalk.i64_in _ om
 have f5 : (0 : Int) ≤ (n : Int) - 2 := by omega
 have f6 : ((n : Int) - 2).toNat = n - 2 := by omega
 have HB2 := hide (And.intro b2 bn)
 have HST := hide hst; have bgt := hide hlow; have bgq := hide hone; have HQ := Lib.hid hQ; have HP := hide hp
 have HGW := hide hgw; have HZ := hide hz; have HV := hide hv; have HT := hide (And.intro bt aqr); have Us := hide b64
 have HWU := Lib.hid (show win us off ul = us by rw [Kk]; exact Jb us off _ hoff)
 have aay := hide hoff; have HCV := hide agd; have Sd := hide (And.intro (hB bv ov rfl) (Nat.lt_of_lt_of_le hbv hBw))
 have hlen1 : n + 1 ≤ cap := by omega
 have Rh : n ≤ cv := by omega
 clear hst hlow hone hQ hp hgw Kk hx0 hx1 hx2 b0 b1 b2 bt bn hhh hhead hgq hq0 hqt hr0 ht0 b64 aqr htop hnext hoff hcz hcv Fp huv agd hz hv hB0 hB hbv hBw
 go_enter Tryz.func213, Tryz.ntmps213
 go_wp2_with fail
 go_quiet (fail)
 go_upto_block 0 with (fail)
 go_cut [11] (fun qv wx => ∃ q : Nat, qv = .int .u64 ((q : Nat) : Int) ∧ Hid (Q ≤ q ∧ q ≤ Q + 1 ∧ q < ek) ∧ ∃ t, wx = w.drewN t)
 case first =>
  have HL := bgt
  go_wp2_with fail
  go_loop [11, 12] (fun qv rv => ∃ q r : Nat, qv = .int .u64 ((q : Nat) : Int) ∧ rv = .int .u64 ((r : Nat) : Int) ∧ Hid (r < dm) ∧ Hid (Wd.Xr ek top head Q q r)) (fun qv _ => (intOf qv).toNat)
  case atStart => exact ⟨q0, r0, rfl, rfl, show r0 < dm by have h1 := (aa HST).1.eq; have h2 := (aa HT).2; omega, (aa HST).1⟩
  case round =>
   obtain ⟨q, r, rfl, rfl, hr, HI⟩ := hrel
   by_cases hb : ek ≤ r
   ·
    have d1 : decide ((r : Int) < 4294967296) = false := decide_eq_false (by rw [fe] at hb; omega)
    have hfits := (aa HI).fits (aa HB2).2 (d := x2) (.inl hb)
    have hres : Q ≤ q ∧ q ≤ Q + 1 ∧ q < ek := ⟨(aa HI).ge, (aa bgq) q hfits (aa HI).lt, (aa HI).lt⟩
    have HR := hide hres
    clear hfits hres hb
    go_wp2_with fail
    go_meet
    exact ⟨q, rfl, HR, _, rfl⟩
   ·
    have d1 : decide ((r : Int) < 4294967296) = true := decide_eq_true (by rw [fe] at hb; omega)
    have Pf : r < ek := by omega
    obtain ⟨p, yu⟩ : ∃ t, t = q * next := ⟨_, rfl⟩
    obtain ⟨rs, hrs⟩ : ∃ t, t = r * ek := ⟨_, rfl⟩
    obtain ⟨ro, hro⟩ : ∃ t, t = r * ek + x2 := ⟨_, rfl⟩
    have Pg : p < dm := by
     have h1 := (aa HI).lt
     have h2 := (aa HB2).2
     have h3 : q * next ≤ 4294967295 * 4294967295 := Nat.mul_le_mul (by rw [fe] at h1; omega) (by rw [fe] at h2; omega)
     rw [yu, gp]; omega
    have g1 : IntKind.u64.wrap ((q : Int) * (next : Int)) = (p : Int) := il (by rw [yu]; simp) Pg
    have g2 : IntKind.u64.wrap ((r : Int) * 4294967296) = (rs : Int) := il (by rw [hrs, fe]; simp) (by rw [hrs]; rw [fe] at *; rw [gp]; omega)
    have g3 : Go.bits .or .u64 (rs : Int) (x2 : Int) = (ro : Int) := by rw [hrs, aep Pf (aa HB2).1, hro]
    by_cases hlt : ro < p
    ·
     have d2 : decide ((ro : Int) < (p : Int)) = true := decide_eq_true om
     have d2' : decide (ro < p) = true := decide_eq_true hlt
     obtain ⟨h1, hstep⟩ := (aa HI).step (aa bgt) (by rw [← hro, ← yu]; exact hlt)
     obtain ⟨q2, hq2⟩ : ∃ t, t = q - 1 := ⟨_, rfl⟩
     obtain ⟨r2, hr2⟩ : ∃ t, t = r + top := ⟨_, rfl⟩
     rw [← hq2, ← hr2] at hstep
     have auu : r2 < dm := by have := (aa HT).1; rw [hr2]; rw [fe] at *; rw [gp]; omega
     have g4 : IntKind.u64.wrap ((q : Int) - 1) = (q2 : Int) := il (by rw [hq2]; omega) (by have := (aa HI).lt; rw [hq2]; rw [fe] at this; rw [gp]; omega)
     have g5 : IntKind.u64.wrap ((r : Int) + (top : Int)) = (r2 : Int) := il (by rw [hr2]; simp) auu
     have HS := hide hstep; have HR2 := hide auu; have HM := hide (show q2 < q by omega)
     clear hstep auu hq2 hr2 h1 hlt yu hrs hro Pg Pf hb
     go_wp2_with fail
     go_round
     case rel => exact ⟨q2, r2, rfl, rfl, HR2, HS⟩
     case measure => have := aa HM; simp [intOf]; omega
    ·
     have d2 : decide ((ro : Int) < (p : Int)) = false := decide_eq_false om
     have d2' : decide (ro < p) = false := decide_eq_false hlt
     have hfits := (aa HI).fits (aa HB2).2 (d := x2) (.inr (by rw [← hro, ← yu]; omega))
     have hres : Q ≤ q ∧ q ≤ Q + 1 ∧ q < ek := ⟨(aa HI).ge, (aa bgq) q hfits (aa HI).lt, (aa HI).lt⟩
     have HR := hide hres
     clear hfits hres hlt yu hrs hro Pg Pf hb
     go_wp2_with fail
     go_meet
     exact ⟨q, rfl, HR, _, rfl⟩
 case rest =>
  obtain ⟨q, rfl, HQR, t0, rfl⟩ := hcut
  go_wp2_with fail
  go_loopw [13, 14, 15] (fun bv cv iv wr => ∃ (i c b' : Nat) (zc : List Nat), i ≤ n + 1 ∧ bv = .int .u64 ((b' : Nat) : Int) ∧ cv = .int .u64 ((c : Nat) : Int) ∧ iv = .int .i64 ((i : Nat) : Int) ∧ Hid (Wd.Nc ek ul vl zc q i c b') ∧ Hid (i = n + 1 → c = 0) ∧ ZB .u32 wr b T (win us off zc) ∧ w.grownBy wr (some b)) (fun _ _ iv _ => n + 1 - (intOf iv).toNat)
  case atStart => exact ⟨0, 0, 0, ul, by omega, rfl, rfl, rfl, Wd.Nc.start _ _ _ (by rw [fe]; omega) (aa HP).ltu, fun _ => rfl, by rw [HWU.out]; exact (aa HZ).drewN _, ail (qo _ _) _⟩
  case round =>
   obtain ⟨i, c, b', zc, hi, rfl, rfl, rfl, HI, HC0, lg, hgr⟩ := hrel
   have aap : ek * ek = dm := by rw [fe, gp]
   have hzl := (aa HI).len
   by_cases hle : i ≤ n
   ·
    have d1 : decide ((i : Int) ≤ (n : Int)) = true := decide_eq_true om
    have d1' : decide (i ≤ n) = true := decide_eq_true hle
    obtain ⟨x, hx⟩ : ∃ t, t = Wd.g ul i := ⟨_, rfl⟩
    have Eh := lg.cell (off + i) (by rw [win_length _ _ _ (by rw [hzl]; exact aa aay)]; have h1 := (aa aay); have h2 := (aa HP).Au; omega)
    rw [Jq us off zc (by rw [hzl]; exact aa aay) i (by rw [hzl, (aa HP).Au]; omega), show Wd.g zc i = Wd.g ul i from (aa HI).same i (Nat.le_refl _), ← hx] at Eh
    have Ml := lg.frozen (off + i)
    have zf : x < ek := by rw [hx]; exact Wd.getD_lt (by rw [fe]; omega) _ (aa HP).ltu _
    by_cases hin : i < n
    ·
     have d2 : decide ((i : Int) < (n : Int)) = true := decide_eq_true om
     have d2' : decide (i < n) = true := decide_eq_true hin
     obtain ⟨y, hy⟩ : ∃ t, t = Wd.g vl i := ⟨_, rfl⟩
     have Rw := (World.cell?_of_block (hgr.block bv (aa Sd).2 (fun e => by injection e with e; exact (aa Sd).1 e))).trans ((aa HCV) i (by rw [(aa HP).Mj]; exact hin))
     rw [← hy] at Rw
     have Fj : y < ek := by rw [hy]; exact Wd.getD_lt (by rw [fe]; omega) _ (aa HP).Yn _
     obtain ⟨p, yu⟩ : ∃ t, t = q * y := ⟨_, rfl⟩
     obtain ⟨t, ht⟩ : ∃ t, t = c + p := ⟨_, rfl⟩
     have Tu : t < ek * ek := by
      have h1 := Wd.Ke (z := 0) (aa HQR).2.2 Fj (aa HI).c1 (by rw [fe]; omega)
      rw [ht, yu]; omega
     have k1 : IntKind.u64.wrap (y : Int) = (y : Int) := il rfl ((aa Us) _ Fj)
     have k2 : IntKind.u64.wrap ((q : Int) * (y : Int)) = (p : Int) := il (by rw [yu]; simp) (by rw [← aap]; omega)
     have k3 : IntKind.u64.wrap ((c : Int) + (p : Int)) = (t : Int) := il (by rw [ht]; simp) (by rw [← aap]; exact Tu)
     obtain ⟨lo, hlo⟩ : ∃ u, u = t % ek := ⟨_, rfl⟩
     obtain ⟨c2, hc2⟩ : ∃ u, u = t / ek := ⟨_, rfl⟩
     obtain ⟨s1, hs1⟩ : ∃ u : Nat, (u : Int) = ((x : Int) - (lo : Int)) % 18446744073709551616 := ⟨(((x : Int) - (lo : Int)) % 18446744073709551616).toNat, by omega⟩
     obtain ⟨s2, hs2⟩ : ∃ u : Nat, (u : Int) = ((s1 : Int) - (b' : Int)) % 18446744073709551616 := ⟨(((s1 : Int) - (b' : Int)) % 18446744073709551616).toNat, by omega⟩
     obtain ⟨d, hd⟩ : ∃ u, u = s2 % ek := ⟨_, rfl⟩
     obtain ⟨b2, hb2⟩ : ∃ u, u = s2 / 9223372036854775808 := ⟨_, rfl⟩
     have Im : lo < ek := by rw [hlo]; exact Nat.mod_lt _ (by rw [fe]; omega)
     have hsw := adv zf Im (aa HI).b1 hs1 hs2
     rw [← hd, ← hb2] at hsw
     have hnew : Wd.Nc ek ul vl (zc.set i d) q (i + 1) c2 b2 := by
      rw [hc2]
      refine (aa HI).step (by rw [(aa HP).Au]; omega) (by rw [ht, yu, hy]; rfl) Tu hsw.1 hsw.2.1 ?_
      rw [← hlo, ← Wd.qf, ← hx]
      exact hsw.2.2
     have m1 : IntKind.u64.wrap (x : Int) = (x : Int) := il rfl ((aa Us) _ zf)
     have m2 : IntKind.u32.wrap (t : Int) = (lo : Int) := by rw [Be, hlo]
     have m2' : (t : Int) % 4294967296 = (lo : Int) := by rw [hlo, fe]; omega
     have m3 : IntKind.u64.wrap (lo : Int) = (lo : Int) := il rfl ((aa Us) _ Im)
     have m4 : IntKind.u64.wrap ((x : Int) - (lo : Int)) = (s1 : Int) := by rw [IntKind.wrap_u64, hs1]
     have m5 : IntKind.u64.wrap ((s1 : Int) - (b' : Int)) = (s2 : Int) := by rw [IntKind.wrap_u64, hs2]
     have m6 : IntKind.u32.wrap (s2 : Int) = (d : Int) := by rw [Be, hd]
     have m6' : (s2 : Int) % 4294967296 = (d : Int) := by rw [hd, fe]; omega
     have m7 : (s2 : Int) / 9223372036854775808 = (b2 : Int) := by rw [hb2]; omega
     have m8 : (t : Int) / 4294967296 = (c2 : Int) := by rw [hc2, fe]; omega
     have hfin : ∀ W, W = wr.setCell ⟨b, off + i, none⟩ (.int .u32 (d : Int)) → ZB .u32 W b T (win us off (zc.set i d)) ∧ w.grownBy W (some b) := by
      rintro W rfl
      refine ⟨?_, ll hgr _ _⟩
      rw [← Fz us off zc (by rw [hzl, (aa HP).Au]; have := (aa aay); rw [(aa HP).Au] at this; exact this) i d (by rw [hzl, (aa HP).Au]; omega)]
      exact lg.Bp _ _
     have HN := hide hnew; have HF := hide hfin
     clear hnew hfin hsw hd hb2 hs1 hs2 hlo hc2 ht Tu Im zf hx hzl hgr lg aap yu hy Fj
     go_wp2_with fail
     go_roundw
     case rel =>
      obtain ⟨r1, r2⟩ := (aa HF) _ rfl
      exact ⟨i + 1, c2, b2, zc.set i d, by omega, rfl, rfl, by go_num, HN, fun h => by omega, r1, r2⟩
     case measure => simp [intOf]; omega
    ·
     have d2 : decide ((i : Int) < (n : Int)) = false := decide_eq_false om
     have d2' : decide (i < n) = false := decide_eq_false hin
     replace hin : i = n := by omega
     have hy0 : vl.getD i 0 = 0 := by
      have h := (aa HP).Mj
      rw [List.getD, List.getElem?_eq_none om]; rfl
     obtain ⟨t, ht⟩ : ∃ t, t = c := ⟨_, rfl⟩
     have htc : (t : Int) = (c : Int) := by rw [ht]
     have Tu : t < ek * ek := by
      have h1 := (aa HI).c1
      have h2 : ek * 1 ≤ ek * ek := Nat.mul_le_mul_left _ (by rw [fe]; omega)
      omega
     obtain ⟨lo, hlo⟩ : ∃ u, u = t % ek := ⟨_, rfl⟩
     obtain ⟨c2, hc2⟩ : ∃ u, u = t / ek := ⟨_, rfl⟩
     obtain ⟨s1, hs1⟩ : ∃ u : Nat, (u : Int) = ((x : Int) - (lo : Int)) % 18446744073709551616 := ⟨(((x : Int) - (lo : Int)) % 18446744073709551616).toNat, by omega⟩
     obtain ⟨s2, hs2⟩ : ∃ u : Nat, (u : Int) = ((s1 : Int) - (b' : Int)) % 18446744073709551616 := ⟨(((s1 : Int) - (b' : Int)) % 18446744073709551616).toNat, by omega⟩
     obtain ⟨d, hd⟩ : ∃ u, u = s2 % ek := ⟨_, rfl⟩
     obtain ⟨b2, hb2⟩ : ∃ u, u = s2 / 9223372036854775808 := ⟨_, rfl⟩
     have Im : lo < ek := by rw [hlo]; exact Nat.mod_lt _ (by rw [fe]; omega)
     have hsw := adv zf Im (aa HI).b1 hs1 hs2
     rw [← hd, ← hb2] at hsw
     have hnew : Wd.Nc ek ul vl (zc.set i d) q (i + 1) c2 b2 := by
      rw [hc2]
      refine (aa HI).step (by rw [(aa HP).Au]; omega) (by rw [ht, hy0, Nat.mul_zero, Nat.add_zero]) Tu hsw.1 hsw.2.1 ?_
      rw [← hlo, ← Wd.qf, ← hx]
      exact hsw.2.2
     have m1 : IntKind.u64.wrap (x : Int) = (x : Int) := il rfl ((aa Us) _ zf)
     have m2 : IntKind.u32.wrap (t : Int) = (lo : Int) := by rw [Be, hlo]
     have m2' : (t : Int) % 4294967296 = (lo : Int) := by rw [hlo, fe]; omega
     have m3 : IntKind.u64.wrap (lo : Int) = (lo : Int) := il rfl ((aa Us) _ Im)
     have m4 : IntKind.u64.wrap ((x : Int) - (lo : Int)) = (s1 : Int) := by rw [IntKind.wrap_u64, hs1]
     have m5 : IntKind.u64.wrap ((s1 : Int) - (b' : Int)) = (s2 : Int) := by rw [IntKind.wrap_u64, hs2]
     have m6 : IntKind.u32.wrap (s2 : Int) = (d : Int) := by rw [Be, hd]
     have m6' : (s2 : Int) % 4294967296 = (d : Int) := by rw [hd, fe]; omega
     have m7 : (s2 : Int) / 9223372036854775808 = (b2 : Int) := by rw [hb2]; omega
     have m8 : (t : Int) / 4294967296 = (c2 : Int) := by rw [hc2, fe]; omega
     have hfin : ∀ W, W = wr.setCell ⟨b, off + i, none⟩ (.int .u32 (d : Int)) → ZB .u32 W b T (win us off (zc.set i d)) ∧ w.grownBy W (some b) := by
      rintro W rfl
      refine ⟨?_, ll hgr _ _⟩
      rw [← Fz us off zc (by rw [hzl, (aa HP).Au]; have := (aa aay); rw [(aa HP).Au] at this; exact this) i d (by rw [hzl, (aa HP).Au]; omega)]
      exact lg.Bp _ _
     have Sc := Lib.hid (show c2 = 0 by rw [hc2, ht]; exact Nat.div_eq_of_lt (aa HI).c1)
     have HN := hide hnew; have HF := hide hfin
     clear hnew hfin hsw hd hb2 hs1 hs2 hlo hc2 Tu Im zf hx hzl hgr lg aap
     have HIN := Lib.hid hin
     subst ht
     clear hin hy0 htc
     go_wp2_with fail
     go_roundw
     case rel =>
      obtain ⟨r1, r2⟩ := (aa HF) _ rfl
      exact ⟨i + 1, c2, b2, zc.set i d, by have := HIN.out; omega, rfl, rfl, by go_num, HN, fun _ => Sc.out, r1, r2⟩
     case measure => have := HIN.out; simp [intOf]; omega
   ·
    have d1 : decide ((i : Int) ≤ (n : Int)) = false := decide_eq_false om
    have d1' : decide (i ≤ n) = false := decide_eq_false hle
    have e : i = n + 1 := by omega
    subst e
    clear hle
    have hc0 := (aa HC0) rfl
    subst hc0
    have Kz := (aa HQR).2.2
    have j1 : (q : Int) % 4294967296 = (q : Int) := by rw [fe] at Kz; omega
    have j2 : IntKind.u32.wrap (q : Int) = (q : Int) := by rw [IntKind.wrap_u32]; exact j1
    have hdone : Wd.val ek zc + q * Wd.val ek vl = Wd.val ek ul + ek ^ (n + 1) * b' := by
     have h1 := (aa HP).Au
     have h2 := aa HI
     rw [← h1] at h2 ⊢
     exact h2.done (by rw [h1, (aa HP).Mj]; omega)
    have Ic : 0 < Wd.val ek vl := by
     rcases Nat.eq_zero_or_pos (Wd.val ek vl) with h | h
     ·
      have := (aa HP).pre; rw [h] at this; omega
     ·
      exact h
    have Bc := Nat.div_add_mod (Wd.val ek ul) (Wd.val ek vl)
    rw [← HQ.out, Nat.mul_comm] at Bc
    have hml := Nat.mod_lt (Wd.val ek ul) Ic
    have amc := Wd.Ae zc (aa HI).lt
    rw [hzl, (aa HP).Au] at amc
    rcases (show b' = 0 ∨ b' = 1 by have := (aa HI).b1; omega) with rfl | rfl
    ·
     have hqQ : q = Q := by
      have h1 := (aa HQR).1
      have h2 := (aa HQR).2.1
      rcases (show q = Q ∨ q = Q + 1 by omega) with h | h
      ·
       exact h
      ·
       rw [h, Nat.add_mul, Nat.one_mul] at hdone; omega
     have hok : StepT ul vl zc q := ⟨hzl, (aa HI).lt, hqQ.trans HQ.out, by rw [hqQ] at hdone; omega⟩
     have xx := hide hok
     clear hok hqQ hdone Ic Bc hml amc aap Kz
     go_wp2_with fail
     go_ret
     exact ⟨zc, q, rfl, aa xx, (aa HQR).2.2, lg, hgr⟩
    ·
     have hqQ : q = Q + 1 := by
      have h1 := (aa HQR).1
      have h2 := (aa HQR).2.1
      rcases (show q = Q ∨ q = Q + 1 by omega) with h | h
      ·
       rw [h] at hdone; omega
      ·
       exact h
     have bfg : off + (n + 1) ≤ us.length := by have := aa aay; rwa [(aa HP).Au] at this
     have ahv := hide bfg
     have Wl := Lib.hid (hzl.trans (aa HP).Au)
     have HQQ := Lib.hid hqQ
     have HDN := Lib.hid hdone
     have HDM := hide (And.intro Bc (And.intro hml amc))
     have j3 : IntKind.u64.wrap ((q : Int) - 1) = (Q : Int) := il (by rw [hqQ]; omega) (by rw [fe] at Kz; rw [gp]; omega)
     have j4 : (Q : Int) % 4294967296 = (Q : Int) := by rw [fe] at Kz; omega
     have j5 : IntKind.u32.wrap (Q : Int) = (Q : Int) := by rw [IntKind.wrap_u32]; exact j4
     have HQB := hide (show Q < ek by omega)
     have HZC := hide (aa HI).lt
     clear hdone Ic Bc hml amc aap Kz bfg hqQ
     go_wp2_with fail
     go_loopw [14, 17] (fun cv iv wr => ∃ (i c : Nat) (zd : List Nat), i ≤ n + 1 ∧ cv = .int .u64 ((c : Nat) : Int) ∧ iv = .int .i64 ((i : Nat) : Int) ∧ Hid (Wd.Bd ek zc vl zd i c) ∧ ZB .u32 wr b T (win us off zd) ∧ w.grownBy wr (some b)) (fun _ iv _ => n + 1 - (intOf iv).toNat)
     case atStart => exact ⟨0, 0, zc, by omega, rfl, rfl, Wd.Bd.start _ _ (aa HZC), lg, hgr⟩
     case round =>
      clear lg hgr
      obtain ⟨i, c, zd, hi, rfl, rfl, HA, lg, hgr⟩ := hrel
      have Mm := (aa HA).len.trans Wl.out
      by_cases hle : i ≤ n
      ·
       have d1 : decide ((i : Int) ≤ (n : Int)) = true := decide_eq_true om
       have d1' : decide (i ≤ n) = true := decide_eq_true hle
       obtain ⟨x, hx⟩ : ∃ t, t = Wd.g zc i := ⟨_, rfl⟩
       have Eh := lg.cell (off + i) (by rw [win_length _ _ _ (by rw [Mm]; exact aa ahv)]; have h1 := (aa ahv); omega)
       rw [Jq us off zd (by rw [Mm]; exact aa ahv) i (by rw [Mm]; omega), show Wd.g zd i = Wd.g zc i from (aa HA).same i (Nat.le_refl _), ← hx] at Eh
       have Ml := lg.frozen (off + i)
       have zf : x < ek := by rw [hx]; exact Wd.getD_lt (by rw [fe]; omega) _ (aa HZC) _
       by_cases hin : i < n
       ·
        have d2 : decide ((i : Int) < (n : Int)) = true := decide_eq_true om
        have d2' : decide (i < n) = true := decide_eq_true hin
        obtain ⟨y, hy⟩ : ∃ t, t = Wd.g vl i := ⟨_, rfl⟩
        have Rw := (World.cell?_of_block (hgr.block bv (aa Sd).2 (fun e => by injection e with e; exact (aa Sd).1 e))).trans ((aa HCV) i (by rw [(aa HP).Mj]; exact hin))
        rw [← hy] at Rw
        have Fj : y < ek := by rw [hy]; exact Wd.getD_lt (by rw [fe]; omega) _ (aa HP).Yn _
        obtain ⟨s, hs⟩ : ∃ u, u = c + x := ⟨_, rfl⟩
        obtain ⟨t, ht⟩ : ∃ u, u = s + y := ⟨_, rfl⟩
        have hcB := (aa HA).c1
        have k1 : IntKind.u64.wrap (y : Int) = (y : Int) := il rfl ((aa Us) _ Fj)
        have k2 : IntKind.u64.wrap ((c : Int) + (x : Int)) = (s : Int) := il (by rw [hs]; simp) (by rw [hs]; rw [fe] at *; rw [gp]; omega)
        have k3 : IntKind.u64.wrap ((s : Int) + (y : Int)) = (t : Int) := il (by rw [ht]; simp) (by rw [ht, hs]; rw [fe] at *; rw [gp]; omega)
        have het : zd.getD i 0 + vl.getD i 0 + c = t := by rw [ht, hs, hx, hy, (aa HA).same i (Nat.le_refl _)]; show _ + Wd.g vl i + c = c + Wd.g zc i + Wd.g vl i; rw [show zc.getD i 0 = Wd.g zc i from rfl]; omega
        obtain ⟨d, hd⟩ : ∃ u, u = t % ek := ⟨_, rfl⟩
        obtain ⟨c2, hc2⟩ : ∃ u, u = t / ek := ⟨_, rfl⟩
        have hnew : Wd.Bd ek zc vl (zd.set i d) (i + 1) c2 := by
         have := (aa HA).step Cm (aa HP).Yn (by rw [Wl.out]; omega)
         rw [het] at this
         rw [hd, hc2]; exact this
        have m1 : IntKind.u64.wrap (x : Int) = (x : Int) := il rfl ((aa Us) _ zf)
        have m2 : IntKind.u32.wrap (t : Int) = (d : Int) := by rw [Be, hd]
        have m2' : (t : Int) % 4294967296 = (d : Int) := by rw [hd, fe]; omega
        have m8 : (t : Int) / 4294967296 = (c2 : Int) := by rw [hc2, fe]; omega
        have hfin : ∀ W, W = wr.setCell ⟨b, off + i, none⟩ (.int .u32 (d : Int)) → ZB .u32 W b T (win us off (zd.set i d)) ∧ w.grownBy W (some b) := by
         rintro W rfl
         refine ⟨?_, ll hgr _ _⟩
         rw [← Fz us off zd (by rw [Mm]; exact aa ahv) i d (by rw [Mm]; omega)]
         exact lg.Bp _ _
        have HN := hide hnew; have HF := hide hfin
        have HIN := Lib.hid hin
        clear hnew hfin het hd hc2 ht zf hx Mm hgr lg hcB hin hs hy Fj
        go_wp2_with fail
        go_roundw
        case rel =>
         obtain ⟨r1, r2⟩ := (aa HF) _ rfl
         exact ⟨i + 1, c2, zd.set i d, by have := HIN.out; omega, rfl, by go_num, HN, r1, r2⟩
        case measure => have := HIN.out; simp [intOf]; omega
       ·
        have d2 : decide ((i : Int) < (n : Int)) = false := decide_eq_false om
        have d2' : decide (i < n) = false := decide_eq_false hin
        replace hin : i = n := by omega
        have hy0 : vl.getD i 0 = 0 := by
         have h := (aa HP).Mj
         rw [List.getD, List.getElem?_eq_none om]; rfl
        obtain ⟨t, ht⟩ : ∃ u, u = c + x := ⟨_, rfl⟩
        have hcB := (aa HA).c1
        have k2 : IntKind.u64.wrap ((c : Int) + (x : Int)) = (t : Int) := il (by rw [ht]; simp) (by rw [ht]; rw [fe] at *; rw [gp]; omega)
        have het : zd.getD i 0 + vl.getD i 0 + c = t := by rw [ht, hx, hy0, (aa HA).same i (Nat.le_refl _)]; show _ + 0 + c = c + Wd.g zc i; rw [show zc.getD i 0 = Wd.g zc i from rfl]; omega
        obtain ⟨d, hd⟩ : ∃ u, u = t % ek := ⟨_, rfl⟩
        obtain ⟨c2, hc2⟩ : ∃ u, u = t / ek := ⟨_, rfl⟩
        have hnew : Wd.Bd ek zc vl (zd.set i d) (i + 1) c2 := by
         have := (aa HA).step Cm (aa HP).Yn (by rw [Wl.out]; omega)
         rw [het] at this
         rw [hd, hc2]; exact this
        have m1 : IntKind.u64.wrap (x : Int) = (x : Int) := il rfl ((aa Us) _ zf)
        have m2 : IntKind.u32.wrap (t : Int) = (d : Int) := by rw [Be, hd]
        have m2' : (t : Int) % 4294967296 = (d : Int) := by rw [hd, fe]; omega
        have m8 : (t : Int) / 4294967296 = (c2 : Int) := by rw [hc2, fe]; omega
        have hfin : ∀ W, W = wr.setCell ⟨b, off + i, none⟩ (.int .u32 (d : Int)) → ZB .u32 W b T (win us off (zd.set i d)) ∧ w.grownBy W (some b) := by
         rintro W rfl
         refine ⟨?_, ll hgr _ _⟩
         rw [← Fz us off zd (by rw [Mm]; exact aa ahv) i d (by rw [Mm]; omega)]
         exact lg.Bp _ _
        have HN := hide hnew; have HF := hide hfin
        have HIN := Lib.hid hin
        clear hnew hfin het hd hc2 ht zf hx Mm hgr lg hcB hin hy0
        go_wp2_with fail
        go_roundw
        case rel =>
         obtain ⟨r1, r2⟩ := (aa HF) _ rfl
         exact ⟨i + 1, c2, zd.set i d, by have := HIN.out; omega, rfl, by go_num, HN, r1, r2⟩
        case measure => have := HIN.out; simp [intOf]; omega
      ·
       have d1 : decide ((i : Int) ≤ (n : Int)) = false := decide_eq_false om
       have d1' : decide (i ≤ n) = false := decide_eq_false hle
       have e : i = n + 1 := by omega
       subst e
       have hok : StepT ul vl zd Q := by
        have h1 : Wd.val ek zd + ek ^ (n + 1) * c = Wd.val ek zc + Wd.val ek vl := by
         have h2 := aa HA
         rw [← Wl.out] at h2 ⊢
         exact h2.done (by rw [Wl.out, (aa HP).Mj]; omega)
        have h3 := Wd.Ae zd (aa HA).lt
        rw [Mm] at h3
        have h4 := HDN.out
        rw [HQQ.out, Nat.add_mul, Nat.one_mul, Nat.mul_one] at h4
        have h5 := (aa HDM).1
        have h6 := (aa HDM).2.2
        have hc := (aa HA).c1
        refine ⟨(aa HA).len.trans (Wl.out.trans (aa HP).Au.symm), (aa HA).lt, HQ.out, ?_⟩
        rcases (show c = 0 ∨ c = 1 by omega) with rfl | rfl
        ·
         rw [Nat.mul_zero] at h1; omega
        ·
         rw [Nat.mul_one] at h1; omega
       have xx := hide hok
       clear hok hle Mm
       go_wp2_with fail
       go_ret
       exact ⟨zd, Q, rfl, aa xx, aa HQB, lg, hgr⟩

def Zr (w : World) (q r : Nat) (e : Ending) (w' : World) : Prop :=
 ∃ A cap l A' cap' l', e = .returned (.tuple #[.slice A l.length cap, .slice A' l'.length cap']) ∧ qj w' A cap l q ∧ qj w' A' cap' l' r ∧ Below w.heap.size w w'

theorem aih (Ax Ay : Option Addr) (cx cy : Nat) (xl yl : List Nat) (n m : Nat) (w : World) (hx : qj w Ax cx xl n) (hy : qj w Ay cy yl m) (hlt : n < m) :
  Calls Tryz.prog 178 #[.slice Ax xl.length cx, .slice Ay yl.length cy] w fun e w' => Zr w (n / m) (n % m) e w' := by
 have hc := Le Ax Ay cx cy xl yl n m w hx hy
 rw [show rq n m = -1 by unfold rq; rw [if_pos hlt]] at hc
 rw [Nat.div_eq_of_lt hlt, Nat.mod_eq_of_lt hlt]
 have HC := hide hc
 have HX := hide hx
 clear hc hx hy hlt
 go_enter Tryz.func178, Tryz.ntmps178
 go_wp2_with fail
 refine (aa HC).mono ?_
 rintro e w' ⟨rfl, k, rfl⟩
 go_wp2
 go_ret2
 exact ⟨none, 0, [], Ax, cx, xl, rfl, qj.Qt _ _ om, (aa HX).below (mi (Below.refl _ _) k), mi (Below.refl _ _) k⟩

theorem apt (Ax Ay : Option Addr) (cx cy : Nat) (xl yl : List Nat) (n m : Nat) (w : World) (hx : qj w Ax cx xl n) (hy : qj w Ay cy yl m) (hge : ¬ n < m) (h1 : yl.length = 1) (hk : xl.length ≤ 35184372088832) :
  Calls Tryz.prog 178 #[.slice Ax xl.length cx, .slice Ay yl.length cy] w fun e w' => Zr w (n / m) (n % m) e w' := by
 have hc := Le Ax Ay cx cy xl yl n m w hx hy
 obtain ⟨o, ho⟩ : ∃ o, o = rq n m := ⟨_, rfl⟩
 rw [← ho] at hc
 have hd : decide (o < 0) = false := decide_eq_false (by rw [ho]; unfold rq; rw [if_neg hge]; split <;> omega)
 have HC := hide hc
 have hmk := Yl xl.length hk
 have hx1 := hx.ru; have hx2 := hx.cap2; have hy1 := hy.ru; have hy2 := hy.cap2
 obtain ⟨by', oy, hA, hby, hcy⟩ := hy.ws om
 subst hA
 have hy0 := hcy 0 om
 have hym : Wd.g yl 0 = m := by rw [Qs ek yl h1]; exact hy.val
 rw [hym, Nat.add_zero] at hy0
 have Iy : m < ek := by rw [← hym]; exact Wd.getD_lt (by rw [fe]; omega) _ hy.lt 0
 have hm0 : 0 < m := by
  rcases hy.norm with h | h
  ·
   rw [h] at h1; simp at h1
  ·
   rw [h1] at h; have : Wd.g yl 0 ≠ 0 := h; omega
 have l1 : ((yl.length : Int) == 1) = true := by rw [h1]; rfl
 have e1 : IntKind.u64.wrap (m : Int) = (m : Int) := il rfl (by rw [fe] at Iy; rw [gp]; omega)
 have e9 : ((m : Int) == 0) = false := beq_eq_false_iff_ne.2 om
 have e9' : ¬ ((m : Int) = 0) := by omega
 have bnl : ¬ (m = 0) := by omega
 have btb : 0 < yl.length := by omega
 have HY0 := hide (And.intro hby hy0)
 have hne1 : ¬ (w.heap.size = by') := by omega
 have hne2 : ¬ (by' = w.heap.size) := by omega
 have HMB := hide Iy; have HM0 := hide hm0
 have HX := hide hx
 clear hc ho hcy hy hym Iy hm0 hge hy0 hby hx h1
 go_enter Tryz.func178, Tryz.ntmps178
 go_wp2_with fail
 refine (aa HC).mono ?_
 rintro e w' ⟨rfl, k, rfl⟩
 go_wp2_with fail
 go_loopw [7, 8] (fun rv iv wr => ∃ (i : Int) (r : Nat) (qc : List Nat), -1 ≤ i ∧ i < xl.length ∧ iv = .int .i64 i ∧ rv = .int .u64 ((r : Nat) : Int) ∧ Hid (Wd.Br ek xl qc m (i + 1).toNat r) ∧ ZB .u32 wr w.heap.size 187 qc ∧ Below w.heap.size w wr) (fun _ iv _ => (intOf iv + 1).toNat)
 case atStart =>
  refine ⟨(xl.length : Int) - 1, 0, List.replicate xl.length 0, by omega, by omega, by first | rfl | go_num, rfl, ?_, heap_alloc_new (w.drewN k) _, (mi (Below.refl _ _) k).alloc (Nat.le_refl _) _⟩
  rw [show ((xl.length : Int) - 1 + 1).toNat = xl.length by omega]
  exact Wd.Br.start _ _ _ (by simp) (aa HM0) (Ja (by rw [fe]; omega) _)
 case round =>
  obtain ⟨i, r, qc, hi1, hi2, rfl, rfl, HI, lg, hg⟩ := hrel
  have hlen := HI.out.len
  by_cases h0 : i < 0
  ·
   have e : i = -1 := by omega
   subst e
   obtain ⟨v1, v2⟩ := HI.out.done
   rw [(aa HX).val] at v1 v2
   have Pf : r < ek := Nat.lt_trans HI.out.r1 (aa HMB)
   have j1 : (r : Int) % 4294967296 = (r : Int) := by rw [fe] at Pf; omega
   have j2 : IntKind.u32.wrap (r : Int) = (r : Int) := by rw [IntKind.wrap_u32]; exact j1
   have V1 := Lib.hid v1; have V2 := Lib.hid v2; have HRB := hide Pf
   clear v1 v2 Pf
   go_wp2_with fail
   have htr := Cn (some ⟨w.heap.size, 0, none⟩) qc.length qc (wr.heap.size) wr (lg.Dp _ lg.lt) (Nat.le_refl _) om
   rw [hlen] at htr
   refine htr.mono ?_
   rintro e w' ⟨⟨k1, rfl, ht, hk2⟩, hw⟩
   obtain rfl : wr = w' := hw.symm
   clear hw
   go_wp2_with fail
   have hn := heap_alloc_new wr (.cells (wu .u32 [r]) 187)
   have auh : ZB .u32 (wr.alloc (.cells (wu .u32 [r]) 187)) wr.heap.size 187 [r] := hn
   have Jk := Cn (some ⟨wr.heap.size, 0, none⟩) 1 [r] _ _ (auh.Dp _ auh.lt) (Nat.le_refl _) om
   refine Jk.mono ?_
   rintro e w' ⟨⟨k3, rfl, ht2, hk3⟩, hw⟩
   subst hw
   go_wp2_with fail
   go_ret2
   have hk4 : k1 = (qc.take k1).length := by simp; omega
   have hk5 : k3 = ([r].take k3).length := by rw [List.length_take]; omega
   have q1 := qj.Ao (cap := xl.length) lg HI.out.lt ht om om om
   rw [V1.out] at q1
   have q2 := qj.Ao (cap := 1) auh (by simpa using aa HRB) ht2 hk3 (by simp) om
   rw [show Wd.val ek [r] = n % m by rw [← V2.out]; simp [Wd.val]] at q2
   exact ⟨some ⟨w.heap.size, 0, none⟩, xl.length, qc.take k1, some ⟨wr.heap.size, 0, none⟩, 1, [r].take k3, Qn hk4 hk5, q1.below ((Below.refl _ _).alloc (Nat.le_refl _) _), q2, hg.alloc hg.size _⟩
  ·
   obtain ⟨j, rfl⟩ := Int.eq_ofNat_of_zero_le (show 0 ≤ i by omega)
   have Tv : j < xl.length := by omega
   obtain ⟨bx, ox, rfl, hbx, hcx⟩ := (aa HX).ws om
   have Eh := (hg.cell (p := ⟨bx, ox + j, none⟩) hbx).trans (hcx j Tv)
   have Rw := (hg.cell (p := ⟨by', oy, none⟩) (aa HY0).1).trans (aa HY0).2
   clear hcx
   have hzc := lg.cell j om
   have Ml := lg.frozen j
   obtain ⟨xj, hxj⟩ : ∃ t, t = Wd.g xl j := ⟨_, rfl⟩
   rw [← hxj] at Eh
   have zf : xj < ek := by rw [hxj]; exact Wd.getD_lt (by rw [fe]; omega) _ (aa HX).lt _
   have hinv : Wd.Br ek xl qc m (j + 1) r := by have := HI.out; rwa [show ((j : Int) + 1).toNat = j + 1 by omega] at this
   have Pf : r < ek := Nat.lt_trans hinv.r1 (aa HMB)
   obtain ⟨rs, hrs⟩ : ∃ t, t = r * ek := ⟨_, rfl⟩
   obtain ⟨X, hX⟩ : ∃ t, t = r * ek + xj := ⟨_, rfl⟩
   obtain ⟨q, hq⟩ : ∃ t, t = (r * ek + xj) / m := ⟨_, rfl⟩
   obtain ⟨s, hs⟩ : ∃ t, t = (r * ek + xj) % m := ⟨_, rfl⟩
   have hXB : X < dm := by rw [hX]; rw [fe] at *; rw [gp]; omega
   have Kz : q < ek := by
    rw [hq, Nat.div_lt_iff_lt_mul (aa HM0)]
    have h1 : (r + 1) * ek ≤ m * ek := Nat.mul_le_mul_right _ hinv.r1
    rw [Nat.add_mul, Nat.one_mul] at h1
    rw [Nat.mul_comm ek]; omega
   have hsm : s < m := by rw [hs]; exact Nat.mod_lt _ (aa HM0)
   have b64 : ∀ t : Nat, t < ek → t < dm := fun t ht => by rw [fe] at ht; rw [gp]; omega
   have g1 : IntKind.u64.wrap ((r : Int) * 4294967296) = (rs : Int) := il (by rw [hrs, fe]; simp) om
   have g2 : Go.bits .or .u64 (rs : Int) (xj : Int) = (X : Int) := by rw [hrs, aep Pf zf, hX]
   have g3 : IntKind.u64.wrap (xj : Int) = (xj : Int) := il rfl (b64 _ zf)
   have g4 : (X : Int).tdiv (m : Int) = (q : Int) := by rw [hq, hX]; exact (Int.ofNat_tdiv _ _).symm
   have g5 : (X : Int).tmod (m : Int) = (s : Int) := by rw [hs, hX]; exact (Int.ofNat_tmod _ _).symm
   have g6 : IntKind.u64.wrap (q : Int) = (q : Int) := il rfl (b64 _ Kz)
   have g7 : IntKind.u64.wrap (s : Int) = (s : Int) := il rfl (b64 _ (Nat.lt_trans hsm (aa HMB)))
   have g8 : (q : Int) % 4294967296 = (q : Int) := by rw [fe] at Kz; omega
   have g9 : IntKind.u32.wrap (q : Int) = (q : Int) := by rw [IntKind.wrap_u32]; exact g8
   have g10 : IntKind.u64.wrap (X : Int) = (X : Int) := il rfl hXB
   have hfin : ∀ W, W = wr.setCell ⟨w.heap.size, j, none⟩ (.int .u32 (q : Int)) → Hid (Wd.Br ek xl (qc.set j q) m j s) ∧ ZB .u32 W w.heap.size 187 (qc.set j q) ∧ Below w.heap.size w W := by
    rintro W rfl
    refine ⟨?_, lg.Bp _ _, hg.setCell (p := ⟨w.heap.size, j, none⟩) (Nat.le_refl _) _⟩
    rw [hq, hs, hxj]
    exact hinv.step Tv (by rw [← Wd.qf, ← hxj]; exact zf)
   have HF := hide hfin
   clear hfin hq hs hxj zf hinv lg hg HI hX hrs hXB Kz hsm b64 Pf
   go_wp2_with fail
   go_roundw
   case rel =>
    obtain ⟨r1, r2, r3⟩ := (aa HF) _ rfl
    exact ⟨(j : Int) - 1, s, qc.set j q, by omega, by omega, by go_num, rfl, by rw [show ((j : Int) - 1 + 1).toNat = j by omega]; exact r1, r2, r3⟩
   case measure => simp [intOf] <;> omega

theorem aqc (y : Nat) (hy : y < ek) (h0 : 0 < y) (w : World) : ∃ s : Nat, s < 32 ∧ 2147483648 ≤ y * 2 ^ s ∧ y * 2 ^ s < ek ∧
  ∀ w : World, Calls Tryz.prog 211 #[.int .u32 ((y : Nat) : Int)] w fun e w' => e = .returned (.int .i64 ((s : Nat) : Int)) ∧ w' = w := by
 obtain ⟨h1, h2⟩ := Pk 64 y (by rw [fe] at hy; omega)
 have h3 := (h2 om).1
 change y < 2 ^ Lib.bitLen y at h1
 change 2 ^ (Lib.bitLen y - 1) ≤ y at h3
 have hle := Lib.bitLen_le y 32 om (by rw [fe] at hy; omega)
 have hpos : 0 < Lib.bitLen y := by
  apply Classical.byContradiction
  intro h
  rw [show Lib.bitLen y = 0 by omega] at h1
  simp at h1; omega
 have e1 : 2 ^ (Lib.bitLen y - 1) * 2 ^ (32 - Lib.bitLen y) = 2147483648 := by
  rw [← Nat.pow_add, show Lib.bitLen y - 1 + (32 - Lib.bitLen y) = 31 by omega]
 have e2 : 2 ^ Lib.bitLen y * 2 ^ (32 - Lib.bitLen y) = ek := by
  rw [← Nat.pow_add, show Lib.bitLen y + (32 - Lib.bitLen y) = 32 by omega]; rfl
 refine ⟨32 - Lib.bitLen y, by omega, ?_, ?_, fun w => ?_⟩
 ·
  rw [← e1]; exact Nat.mul_le_mul_right _ h3
 ·
  rw [← e2]; exact Nat.mul_lt_mul_of_pos_right h1 (Nat.pow_pos om)
 ·
  refine (Tryz.bits_LeadingZeros32 (y : Int) w om (by rw [fe] at hy; omega)).mono ?_
  rintro e w' ⟨rfl, rfl⟩
  refine ⟨rf ?_, rfl⟩
  rw [Int.toNat_natCast]; omega

theorem aae (yl : List Nat) (m s : Nat) (aut : s ≤ 32) (hn : 1 ≤ yl.length) (hlt : ∀ x ∈ yl, x < ek) (hv : Wd.val ek yl = m) (hs1 : yl.getD (yl.length - 1) 0 * 2 ^ s < ek) (ht : yl.getD (yl.length - 1) 0 ≠ 0) :
  ek ^ (yl.length - 1) * 2 ^ s ≤ m * 2 ^ s ∧ m * 2 ^ s < ek ^ yl.length := by
 have h2 := Wd.og ek yl (yl.length - 1) om
 rw [show yl.length - 1 + 1 = yl.length by omega, Wd.iw _ _ _ (Nat.le_refl _), hv] at h2
 have h3 := Wd.Ae (B := ek) (yl.take (yl.length - 1)) (fun x hx => hlt x (List.mem_of_mem_take hx))
 rw [List.length_take, Nat.min_eq_left om] at h3
 have e : ek ^ yl.length = ek ^ (yl.length - 1) * ek := by rw [← Nat.pow_succ, show (yl.length - 1).succ = yl.length by omega]
 rw [e]
 generalize hP : ek ^ (yl.length - 1) = P at *
 generalize yl.getD (yl.length - 1) 0 = t at *
 have hS : 0 < 2 ^ s := Nat.pow_pos om
 have hsp := Bh s aut
 generalize 2 ^ s = S at *
 generalize 2 ^ (32 - s) = T at *
 have h6 : t * S + S ≤ ek := by
  rw [← hsp, Nat.mul_comm S] at hs1 ⊢
  have := Nat.lt_of_mul_lt_mul_right hs1
  have h7 : (t + 1) * S ≤ T * S := Nat.mul_le_mul_right _ this
  rwa [Nat.add_mul, Nat.one_mul] at h7
 constructor
 ·
  refine Nat.mul_le_mul_right _ ?_
  have : P * 1 ≤ P * t := Nat.mul_le_mul_left _ om
  omega
 ·
  have h4 : m + 1 ≤ P * (t + 1) := by rw [Nat.mul_add, Nat.mul_one]; omega
  have h5 : (m + 1) * S ≤ P * (t + 1) * S := Nat.mul_le_mul_right _ h4
  rw [Nat.add_mul, Nat.one_mul, Nat.mul_assoc, Nat.add_mul, Nat.one_mul] at h5
  have : P * (t * S + S) ≤ P * ek := Nat.mul_le_mul_left _ h6
  omega

theorem aec (Ax : Option Addr) (cx : Nat) (xl : List Nat) (n s : Nat) (w : World) (hx : qj w Ax cx xl n) (hs : s < 32) (hk : xl.length + 1 ≤ 35184372088832) :
  Calls Tryz.prog 212 #[.slice Ax xl.length cx, .int .u64 ((s : Nat) : Int)] w fun e w' =>
   ∃ b zr, e = .returned (.slice (some ⟨b, 0, none⟩) (xl.length + 1) (xl.length + 1)) ∧ w.heap.size ≤ b ∧ zr.length = xl.length + 1 ∧ (∀ x ∈ zr, x < ek) ∧ Wd.val ek zr = n * 2 ^ s ∧ ZB .u32 w' b 187 zr ∧ Below w.heap.size w w' :=
 (aia Ax cx xl n s w hx hs hk).mono fun e w' ⟨zr, h1, h2, h3, h4, h5, h6⟩ => ⟨w.heap.size, zr, h1, Nat.le_refl _, h2, h3, h4, h5, h6⟩

theorem alm (Ax Ay : Option Addr) (cx cy : Nat) (xl yl : List Nat) (n m : Nat) (w : World) (hx : qj w Ax cx xl n) (hy : qj w Ay cy yl m) (hge : ¬ n < m) (hk : xl.length + 1 ≤ 35184372088832) (hk2 : yl.length + 1 ≤ 35184372088832) (hn2 : 2 ≤ yl.length) :
  Calls Tryz.prog 178 #[.slice Ax xl.length cx, .slice Ay yl.length cy] w fun e w' => Zr w (n / m) (n % m) e w' := by
 have hx1 := hx.ru; have hx2 := hx.cap2; have hy1 := hy.ru; have hy2 := hy.cap2
 have hny : yl.length ≤ xl.length := by
  rcases Nat.lt_or_ge xl.length yl.length with h | h
  ·
   exfalso; apply hge; rw [← hx.val, ← hy.val]; exact Wd.uw Cm xl yl hx.lt hy.norm h
  ·
   exact h
 have hc := Le Ax Ay cx cy xl yl n m w hx hy
 obtain ⟨o3, ho3⟩ : ∃ o, o = rq n m := ⟨_, rfl⟩
 rw [← ho3] at hc
 have ho : decide (o3 < 0) = false := decide_eq_false (by rw [ho3]; unfold rq; rw [if_neg hge]; split <;> omega)
 have HC := hide hc
 have hb1 : ((yl.length : Int) == 1) = false := by simp; omega
 obtain ⟨by', oy, hA, hby, hcy⟩ := hy.ws om
 subst hA
 have hyt := hcy (yl.length - 1) om
 obtain ⟨yt, Gj⟩ : ∃ t, t = Wd.g yl (yl.length - 1) := ⟨_, rfl⟩
 rw [← Gj] at hyt
 have Fj : yt < ek := by rw [Gj]; exact Wd.getD_lt (by rw [fe]; omega) _ hy.lt _
 have hy0 : yt ≠ 0 := by
  rw [Gj]
  rcases hy.norm with h | h
  ·
   rw [h] at hn2; simp at hn2
  ·
   exact h
 have hm : 0 < m := by
  rcases Nat.eq_zero_or_pos m with h | h
  ·
   exfalso
   have h1 := aso (B := ek) yl yl.length om rfl
   rw [hy.val, h] at h1
   have h2 : 0 < ek ^ (yl.length - 1) := Nat.pow_pos (by rw [fe]; omega)
   have h3 := Nat.mul_pos (Nat.pos_of_ne_zero (show yl.getD (yl.length - 1) 0 ≠ 0 by rw [← Wd.qf, ← Gj]; exact hy0)) h2
   omega
  ·
   exact h
 obtain ⟨s, hs, hs1, hs2, hlz⟩ := aqc yt Fj om w
 obtain ⟨vb1, vb2⟩ := aae yl m s om om hy.lt hy.val (by rw [← Wd.qf, ← Gj]; exact hs2) (by rw [← Wd.qf, ← Gj]; exact hy0)
 obtain ⟨lq, hlq⟩ : ∃ t, t = xl.length + 1 - yl.length := ⟨_, rfl⟩
 have Xj : ((lq : Nat) : Int) = (xl.length : Int) + 1 - (yl.length : Int) := by omega
 have hmk := Yl lq om
 rw [Xj] at hmk
 have bmt : lq + yl.length = xl.length + 1 := by omega
 have es : IntKind.u64.wrap (s : Int) = (s : Int) := il rfl (by rw [gp]; omega)
 have HLZ := hide hlz
 have HLQ := Lib.hid Xj
 have HYT := Lib.hid Gj
 have HV1 := hide vb1; have Zu := hide vb2
 clear hlz Gj hcy vb1 vb2 hs1 hs2 Xj hlq hc ho3 hge
 go_enter Tryz.func178, Tryz.ntmps178
 go_wp2_with fail
 refine (aa HC).mono ?_
 rintro e w' ⟨rfl, k, rfl⟩
 go_wp2_with fail
 refine ((aa HLZ) _).mono ?_
 rintro e w1 ⟨rfl, hw1⟩
 have Hg : Below w.heap.size w w1 := by rw [hw1]; exact mi (Below.refl _ _) k
 clear hw1
 go_wp2_with fail
 refine (aec Ax cx xl n s w1 (hx.below Hg) hs hk).mono ?_
 rintro e w2 ⟨bu, uz, rfl, hbu, Kk, aun, huv, Wh, hb2⟩
 have bmj := (hy.below Hg).below hb2
 have HUL := Lib.hid Kk
 have Ir := Lib.hid huv
 clear Kk huv
 go_wp2_with fail
 refine (aec _ cy yl m s w2 bmj hs hk2).mono ?_
 rintro e w4 ⟨bv, vz, rfl, hbv, hvl, Xi, hvv, Pb, hb3⟩
 have Zt := Lib.hid hvl; have HVV := Lib.hid hvv
 have btu : bu < bv := Nat.lt_of_lt_of_le Wh.lt hbv
 replace Wh := Wh.below hb3 Wh.lt
 clear hvl hvv
 go_wp2_with fail
 have htr := Cn (some ⟨bv, 0, none⟩) vz.length vz w4.heap.size w4 (Pb.Dp _ Pb.lt) (Nat.le_refl _) (by have := Zt.out; omega)
 rw [Zt.out] at htr
 refine htr.mono ?_
 rintro e w3 ⟨⟨kv, rfl, ht, hkv⟩, hw3⟩
 obtain rfl : w4 = w3 := hw3.symm
 clear hw3
 have Fp : (vz.take kv).length = yl.length := by
  refine Vy Cm _ ht.norm (fun x hx => Xi x (List.mem_of_mem_take hx)) _ om ?_ ?_
  ·
   rw [ht.val, HVV.out]; exact Nat.le_trans (Nat.le_mul_of_pos_right _ (Nat.pow_pos om)) (aa HV1)
  ·
   rw [ht.val, HVV.out]; exact aa Zu
 have auw : kv = yl.length := by have := Zt.out; rw [List.length_take] at Fp; omega
 subst auw
 have HT := hide ht; have HVN := Lib.hid Fp
 have Xm : Below w.heap.size w w4 := Hg.trans ((hb2.mono Hg.size).trans (hb3.mono (Nat.le_trans Hg.size hb2.size)))
 clear ht Fp
 obtain ⟨V, hV⟩ : ∃ t, t = m * 2 ^ s := ⟨_, rfl⟩
 have Za : Wd.val ek (vz.take yl.length) = V := by rw [(aa HT).val, HVV.out, hV]
 have agi : V < ek ^ yl.length := by rw [hV]; exact aa Zu
 have Ic : 0 < V := by rw [hV]; exact Nat.mul_pos hm (Nat.pow_pos om)
 have htop : Wd.val ek uz < V * ek ^ lq := by
  rw [Ir.out, hV]
  have h1 := Wd.Ae xl hx.lt
  rw [hx.val] at h1
  have h2 := aa HV1
  have h3 : ek ^ (yl.length - 1) * ek ^ lq = ek ^ xl.length := by rw [← Nat.pow_add, show yl.length - 1 + lq = xl.length by omega]
  have h4 : ek ^ (yl.length - 1) * 2 ^ s * ek ^ lq ≤ m * 2 ^ s * ek ^ lq := Nat.mul_le_mul_right _ h2
  have h5 : n * 2 ^ s < ek ^ xl.length * 2 ^ s := Nat.mul_lt_mul_of_pos_right h1 (Nat.pow_pos om)
  have h6 : ek ^ (yl.length - 1) * 2 ^ s * ek ^ lq = ek ^ xl.length * 2 ^ s := by
   rw [← h3]; simp only [Nat.mul_comm, Nat.mul_left_comm, Nat.mul_assoc]
  omega
 have hstart : Wd.wm ek V uz uz (List.replicate lq 0) lq := Wd.wm.start _ _ _ aun (Ja (by rw [fe]; omega) _) (by simp) htop
 have amd : Ws .u32 w4 (bv + 1) (some ⟨bv, 0, none⟩) (vz.take yl.length) := (Pb.Dp _ (Nat.lt_succ_self _)).Qe _
 have hgt : ∀ i, i < yl.length → Wd.g vz i = Wd.g (vz.take yl.length) i := fun i hi => by rw [Wd.qf, Wd.qf, Wd.getD_take _ _ _ hi]
 have hvt := Pb.cell (yl.length - 1) (by have := Zt.out; omega)
 have aum := Pb.cell (yl.length - 2) (by have := Zt.out; omega)
 rw [hgt _ om] at hvt aum
 obtain ⟨top, htp⟩ : ∃ t, t = Wd.g (vz.take yl.length) (yl.length - 1) := ⟨_, rfl⟩
 obtain ⟨next, hnx⟩ : ∃ t, t = Wd.g (vz.take yl.length) (yl.length - 2) := ⟨_, rfl⟩
 rw [← htp] at hvt
 rw [← hnx] at aum
 have Tu : top < ek := by rw [htp]; exact Wd.getD_lt (by rw [fe]; omega) _ (fun x hx => Xi x (List.mem_of_mem_take hx)) _
 have hnB : next < ek := by rw [hnx]; exact Wd.getD_lt (by rw [fe]; omega) _ (fun x hx => Xi x (List.mem_of_mem_take hx)) _
 have et : IntKind.u64.wrap (top : Int) = (top : Int) := il rfl (by rw [fe] at Tu; rw [gp]; omega)
 have en : IntKind.u64.wrap (next : Int) = (next : Int) := il rfl (by rw [fe] at hnB; rw [gp]; omega)
 have hv4 : bv < w4.heap.size := Pb.lt
 have hu4 : bu < w4.heap.size := Wh.lt
 have f1 : IntKind.i64.wrap ((yl.length : Int) - 1) = (yl.length : Int) - 1 := IntWalk.i64_in _ om
 have f2 : (0 : Int) ≤ (yl.length : Int) - 1 := by omega
 have f3 : ((yl.length : Int) - 1).toNat = yl.length - 1 := by omega
 have f4 : IntKind.i64.wrap ((yl.length : Int) - 2) = (yl.length : Int) - 2 := IntWalk.i64_in _ om
 have f5 : (0 : Int) ≤ (yl.length : Int) - 2 := by omega
 have f6 : ((yl.length : Int) - 2).toNat = yl.length - 2 := by omega
 have i1 : ¬ (bv = w4.heap.size) := by omega
 have i2 : ¬ (w4.heap.size = bv) := by omega
 have Rq := Lib.hid Za; have ahp := hide agi; have HV0 := hide Ic; have awc := Lib.hid hV; have HST := hide hstart
 have HTP := Lib.hid htp; have HNX := Lib.hid hnx; have Xv := hide (And.intro hv4 hu4)
 have bmu : 0 < lq := by omega
 clear Za agi hV hstart htop hyt hy0 htp hnx hgt Tu hnB
 go_wp2_with fail
 go_quiet (fail)
 go_wp2_with fail
 go_loopw [16] (fun iv wr => ∃ (i : Int) (us qs : List Nat), -1 ≤ i ∧ i < lq ∧ iv = .int .i64 i ∧ Hid (Wd.wm ek V uz us qs (i + 1).toNat) ∧ Hid (qs.length = lq) ∧ ZB .u32 wr bu 187 us ∧ ZB .u32 wr w4.heap.size 187 qs ∧ Ws .u32 wr (bv + 1) (some ⟨bv, 0, none⟩) (vz.take yl.length) ∧ Below w.heap.size w wr ∧ w4.heap.size < wr.heap.size) (fun iv _ => (intOf iv + 1).toNat)
 case atStart =>
  refine ⟨(lq : Int) - 1, uz, List.replicate lq 0, by omega, by omega, rfl, ?_, by show _ = _; simp, (Wh.alloc _).drewN _, ZB.drewN (heap_alloc_new w4 _) _, (amd.alloc om _).drewN _, mi (Xm.alloc Xm.size _) _, by show w4.heap.size < (w4.alloc _).heap.size; simp⟩
  rw [show ((lq : Int) - 1 + 1).toNat = lq by omega]
  exact HST
 case round =>
  clear Wh Pb amd hvt aum
  obtain ⟨i, us, qs, hi1, hi2, rfl, HI, Kq, Mo, hqz, We, hbr, aur⟩ := hrel
  obtain ⟨wo, rfl⟩ : ∃ wo : World, wo = wr := ⟨_, rfl⟩
  by_cases h0 : i < 0
  ·
   have e : i = -1 := by omega
   subst e
   obtain ⟨v1, v2⟩ := HI.out.done
   have hS : 0 < 2 ^ s := Nat.pow_pos om
   obtain ⟨sd1, sd2⟩ := Wd.Qj (N := n) (Y := m) (S := 2 ^ s) hS
   rw [Ir.out, awc.out] at v1 v2
   rw [sd1] at v1
   have v3 : Wd.val ek us / 2 ^ s = n % m := by rw [v2]; exact sd2
   have V1 := Lib.hid v1; have V3 := Lib.hid v3
   have Jj : us.length = xl.length + 1 := HI.out.Au.trans HUL.out
   have awh := hide HI.out.lt; have awg := hide HI.out.ltq
   have Jk := Cn (some ⟨bu, 0, none⟩) us.length us wo.heap.size wo (Mo.Dp _ Mo.lt) (Nat.le_refl _) om
   rw [Jj] at Jk
   have T2 := hide Jk
   have Oo := Lib.hid Jj
   clear v1 v2 sd1 sd2 v3 Jk Jj HI We
   go_wp2_with fail
   refine (aa T2).mono ?_
   rintro e w6 ⟨⟨k2, rfl, ht2, bei⟩, Tq⟩
   obtain rfl : wo = w6 := Tq.symm
   clear Tq
   obtain ⟨rl, hrl⟩ : ∃ l, l = us.take k2 := ⟨_, rfl⟩
   have hrlen : rl.length = k2 := by rw [hrl, List.length_take]; have := Oo.out; omega
   have hrv : Wd.val ek rl = Wd.val ek us := by rw [hrl]; exact ht2.val _
   have bea : ∀ x ∈ rl, x < ek := fun x hx => (aa awh) x (by rw [hrl] at hx; exact List.mem_of_mem_take hx)
   have hwin : win us 0 rl = us := by
    have := Jb us 0 k2 (by have := Oo.out; omega)
    rw [List.drop_zero, ← hrl] at this
    exact this
   have btp : k2 ≤ us.length := by rw [Oo.out]; exact bei
   have HRV := Lib.hid hrv; have awd := hide bea; have boa := Lib.hid hwin; have Zv := Lib.hid hrlen
   have bto : k2 ≤ xl.length + 1 := by have := Oo.out; omega
   have HQZ := hide hqz
   clear hrv bea hwin hrlen hrl ht2 bei T2
   go_wp2_with fail
   go_loopw [18] (fun iv wr => ∃ (i : Nat) (zc : List Nat), i ≤ k2 ∧ iv = .int .i64 ((i : Nat) : Int) ∧ Hid (Wd.Ct ek (2 ^ s) rl zc i) ∧ Hid (∀ j, i ≤ j → zc.getD j 0 = rl.getD j 0) ∧ ZB .u32 wr bu 187 (win us 0 zc) ∧ Hid (ZB .u32 wr w4.heap.size 187 qs) ∧ Below w.heap.size w wr) (fun iv _ => k2 - (intOf iv).toNat)
   case atStart => exact ⟨0, rl, Nat.zero_le _, rfl, Wd.Ct.start _ _ rfl (aa awd), fun _ _ => rfl, by rw [boa.out]; exact Mo, HQZ, hbr⟩
   case round =>
    clear Mo hqz HQZ hbr
    obtain ⟨i, zc, hi, rfl, HI, Du, lg, HQZ, hbr⟩ := hrel
    have hzl : zc.length = k2 := HI.out.len.trans Zv.out
    by_cases hlt : i < k2
    ·
     have gz : ∀ t, t < k2 → Wd.g (win us 0 zc) t = Wd.g zc t := fun t ht => by
      have := Jq us 0 zc om t om
      rwa [Nat.zero_add] at this
     obtain ⟨x, hx'⟩ : ∃ t, t = Wd.g rl i := ⟨_, rfl⟩
     have Eh := lg.cell i (by rw [win_length _ _ _ om]; omega)
     rw [gz i hlt, show Wd.g zc i = Wd.g rl i from Du.out i (Nat.le_refl _), ← hx'] at Eh
     have Ml := lg.frozen i
     have zf : x < ek := by rw [hx']; exact Wd.getD_lt (by rw [fe]; omega) _ (aa awd) _
     obtain ⟨v, hv⟩ : ∃ t, t = x / 2 ^ s := ⟨_, rfl⟩
     have hvB : v < ek := Nat.lt_of_le_of_lt (by rw [hv]; exact Nat.div_le_self _ _) zf
     have m1 : (x : Int) / 2 ^ s = (v : Int) := by rw [hv]; simp
     have m1' : (x : Int) / 2 ^ (min s 32) = (v : Int) := by rw [Nat.min_eq_left om]; exact m1
     have hset : ∀ (W : World) (y : Nat), ZB .u32 W bu 187 (win us 0 zc) → ZB .u32 (W.setCell ⟨bu, i, none⟩ (.int .u32 (y : Int))) bu 187 (win us 0 (zc.set i y)) := fun W y h => by
      have := Fz us 0 zc om i y om
      rw [Nat.zero_add] at this
      rw [← this]
      exact h.Bp _ _
     by_cases hin : i + 1 < k2
     ·
      have d1 : decide ((i : Int) + 1 < (k2 : Int)) = true := decide_eq_true om
      have d1' : decide (i + 1 < k2) = true := decide_eq_true hin
      obtain ⟨x2, afp⟩ : ∃ t, t = Wd.g rl (i + 1) := ⟨_, rfl⟩
      have bmk := lg.cell (i + 1) (by rw [win_length _ _ _ om]; omega)
      rw [gz (i + 1) hin, show Wd.g zc (i + 1) = Wd.g rl (i + 1) from Du.out (i + 1) om, ← afp] at bmk
      have auj : x2 < ek := by rw [afp]; exact Wd.getD_lt (by rw [fe]; omega) _ (aa awd) _
      obtain ⟨p, yu⟩ : ∃ t, t = x2 * 2 ^ (32 - s) := ⟨_, rfl⟩
      obtain ⟨lo, hlo⟩ : ∃ t, t = p % ek := ⟨_, rfl⟩
      obtain ⟨v2, hv2⟩ : ∃ t, t = v + lo := ⟨_, rfl⟩
      have Pg : p < dm := by
       have h1 : 2 ^ (32 - s) ≤ 2 ^ 32 := Nat.pow_le_pow_right om om
       have h2 : x2 * 2 ^ (32 - s) ≤ x2 * 2 ^ 32 := Nat.mul_le_mul_left _ h1
       rw [yu]; rw [fe] at auj; rw [gp]; omega
      have hlo2 : lo = x2 % 2 ^ s * 2 ^ (32 - s) := by
       rw [hlo, yu, ← Bh s om, Nat.mul_mod_mul_right]
      have hvT : v < 2 ^ (32 - s) := by
       rw [hv, Nat.div_lt_iff_lt_mul (Nat.pow_pos om), Nat.mul_comm, Bh s om]; exact zf
      have Im : lo < ek := by rw [hlo]; exact Nat.mod_lt _ (by rw [fe]; omega)
      have m2 : IntKind.u64.wrap (x2 : Int) = (x2 : Int) := il rfl (by rw [fe] at auj; rw [gp]; omega)
      have m3 : IntKind.u64.wrap (32 - (s : Int)) = ((32 - s : Nat) : Int) := il om (by rw [gp]; omega)
      have m4 : IntKind.u64.wrap ((x2 : Int) * 2 ^ (32 - s)) = (p : Int) := il (by rw [yu]; simp) Pg
      have m4' : IntKind.u64.wrap ((x2 : Int) * 2 ^ (min (32 - s) 64)) = (p : Int) := by rw [Nat.min_eq_left om]; exact m4
      have m5 : (p : Int) % 4294967296 = (lo : Int) := by rw [hlo, fe]; omega
      have m6 : IntKind.u32.wrap (p : Int) = (lo : Int) := by rw [Be, hlo]
      have m7 : Go.bits .or .u32 (v : Int) (lo : Int) = (v2 : Int) := by rw [Oc v lo hvB Im, hv2, hlo2, Lx hvT]
      have hfin : ∀ W, W = (wr.setCell ⟨bu, i, none⟩ (.int .u32 (v : Int))).setCell ⟨bu, i, none⟩ (.int .u32 (v2 : Int)) → Hid (Wd.Ct ek (2 ^ s) rl (zc.set i v2) (i + 1)) ∧ Hid (∀ j, i + 1 ≤ j → (zc.set i v2).getD j 0 = rl.getD j 0) ∧ ZB .u32 W bu 187 (win us 0 (zc.set i v2)) ∧ Hid (ZB .u32 W w4.heap.size 187 qs) ∧ Below w.heap.size w W := by
       rintro W rfl
       have hne : w4.heap.size ≠ bu := by have := (aa Xv).2; omega
       have hbw : w.heap.size ≤ bu := Nat.le_trans Hg.size hbu
       refine ⟨?_, fun j hj => ?_, ?_, ?_, ?_⟩
       ·
        have := HI.out.step (Bh s om) (Nat.pow_pos om) (by rw [Zv.out]; exact hlt) (by rw [← Wd.qf, ← hx']; exact zf)
        rw [← Wd.qf, ← Wd.qf, ← hx', ← afp, ← hv, ← hlo2, ← hv2] at this
        exact this
       ·
        simp only [List.getD]
        rw [List.getElem?_set_ne om]
        exact Du.out j om
       ·
        have h1 := hset wr v lg
        have h2 := Fz us 0 (zc.set i v) (by rw [List.length_set]; omega) i v2 (by rw [List.length_set]; omega)
        rw [Nat.zero_add, List.set_set] at h2
        rw [← h2]
        exact h1.Bp _ _
       ·
        exact (Below.heap_setCell _ _ _ w4.heap.size hne).trans ((Below.heap_setCell _ _ _ w4.heap.size hne).trans (aa HQZ))
       ·
        exact (hbr.setCell (p := ⟨bu, i, none⟩) hbw _).setCell (p := ⟨bu, i, none⟩) hbw _
      have HF := hide hfin
      have aui := hset wr v lg
      have bna := aui.cell i (by rw [win_length _ _ _ (by rw [List.length_set]; omega)]; omega)
      have ben : Wd.g (win us 0 (zc.set i v)) i = v := by
       have := Jq us 0 (zc.set i v) (by rw [List.length_set]; omega) i (by rw [List.length_set]; omega)
       rw [Nat.zero_add] at this
       rw [this, Wd.qf, List.getD, List.getElem?_set_self om]; rfl
      rw [ben] at bna
      have bds := aui.frozen i
      have bmz := aui.cell (i + 1) (by rw [win_length _ _ _ (by rw [List.length_set]; omega)]; omega)
      have bek : Wd.g (win us 0 (zc.set i v)) (i + 1) = x2 := by
       have := Jq us 0 (zc.set i v) (by rw [List.length_set]; omega) (i + 1) (by rw [List.length_set]; omega)
       rw [Nat.zero_add] at this
       rw [this, Wd.qf, List.getD, List.getElem?_set_ne om]
       exact (Du.out (i + 1) om).trans afp.symm
      rw [bek] at bmz
      clear hset hfin hx' afp hv hv2 hlo hlo2 yu lg gz ben bek hvT zf auj hvB Im Pg hbr
      go_wp2_with fail
      have hii : IntKind.i64.wrap ((i : Int) + 1) = (i : Int) + 1 := IntWalk.i64_in _ om
      have hi1 : (0 : Int) ≤ (i : Int) + 1 := by omega
      have hi2 : ((i : Int) + 1).toNat = i + 1 := by omega
      have hi3 : (i : Int) + 1 < (k2 : Int) := by omega
      go_region
      all_goals
       go_wp2_with fail
       go_roundw
       case rel =>
        obtain ⟨r1, r2, r3, r4, r5⟩ := (aa HF) _ rfl
        exact ⟨i + 1, _, by omega, by go_num, r1, r2, r3, r4, by first | exact r5 | exact r5.drew⟩
       case measure => simp [intOf] <;> omega
     ·
      have d1 : decide ((i : Int) + 1 < (k2 : Int)) = false := decide_eq_false om
      have d1' : decide (i + 1 < k2) = false := decide_eq_false hin
      have hfin : ∀ W, W = wr.setCell ⟨bu, i, none⟩ (.int .u32 (v : Int)) → Hid (Wd.Ct ek (2 ^ s) rl (zc.set i v) (i + 1)) ∧ Hid (∀ j, i + 1 ≤ j → (zc.set i v).getD j 0 = rl.getD j 0) ∧ ZB .u32 W bu 187 (win us 0 (zc.set i v)) ∧ Hid (ZB .u32 W w4.heap.size 187 qs) ∧ Below w.heap.size w W := by
       rintro W rfl
       have hne : w4.heap.size ≠ bu := by have := (aa Xv).2; omega
       have hbw : w.heap.size ≤ bu := Nat.le_trans Hg.size hbu
       refine ⟨?_, fun j hj => ?_, hset _ _ lg, ?_, ?_⟩
       ·
        have := HI.out.step (Bh s om) (Nat.pow_pos om) (by rw [Zv.out]; exact hlt) (by rw [← Wd.qf, ← hx']; exact zf)
        have h0 : rl.getD (i + 1) 0 = 0 := by simp only [List.getD]; rw [List.getElem?_eq_none (by rw [Zv.out]; omega)]; rfl
        rw [h0, Nat.zero_mod, Nat.zero_mul, Nat.add_zero, ← Wd.qf, ← hx', ← hv] at this
        exact this
       ·
        simp only [List.getD]
        rw [List.getElem?_set_ne om]
        exact Du.out j om
       ·
        exact (Below.heap_setCell _ _ _ w4.heap.size hne).trans (aa HQZ)
       ·
        exact hbr.setCell (p := ⟨bu, i, none⟩) hbw _
      have HF := hide hfin
      clear hset hfin hx' hv lg gz zf hvB hbr
      go_wp2_with fail
      go_roundw
      case rel =>
       obtain ⟨r1, r2, r3, r4, r5⟩ := (aa HF) _ rfl
       exact ⟨i + 1, _, by omega, by go_num, r1, r2, r3, r4, r5⟩
      case measure => simp [intOf] <;> omega
    ·
     have e : i = k2 := by omega
     subst e
     have hdn : Wd.val ek zc = n % m := by
      have h1 := HI.out
      rw [← Zv.out] at h1
      rw [h1.done (Bh s om) (Nat.pow_pos om), HRV.out, V3.out]
     have hwt : (win us 0 zc).take i = zc := by simp [win, ← hzl]
     have hwz : Ws .u32 wr (bu + 1) (some ⟨bu, 0, none⟩) zc := by
      have := (lg.Dp _ (Nat.lt_succ_self _)).Qe i
      rwa [hwt] at this
     have HDN := Lib.hid hdn; have HWZ := hide hwz
     have hzs : bu < wr.heap.size := lg.lt
     have bee : ∀ x ∈ zc, x < ek := HI.out.lt
     have bod := hide bee
     have hqz := aa HQZ
     have Jk := Cn (some ⟨w4.heap.size, 0, none⟩) qs.length qs wr.heap.size wr (hqz.Dp _ hqz.lt) (Nat.le_refl _) (by rw [Kq.out]; omega)
     rw [Kq.out] at Jk
     have T3 := hide Jk
     clear hdn hwt hwz bee Jk hqz lg
     go_wp2_with fail
     refine (aa T3).mono ?_
     rintro e w6 ⟨⟨k3, rfl, ht2, hk3⟩, Tq⟩
     obtain rfl : wr = w6 := Tq.symm
     clear Tq
     have q1 := qj.Ao (cap := lq) (aa HQZ) (aa awg) ht2 (by rw [Kq.out]; exact hk3) (by rw [Kq.out]; omega) om
     rw [V1.out] at q1
     have Q1 := hide q1
     have beh : k3 = (qs.take k3).length := by rw [List.length_take, Kq.out]; omega
     have HK3 := Lib.hid beh
     clear ht2 q1 T3 beh
     have auo := Cn (some ⟨bu, 0, none⟩) (xl.length + 1) zc (bu + 1) wr (aa HWZ) om om
     rw [hzl] at auo
     have T4 := hide auo
     clear auo
     go_wp2_with fail
     refine (aa T4).mono ?_
     rintro e w6 ⟨⟨k4, rfl, ht4, hk4⟩, Tq⟩
     obtain rfl : wr = w6 := Tq.symm
     clear Tq
     have q2 : qj wr (some ⟨bu, 0, none⟩) (xl.length + 1) (zc.take k4) (n % m) := by
      refine ⟨(((aa HWZ).Qe k4).more om), by rw [List.length_take]; omega, by omega, fun x hx => (aa bod) x (List.mem_of_mem_take hx), ht4.norm, ?_⟩
      rw [ht4.val, HDN.out]
     have Q2 := hide q2
     have beg : k4 = (zc.take k4).length := by rw [List.length_take]; omega
     have HK4 := Lib.hid beg
     clear ht4 q2 T4 beg
     go_wp2_with fail
     go_ret2
     exact ⟨some ⟨w4.heap.size, 0, none⟩, lq, qs.take k3, some ⟨bu, 0, none⟩, xl.length + 1, zc.take k4, Qn HK3.out HK4.out, aa Q1, aa Q2, hbr⟩
  ·
   obtain ⟨j, rfl⟩ := Int.eq_ofNat_of_zero_le (show 0 ≤ i by omega)
   have hinv : Wd.wm ek V uz us qs (j + 1) := by have := HI.out; rwa [show ((j : Int) + 1).toNat = j + 1 by omega] at this
   have Jj : us.length = xl.length + 1 := hinv.Au.trans HUL.out
   have hql := Kq.out
   have hqc := hqz.cell j om
   have hqf := hqz.frozen j
   have Rt := hide hinv; have Oo := Lib.hid Jj
   obtain ⟨wd1, wd2, wd3⟩ := hinv.window Cm (aa ahp)
   have hwl : ((us.drop j).take (yl.length + 1)).length = yl.length + 1 := by rw [List.length_take, List.length_drop]; omega
   have hpre : Ie ((us.drop j).take (yl.length + 1)) (vz.take yl.length) yl.length := by
    refine ⟨hn2, HVN.out, hwl, fun x hx => hinv.lt x (List.mem_of_mem_drop (List.mem_of_mem_take hx)), fun x hx => Xi x (List.mem_of_mem_take hx), ?_, by rw [Rq.out]; exact wd2⟩
    rcases (aa HT).norm with h | h
    ·
     have := HVN.out; rw [h] at this; simp at this; omega
    ·
     rwa [HVN.out] at h
   have hds := akm bu j (xl.length + 1 - j) 187 yl.length us ((us.drop j).take (yl.length + 1)) (vz.take yl.length) (some ⟨bv, 0, none⟩) (yl.length + 1) (bv + 1) top next wo Mo om (by rw [hwl]) om om We (fun b o e => by injection e with e; injection e with e; omega) (by have := (aa Xv).1; omega) (by simp; omega) om hpre HTP.out HNX.out
   have HDS := hide hds
   clear hds
   have hfin : ∀ (W : World) (zr : List Nat) (q : Nat), StepT ((us.drop j).take (yl.length + 1)) (vz.take yl.length) zr q → Hid (Wd.wm ek V uz (win us j zr) (qs.set j q) j) := fun W zr q hok => by
    have hzl : zr.length = yl.length + 1 := hok.len.trans hwl
    refine hinv.step (n := yl.length) Cm (aa ahp) (aa HV0) om ?_ ?_ ?_ ?_ ?_
    ·
     rw [hok.quo, Rq.out]
    ·
     have e1 : (win us j zr).drop j = zr ++ us.drop (j + zr.length) := by
      simp only [win, List.append_assoc]
      rw [List.drop_append_of_le_length (by simp; omega), List.drop_of_length_le (by simp; omega), List.nil_append]
     have e2 : Wd.val ek (us.drop (j + zr.length)) = 0 := by
      have h1 := Wd.Ni ek (us.drop j) (yl.length + 1)
      rw [wd3, List.drop_drop] at h1
      have h2 : 0 < ek ^ min (yl.length + 1) (us.drop j).length := Nat.pow_pos (by rw [fe]; omega)
      rw [hzl]
      rcases Nat.eq_zero_or_pos (Wd.val ek (us.drop (j + (yl.length + 1)))) with h | h
      ·
       exact h
      ·
       have := Nat.mul_pos h2 h; omega
     rw [e1, Wd.val_append, e2, Nat.mul_zero, Nat.add_zero, hok.rem, Rq.out]
    ·
     rw [win_length _ _ _ om]
    ·
     intro x hx
     simp only [win, List.append_assoc, List.mem_append] at hx
     rcases hx with h | h | h
     ·
      exact hinv.lt x (List.mem_of_mem_take h)
     ·
      exact hok.lt x h
     ·
      exact hinv.lt x (List.mem_of_mem_drop h)
    ·
     intro t ht
     simp only [win, List.append_assoc, List.getD]
     rw [List.getElem?_append_left (by simp; omega), List.getElem?_take, if_pos ht]
   have Hm := hide hfin
   clear hinv Jj hql HI wd1 wd2 wd3 hfin hpre
   go_wp2_with fail
   rw [show j + yl.length + 1 - j = yl.length + 1 by omega]
   refine (aa HDS).mono ?_
   rintro e w5 ⟨zr, q, rfl, hok, Kz, aft, hg5⟩
   have amn := (aa Hm) w5 zr q hok
   have Rc := hqz.grown hg5 (by intro h; injection h with h; have := (aa Xv).2; omega)
   have bmo := Rc.cell j (by have := Kq.out; omega)
   have bmn := Rc.frozen j
   have hv5 : Ws .u32 w5 (bv + 1) (some ⟨bv, 0, none⟩) (vz.take yl.length) := fun hl => by
    obtain ⟨b, o, e, hb, hc⟩ := We hl
    injection e with e; injection e with e1 e2
    subst e1 e2
    exact ⟨bv, 0, rfl, hb, fun t ht => (World.cell?_of_block (hg5.block bv (by have := (aa Xv).1; omega) (fun e => by injection e with e; omega))).trans (hc t ht)⟩
   have hb5 : Below w.heap.size w w5 := hbr.grown hg5 hbr.size (fun g e => by injection e with e; subst e; exact Nat.le_trans Hg.size hbu)
   have hs5 : w4.heap.size < w5.heap.size := Nat.lt_of_lt_of_le aur hg5.size
   have auk : w.heap.size ≤ w4.heap.size := Xm.size
   have Zc : ∀ W, W = w5.setCell ⟨w4.heap.size, j, none⟩ (.int .u32 (q : Int)) → ZB .u32 W bu 187 (win us j zr) ∧ ZB .u32 W w4.heap.size 187 (qs.set j q) ∧ Ws .u32 W (bv + 1) (some ⟨bv, 0, none⟩) (vz.take yl.length) ∧ Below w.heap.size w W ∧ w4.heap.size < W.heap.size := by
    rintro W rfl
    exact ⟨(Below.heap_setCell w5 _ _ bu (by show bu ≠ w4.heap.size; have := (aa Xv).2; omega)).trans aft, Rc.Bp _ _, hv5.setCell (p := ⟨w4.heap.size, j, none⟩) (by show bv + 1 ≤ w4.heap.size; have := (aa Xv).1; omega) _, hb5.setCell (p := ⟨w4.heap.size, j, none⟩) auk _, by simp [World.setCell]; omega⟩
   have HF2 := hide Zc
   clear hok hg5 Zc aft Rc hv5 hb5
   go_wp2_with fail
   go_roundw
   case rel =>
    obtain ⟨f1, f2, f3, f4, f5⟩ := (aa HF2) _ rfl
    exact ⟨(j : Int) - 1, win us j zr, qs.set j q, by omega, by omega, by go_num, by rw [show ((j : Int) - 1 + 1).toNat = j by omega]; exact amn, by show _ = _; rw [List.length_set]; exact Kq.out, f1, f2, f3, f4, f5⟩
   case measure => simp [intOf] <;> omega

theorem Jz (Ax Ay : Option Addr) (cx cy : Nat) (xl yl : List Nat) (n m : Nat) (w : World) (hx : qj w Ax cx xl n) (hy : qj w Ay cy yl m) (hm : 0 < m) (hk : xl.length + 1 ≤ 35184372088832) (hk2 : yl.length + 1 ≤ 35184372088832) :
  Calls Tryz.prog 178 #[.slice Ax xl.length cx, .slice Ay yl.length cy] w fun e w' => Zr w (n / m) (n % m) e w' := by
 by_cases hlt : n < m
 ·
  exact aih Ax Ay cx cy xl yl n m w hx hy hlt
 ·
  by_cases h1 : yl.length = 1
  ·
   exact apt Ax Ay cx cy xl yl n m w hx hy hlt h1 om
  ·
   refine alm Ax Ay cx cy xl yl n m w hx hy hlt hk hk2 ?_
   rcases Nat.eq_zero_or_pos yl.length with h | h
   ·
    exfalso
    have := hy.val
    rw [List.length_eq_zero_iff.1 h] at this
    simp [Wd.val] at this; omega
   ·
    omega

def memNum (w : World) : Value → Nat
 | .slice (some p) n _ => Wd.val ek ((List.range n).map fun i => match w.cell? ⟨p.block, p.off + i, none⟩ with | some (.int _ z) => z.toNat | _ => 0)
 | _ => 0
theorem abk {w : World} {A : Option Addr} {cap : Nat} {l : List Nat} {n : Nat} (h : qj w A cap l n) : memNum w (.slice A l.length cap) = n := by
 rcases Nat.eq_zero_or_pos l.length with h0 | h0
 ·
  have hv := h.val
  have hl := List.length_eq_zero_iff.1 h0
  subst hl
  rw [← hv]
  cases A <;> simp [memNum, Wd.val]
 ·
  obtain ⟨b, o, rfl, _, hc⟩ := h.ws h0
  show Wd.val ek _ = n
  rw [← h.val]
  congr 1
  apply List.ext_getElem (by simp)
  intro i h1 h2
  simp only [List.getElem_map, List.getElem_range]
  rw [hc i h2, Wd.qf]
  simp [List.getD, h2]

theorem aim (Ax Ay : Option Addr) (cx cy : Nat) (xl yl : List Nat) (n m K : Nat) (w : World) (hx : qj w Ax cx xl n) (hy : qj w Ay cy yl m) (hn : n < ek ^ K) (hm : m < ek ^ K) (hK : K + 1 ≤ 35184372088832) :
  Calls Tryz.prog 177 #[.slice Ax xl.length cx, .slice Ay yl.length cy] w fun e w' => bgn w (n.gcd m) e w' := by
 go_enter Tryz.func177, Tryz.ntmps177
 go_wp2_with fail
 have HK := hide hK
 clear hK
 go_loopw [0, 1] (fun av bv wr => ∃ Aa ca la na Ab cb lb nb, av = .slice Aa la.length ca ∧ bv = .slice Ab lb.length cb ∧ qj wr Aa ca la na ∧ qj wr Ab cb lb nb ∧ na < ek ^ K ∧ nb < ek ^ K ∧ Hid (na.gcd nb = n.gcd m) ∧ Below w.heap.size w wr) (fun _ bv wr => memNum wr bv)
 case atStart => exact ⟨Ax, cx, xl, n, Ay, cy, yl, m, rfl, rfl, hx, hy, hn, hm, rfl, Below.refl _ _⟩
 case round =>
  clear hx hy hn hm
  obtain ⟨Aa, ca, la, na, Ab, cb, lb, nb, rfl, rfl, ha, hb, hna, hnb, HG, hbl⟩ := hrel
  have ha1 := ha.ru; have ha2 := ha.cap2; have hb1 := hb.ru; have hb2 := hb.cap2
  have la1 : la.length ≤ K := ha.len hna
  have lb1 : lb.length ≤ K := hb.len hnb
  by_cases h0 : lb.length = 0
  ·
   have e : nb = 0 := by rw [← hb.val, List.length_eq_zero_iff.1 h0]; rfl
   have hg := HG.out
   rw [e, Nat.gcd_zero_right] at hg
   have HGG := Lib.hid hg
   have HA := hide ha
   clear hg ha hb hna hnb e HG
   go_wp2_with fail
   go_ret
   exact ⟨Aa, ca, la, rfl, by rw [← HGG.out]; exact aa HA, hbl⟩
  ·
   have bed : 0 < nb := by
    rcases Nat.eq_zero_or_pos nb with h | h
    ·
     exfalso
     have := hb.len (k := 0) (by rw [h]; simp)
     omega
    ·
     exact h
   have hp := Jz Aa Ab ca cb la lb na nb wr ha hb bed (by have := aa HK; omega) (by have := aa HK; omega)
   have hg : nb.gcd (na % nb) = n.gcd m := by
    rw [← HG.out, Nat.gcd_comm nb (na % nb), ← Nat.gcd_rec nb na, Nat.gcd_comm]
   have hlt := Nat.mod_lt na bed
   have hmem := abk hb
   have HP := hide hp; have HGG := Lib.hid hg; have HB := hide hb; have Lb := hide hnb
   have qb := hide hlt; have HM := Lib.hid hmem
   clear hp hg ha hb hna hnb HG hlt hmem
   go_wp2_with fail
   refine (aa HP).mono ?_
   rintro e w' ⟨A5, c5, l5, A6, c6, l6, rfl, h5, h6, auz⟩
   have hb' := (aa HB).below auz
   have bnb : Below w.heap.size w w' := hbl.trans (auz.mono hbl.size)
   have HB2 := hide hb'; have H6 := hide h6
   clear hb' h5 h6 auz hbl
   go_wp2_with fail
   go_roundw
   case rel => exact ⟨Ab, cb, lb, nb, A6, c6, l6, na % nb, rfl, rfl, aa HB2, aa H6, aa Lb, Nat.lt_trans (aa qb) (aa Lb), HGG, bnb⟩
   case measure =>
    have := abk (aa H6)
    have h2 := HM.out
    have h3 := aa qb
    simp_all

def Xt (cs : Array Value) : Prop := ∀ (i : Nat) (n : Int), cs[i]? ≠ some (Value.int .u32 n)
theorem Kb (A : Option Addr) (n c : Nat) (b : Bool) : Xt #[.slice A n c, .bool b] := by
 intro i n h
 match i, h with
 | 0, h => simp at h
 | 1, h => simp at h
 | i + 2, h => simp at h
theorem Bb (A : Option Addr) (n c : Nat) (b : Bool) (A' : Option Addr) (n' c' : Nat) (b' : Bool) : Xt #[.slice A n c, .bool b, .slice A' n' c', .bool b'] := by
 intro i n h
 match i, h with
 | 0, h => simp at h
 | 1, h => simp at h
 | 2, h => simp at h
 | 3, h => simp at h
 | i + 4, h => simp at h
theorem Ws.bcb {w w' : World} {B g : Nat} {A : Option Addr} {l : List Nat} {T : TypeId} {cs : Array Value} (h : Ws .u32 w B A l) (hg : w.heap[g]? = some (.cells cs T (0, 0))) (hn : Xt cs) (hgr : w.grownBy w' (some g)) (hB : B ≤ w.heap.size) : Ws .u32 w' B A l := fun hl => by
 obtain ⟨b, off, rfl, hb, hc⟩ := h hl
 have hne : b ≠ g := by
  rintro rfl
  have := hc 0 hl
  simp only [World.cell?, hg, Option.isSome_none, Bool.false_eq_true, if_false] at this
  exact hn _ _ this
 exact ⟨b, off, rfl, hb, fun j hj => (World.cell?_of_block (hgr.block b om (fun e => hne (by injection e)))).trans (hc j hj)⟩
theorem qj.upto {w w' : World} {g : Nat} {A : Option Addr} {cap : Nat} {l : List Nat} {n : Nat} {T : TypeId} {cs : Array Value} (h : qj w A cap l n) (hg : w.heap[g]? = some (.cells cs T (0, 0))) (hn : Xt cs) (hgr : w.grownBy w' (some g)) : qj w' A cap l n :=
 ⟨(h.ws.bcb hg hn hgr (Nat.le_refl _)).more hgr.size, h.ru, h.cap2, h.lt, h.norm, h.val⟩
theorem ou (w : World) (g : Nat) (u0 u1 u2 u3 : Value) : w.grownBy ((((w.setCell ⟨g, 0, none⟩ u0).setCell ⟨g, 1, none⟩ u1).setCell ⟨g, 2, none⟩ u2).setCell ⟨g, 3, none⟩ u3) (some g) :=
 ll (ll (ll (ll (qo _ _) _ _) _ _) _ _) _ _

structure iq (w : World) (A : Option Addr) (cap : Nat) (l : List Nat) (m : Bool) (z : Int) : Prop where
 nat : qj w A cap l z.natAbs
 sign : m = decide (z < 0)
theorem iq.below {w w' : World} {A : Option Addr} {cap : Nat} {l : List Nat} {m : Bool} {z : Int} (h : iq w A cap l m z) (hb : Below w.heap.size w w') : iq w' A cap l m z := ⟨h.nat.below hb, h.sign⟩
theorem iq.upto {w w' : World} {g : Nat} {A : Option Addr} {cap : Nat} {l : List Nat} {m : Bool} {z : Int} {T : TypeId} {cs : Array Value} (h : iq w A cap l m z) (hg : w.heap[g]? = some (.cells cs T (0, 0))) (hn : Xt cs) (hgr : w.grownBy w' (some g)) : iq w' A cap l m z := ⟨h.nat.upto hg hn hgr, h.sign⟩

def Gu (w : World) (z : Int) (e : Ending) (w' : World) : Prop := ∃ A cap l m, e = .returned (.agg #[.slice A l.length cap, .bool m]) ∧ iq w' A cap l m z ∧ Below w.heap.size w w'

theorem qj.Md {w : World} {A : Option Addr} {cap : Nat} {l : List Nat} {n : Nat} (h : qj w A cap l n) : n = 0 ↔ l.length = 0 := by
 constructor
 ·
  intro e
  have := h.len (k := 0) (by rw [e]; simp)
  omega
 ·
  intro e
  rw [← h.val, List.length_eq_zero_iff.1 e]; rfl

theorem Eo (A : Option Addr) (cap : Nat) (l : List Nat) (n : Nat) (s : Bool) (w : World) (h : qj w A cap l n) :
  Calls Tryz.prog 179 #[.slice A l.length cap, .bool s] w fun e w' => Gu w (if s then -(n : Int) else (n : Int)) e w' := by
 have hc1 := h.ru; have hc2 := h.cap2
 have hz := h.Md
 have hab : (if s then -(n : Int) else (n : Int)).natAbs = n := by cases s <;> simp
 have hsg : s = true → decide (0 < l.length) = decide ((if s then -(n : Int) else (n : Int)) < 0) := by
  rintro rfl
  simp only [if_true]
  exact decide_eq_decide.2 om
 have aus : ¬ s = true → false = decide ((if s then -(n : Int) else (n : Int)) < 0) := by
  intro hs
  rw [Bool.not_eq_true] at hs
  subst hs
  exact (decide_eq_false (by simp)).symm
 obtain ⟨z, hzz⟩ : ∃ z, z = if s then -(n : Int) else (n : Int) := ⟨_, rfl⟩
 rw [← hzz] at hab hsg aus ⊢
 have HF : Hid (∀ W, Below w.heap.size w W → qj W A cap l z.natAbs) := fun W hW => by rw [hab]; exact h.below hW
 have nz := hide hsg; have HS2 := hide aus
 clear h hz hab hsg aus hzz
 go_enter Tryz.func179, Tryz.ntmps179
 go_wp2_with fail
 ·
  have hs : s = true := by assumption
  exact bodyPost_ret (v := .agg #[.slice A l.length cap, .bool (decide (0 < l.length))]) (by simp [results, Tryz.results179, go_sem]) rfl ⟨A, cap, l, _, rfl, ⟨(aa HF) _ ((Below.refl _ _).alloc (Nat.le_refl _) _), (aa nz) hs⟩, (Below.refl _ _).alloc (Nat.le_refl _) _⟩
 ·
  have hs : ¬ s = true := by assumption
  exact bodyPost_ret (v := .agg #[.slice A l.length cap, .bool false]) (by simp [results, Tryz.results179, go_sem]) rfl ⟨A, cap, l, _, rfl, ⟨(aa HF) _ ((Below.refl _ _).alloc (Nat.le_refl _) _), (aa HS2) hs⟩, (Below.refl _ _).alloc (Nat.le_refl _) _⟩

theorem Wv (A : Option Addr) (cap n : Nat) (s : Bool) (w : World) :
  Calls Tryz.prog 135 #[.agg #[.slice A n cap, .bool s]] w fun e w' => e = .returned (.bool (decide (n = 0))) ∧ Below w.heap.size w w' := by
 by_cases h : n = 0
 ·
  subst h
  go_enter Tryz.func135, Tryz.ntmps135
  go_wp2_with fail
  all_goals first | go_ret | skip
  all_goals exact ⟨rfl, (Below.refl _ _).alloc (Nat.le_refl _) _⟩
 ·
  have hb : ((n : Int) == 0) = false := beq_eq_false_iff_ne.2 om
  have hd : decide (n = 0) = false := decide_eq_false h
  rw [hd]
  clear hd
  go_enter Tryz.func135, Tryz.ntmps135
  go_wp2_with fail
  all_goals first | go_ret | skip
  all_goals exact ⟨rfl, (Below.refl _ _).alloc (Nat.le_refl _) _⟩

theorem Yc (A : Option Addr) (cap : Nat) (l : List Nat) (m : Bool) (z : Int) (w : World) (h : iq w A cap l m z) :
  Calls Tryz.prog 131 #[.agg #[.slice A l.length cap, .bool m]] w fun e w' => e = .returned (.bool (decide (z = 1))) ∧ Below w.heap.size w w' := by
 have hc1 := h.nat.ru; have hc2 := h.nat.cap2
 by_cases h1 : l.length = 1
 ·
  have hb : ((l.length : Int) == 1) = true := by rw [h1]; rfl
  obtain ⟨b, o, rfl, hbb, hc⟩ := h.nat.ws om
  have hc0 := ((Below.refl w.heap.size w).alloc (Nat.le_refl _) (.cells #[.slice (some ⟨b, o, none⟩) l.length cap, .bool m] 66)).cell (p := ⟨b, o + 0, none⟩) hbb |>.trans (hc 0 om)
  rw [Nat.add_zero] at hc0
  have hv : Wd.g l 0 = z.natAbs := by rw [Qs ek l h1]; exact h.nat.val
  have hs := h.sign
  rw [hv] at hc0
  have hres : decide (z = 1) = ((z.natAbs : Int) == 1 && !m) := by
   rw [hs]
   by_cases hz : z = 1
   ·
    subst hz; rfl
   ·
    rw [decide_eq_false hz]
    by_cases h2 : z = -1
    ·
     subst h2; rfl
    ·
     have : ((z.natAbs : Int) == 1) = false := beq_eq_false_iff_ne.2 om
     rw [this]; rfl
  have hl0 : 0 < l.length := by omega
  have HR := Lib.hid hres
  clear hc hv hs h hres h1
  cases m
  all_goals
   by_cases hv : ((z.natAbs : Nat) : Int) = 1
   ·
    have hv1 : (((z.natAbs : Nat) : Int) == 1) = true := by rw [hv]; rfl
    have HV := Lib.hid hv1
    rw [hv] at hc0
    clear hv hv1
    go_enter Tryz.func131, Tryz.ntmps131
    go_wp2_with fail
    all_goals first | go_ret | skip
    all_goals exact ⟨by rw [HR.out, HV.out]; rfl, (Below.refl _ _).alloc (Nat.le_refl _) _⟩
   ·
    have hv1 : (((z.natAbs : Nat) : Int) == 1) = false := beq_eq_false_iff_ne.2 hv
    have hv0 := hv1
    have HV := Lib.hid hv0
    clear hv0
    obtain ⟨t, ht⟩ : ∃ t, t = z.natAbs := ⟨_, rfl⟩
    rw [← ht] at hc0 hv hv1
    clear ht
    go_enter Tryz.func131, Tryz.ntmps131
    go_wp2_with fail
    all_goals first | go_ret | skip
    all_goals exact ⟨by rw [HR.out, HV.out]; rfl, (Below.refl _ _).alloc (Nat.le_refl _) _⟩
 ·
  have hb : ((l.length : Int) == 1) = false := beq_eq_false_iff_ne.2 om
  have hd : decide (z = 1) = false := decide_eq_false (by
   rintro rfl
   apply h1
   have h0 := h.nat.len (k := 1) (by simp [fe])
   have h3 : ¬ l.length = 0 := fun e => by have := h.nat.Md.2 e; simp at this
   omega)
  rw [hd]
  clear hd h
  go_enter Tryz.func131, Tryz.ntmps131
  go_wp2_with fail
  all_goals first | go_ret | skip
  all_goals exact ⟨rfl, (Below.refl _ _).alloc (Nat.le_refl _) _⟩

theorem adp (A : Option Addr) (cap : Nat) (l : List Nat) (m : Bool) (z : Int) (w : World) (h : iq w A cap l m z) :
  Calls Tryz.prog 176 #[.agg #[.slice A l.length cap, .bool m]] w fun e w' => Gu w (-z) e w' := by
 have hv : (if (!m) then -(z.natAbs : Int) else (z.natAbs : Int)) = -z := by
  rw [h.sign]
  by_cases hz : z < 0
  ·
   rw [decide_eq_true hz]; simp; omega
  ·
   rw [decide_eq_false hz]; simp; omega
 have HS := hide (fun W (hW : Below w.heap.size w W) => Eo A cap l z.natAbs (!m) W (h.nat.below hW))
 rw [hv] at HS
 clear h hv
 go_enter Tryz.func176, Tryz.ntmps176
 go_wp2_with fail
 obtain ⟨n0, n1, hsz, hw0⟩ := qw w (.cells #[.slice A l.length cap, .bool m] 66) (.cells #[.slice none 0 0, .bool false] 66)
 generalize ((w.alloc (.cells #[.slice A l.length cap, .bool m] 66)).alloc (.cells #[.slice none 0 0, .bool false] 66)) = W0 at *
 have q1 : w.heap.size + 1 < W0.heap.size := by omega
 have xu : W0.cell? ⟨w.heap.size + 1, 0, none⟩ = some (.slice none 0 0) := ag n1 0
 have xq : W0.cell? ⟨w.heap.size + 1, 1, none⟩ = some (.bool false) := ag n1 1
 have Mw := ai n1 0
 have Mv := ai n1 1
 have NR := Lib.hid n1
 clear n0 n1
 refine ((aa HS) _ hw0).mono ?_
 rintro e w' ⟨A5, c5, l5, m5, rfl, xg, hb⟩
 obtain ⟨hc, hfz⟩ := dz hb
 have hblk : w'.heap[w.heap.size + 1]? = some (.cells #[.slice none 0 0, .bool false] 66 (0, 0)) := (hb.block _ q1).trans NR.out
 have jy := Lib.hid hblk
 have jh : Below w.heap.size w w' := bg hw0 hb
 clear hblk
 go_wp2_with fail
 exact bodyPost_ret (v := .agg #[.slice A5 l5.length c5, .bool m5]) (by simp [results, Tryz.results176, go_sem, hc, xu, xq, q1]) rfl
  ⟨A5, c5, l5, m5, rfl, xg.upto jy.out (Kb _ _ _ _) (mh _ _ _ _), jh.grown (mh _ _ _ _) jh.size (fun k hk => by injection hk with hk; omega)⟩


theorem ank {w : World} {b : Nat} {T : TypeId} {lo hi : Nat} (h : w.heap[b]? = some (.cells #[.int .u32 (lo : Int), .int .u32 (hi : Int)] T (0, 0))) : ZB .u32 w b T [lo, hi] := h

theorem Qd (x : Int) (w : World) (hx : -9223372036854775808 ≤ x) (hx2 : x ≤ 9223372036854775807) :
  Calls Tryz.prog 129 #[.int .i64 x] w fun e w' => Gu w x e w' ∧ ∃ (A : Option Addr) (cap : Nat) (l : List Nat) (m : Bool), e = .returned (.agg #[.slice A l.length cap, .bool m]) ∧ l.length ≤ 2 := by
 obtain ⟨a, ha⟩ : ∃ a, a = x.natAbs := ⟨_, rfl⟩
 obtain ⟨lo, hlo⟩ : ∃ t, t = a % ek := ⟨_, rfl⟩
 obtain ⟨hi, hhi⟩ : ∃ t, t = a / ek := ⟨_, rfl⟩
 have ha2 : a ≤ 9223372036854775808 := by omega
 have e2 : (a : Int) % 4294967296 = (lo : Int) := by rw [hlo, fe]; omega
 have e3 : (a : Int) / 4294967296 = (hi : Int) := by rw [hhi, fe]; omega
 have e4 : (hi : Int) % 4294967296 = (hi : Int) := by rw [hhi, fe]; omega
 have e5 : IntKind.u32.wrap (a : Int) = (lo : Int) := by rw [IntKind.wrap_u32]; exact e2
 have e6 : IntKind.u32.wrap (hi : Int) = (hi : Int) := by rw [IntKind.wrap_u32]; exact e4
 have hlB : ∀ t ∈ [lo, hi], t < ek := by
  intro t ht
  simp only [List.mem_cons, List.not_mem_nil, or_false] at ht
  rcases ht with rfl | rfl
  ·
   rw [hlo]; exact Nat.mod_lt _ (by rw [fe]; omega)
  ·
   rw [hhi, fe]; omega
 have hval : Wd.val ek [lo, hi] = x.natAbs := by
  rw [← ha]
  simp only [Wd.val, Nat.mul_zero, Nat.add_zero]
  rw [hlo, hhi]
  exact Nat.mod_add_div _ _
 have HLB := hide hlB; have aax := Lib.hid hval
 by_cases hn : x < 0
 ·
  have d1 : decide (x < 0) = true := decide_eq_true hn
  have e1 : IntKind.u64.wrap (-IntKind.u64.wrap x) = (a : Int) := by
   rw [IntKind.wrap_u64, IntKind.wrap_u64]; omega
  clear hx hx2 ha hlo hhi ha2 hlB hval
  go_enter Tryz.func129, Tryz.ntmps129
  go_wp2_with fail
  obtain ⟨n0, n1, hsz, hw0⟩ := qw w (.cells #[.slice none 0 0, .bool false] 66) (.cells #[.int .u32 (lo : Int), .int .u32 (hi : Int)] 187)
  generalize ((w.alloc (.cells #[.slice none 0 0, .bool false] 66)).alloc (.cells #[.int .u32 (lo : Int), .int .u32 (hi : Int)] 187)) = W0 at *
  have k0 : W0.cell? ⟨w.heap.size, 0, none⟩ = some (.slice none 0 0) := ag n0 0
  have k1 : W0.cell? ⟨w.heap.size, 1, none⟩ = some (.bool false) := ag n0 1
  have f0 := ai n0 0
  have f1 := ai n0 1
  have q0 : w.heap.size < W0.heap.size := by omega
  have hzb := ank n1
  have NR := Lib.hid n0
  have htr := Cn (some ⟨w.heap.size + 1, 0, none⟩) 2 [lo, hi] W0.heap.size W0 (hzb.Dp _ hzb.lt) (by simp) om
  have HZB := hide hzb
  clear n0 n1 hzb
  refine htr.mono ?_
  rintro e w' ⟨⟨k, rfl, ht, hk⟩, hw'⟩
  obtain rfl : W0 = w' := hw'.symm
  clear hw'
  have xc := qj.Ao (cap := 2) (aa HZB) (aa HLB) ht hk (by simp) om
  rw [aax.out] at xc
  have hkl : k = ([lo, hi].take k).length := by rw [List.length_take]; omega
  have hl2 : ([lo, hi].take k).length ≤ 2 := by rw [List.length_take]; exact Nat.min_le_right _ _
  generalize [lo, hi].take k = l5 at *
  subst hkl
  have xg : iq W0 (some ⟨w.heap.size + 1, 0, none⟩) 2 l5 true x := ⟨xc, d1.symm⟩
  have HF5 := hide xg
  clear xc xg ht
  go_wp2_with fail
  exact bodyPost_ret (v := .agg #[.slice (some ⟨w.heap.size + 1, 0, none⟩) l5.length 2, .bool true]) (by simp [results, Tryz.results129, go_sem, k0, k1, q0]) rfl
   ⟨⟨_, 2, l5, true, rfl, (aa HF5).upto NR.out (Kb _ _ _ _) (mh _ _ _ _), hw0.grown (mh _ _ _ _) hw0.size (fun k hk => by injection hk with hk; omega)⟩, _, _, l5, true, rfl, hl2⟩
 ·
  have d1 : decide (x < 0) = false := decide_eq_false hn
  have e1 : IntKind.u64.wrap x = (a : Int) := by
   rw [IntKind.wrap_u64]; omega
  clear hx hx2 ha hlo hhi ha2 hlB hval
  go_enter Tryz.func129, Tryz.ntmps129
  go_wp2_with fail
  obtain ⟨n0, n1, hsz, hw0⟩ := qw w (.cells #[.slice none 0 0, .bool false] 66) (.cells #[.int .u32 (lo : Int), .int .u32 (hi : Int)] 187)
  generalize ((w.alloc (.cells #[.slice none 0 0, .bool false] 66)).alloc (.cells #[.int .u32 (lo : Int), .int .u32 (hi : Int)] 187)) = W0 at *
  have k0 : W0.cell? ⟨w.heap.size, 0, none⟩ = some (.slice none 0 0) := ag n0 0
  have k1 : W0.cell? ⟨w.heap.size, 1, none⟩ = some (.bool false) := ag n0 1
  have f0 := ai n0 0
  have f1 := ai n0 1
  have q0 : w.heap.size < W0.heap.size := by omega
  have hzb := ank n1
  have NR := Lib.hid n0
  have htr := Cn (some ⟨w.heap.size + 1, 0, none⟩) 2 [lo, hi] W0.heap.size W0 (hzb.Dp _ hzb.lt) (by simp) om
  have HZB := hide hzb
  clear n0 n1 hzb
  refine htr.mono ?_
  rintro e w' ⟨⟨k, rfl, ht, hk⟩, hw'⟩
  obtain rfl : W0 = w' := hw'.symm
  clear hw'
  have xc := qj.Ao (cap := 2) (aa HZB) (aa HLB) ht hk (by simp) om
  rw [aax.out] at xc
  have hkl : k = ([lo, hi].take k).length := by rw [List.length_take]; omega
  have hl2 : ([lo, hi].take k).length ≤ 2 := by rw [List.length_take]; exact Nat.min_le_right _ _
  generalize [lo, hi].take k = l5 at *
  subst hkl
  have xg : iq W0 (some ⟨w.heap.size + 1, 0, none⟩) 2 l5 false x := ⟨xc, d1.symm⟩
  have HF5 := hide xg
  clear xc xg ht
  go_wp2_with fail
  exact bodyPost_ret (v := .agg #[.slice (some ⟨w.heap.size + 1, 0, none⟩) l5.length 2, .bool false]) (by simp [results, Tryz.results129, go_sem, k0, k1, q0]) rfl
   ⟨⟨_, 2, l5, false, rfl, (aa HF5).upto NR.out (Kb _ _ _ _) (mh _ _ _ _), hw0.grown (mh _ _ _ _) hw0.size (fun k hk => by injection hk with hk; omega)⟩, _, _, l5, false, rfl, hl2⟩

theorem aka {B : Nat} {w w1 w' : World} (h : Below B w w1) (e : ∃ k, w' = w1.drewN k) : Below B w w' := by
 obtain ⟨k, rfl⟩ := e; exact mi h k

theorem ass (A1 : Option Addr) (c1 : Nat) (l1 : List Nat) (m1 : Bool) (z1 : Int) (A2 : Option Addr) (c2 : Nat) (l2 : List Nat) (m2 : Bool) (z2 : Int) (w : World) (h1 : iq w A1 c1 l1 m1 z1) (h2 : iq w A2 c2 l2 m2 z2) :
  Calls Tryz.prog 151 #[.agg #[.slice A1 l1.length c1, .bool m1], .agg #[.slice A2 l2.length c2, .bool m2]] w fun e w' => e = .returned (.int .i64 (lh (z1 - z2))) ∧ Below w.heap.size w w' := by
 have ho : rq z1.natAbs z2.natAbs = -1 ∨ rq z1.natAbs z2.natAbs = 0 ∨ rq z1.natAbs z2.natAbs = 1 := by unfold rq; (repeat' split) <;> simp
 have hO := hide (fun W (hW : Below w.heap.size w W) => Le A1 A2 c1 c2 l1 l2 z1.natAbs z2.natAbs W (h1.nat.below hW) (h2.nat.below hW))
 have s1 := h1.sign; have s2 := h2.sign
 have yu : m1 = false → m2 = false → rq z1.natAbs z2.natAbs = lh (z1 - z2) := by
  rintro rfl rfl
  have a1 := of_decide_eq_false s1.symm; have a2 := of_decide_eq_false s2.symm
  unfold rq lh; (repeat' split) <;> omega
 have hnn : m1 = true → m2 = true → -rq z1.natAbs z2.natAbs = lh (z1 - z2) := by
  rintro rfl rfl
  have a1 := of_decide_eq_true s1.symm; have a2 := of_decide_eq_true s2.symm
  unfold rq lh; (repeat' split) <;> omega
 have hnp : m1 = true → m2 = false → -1 = lh (z1 - z2) := by
  rintro rfl rfl
  have a1 := of_decide_eq_true s1.symm; have a2 := of_decide_eq_false s2.symm
  unfold lh; (repeat' split) <;> omega
 have hpn : m1 = false → m2 = true → 1 = lh (z1 - z2) := by
  rintro rfl rfl
  have a1 := of_decide_eq_false s1.symm; have a2 := of_decide_eq_true s2.symm
  unfold lh; (repeat' split) <;> omega
 obtain ⟨o, hoo⟩ : ∃ o, o = rq z1.natAbs z2.natAbs := ⟨_, rfl⟩
 obtain ⟨g, hg⟩ : ∃ g, g = lh (z1 - z2) := ⟨_, rfl⟩
 rw [← hoo] at ho hO yu hnn
 rw [← hg] at yu hnn hnp hpn ⊢
 have e1 : IntKind.i64.wrap (-o) = -o := IntWalk.i64_in _ om
 have hw0 := (qw w (.cells #[.slice A1 l1.length c1, .bool m1] 66) (.cells #[.slice A2 l2.length c2, .bool m2] 66)).2.2.2
 clear h1 h2 s1 s2 hoo hg ho
 cases m1 <;> cases m2
 ·
  have hh := Lib.hid (yu rfl rfl)
  clear yu hnn hnp hpn
  go_enter Tryz.func151, Tryz.ntmps151
  go_wp2_with fail
  refine ((aa hO) _ hw0).mono ?_
  rintro e w' ⟨rfl, hw'⟩
  have jh := aka hw0 hw'
  clear hw'
  go_wp2_with fail
  all_goals first | go_ret | skip
  exact ⟨by rw [hh.out]; rfl, jh⟩
 ·
  have hh := Lib.hid (hpn rfl rfl)
  clear yu hnn hnp hpn
  go_enter Tryz.func151, Tryz.ntmps151
  go_wp2_with fail
  all_goals first | (go_quiet (fail); go_wp2_with fail) | skip
  all_goals first | go_ret | skip
  exact ⟨by rw [← hh.out]; rfl, by first | exact hw0 | exact hw0.drew | exact mi hw0 _⟩
 ·
  have hh := Lib.hid (hnp rfl rfl)
  clear yu hnn hnp hpn
  go_enter Tryz.func151, Tryz.ntmps151
  go_wp2_with fail
  all_goals first | (go_quiet (fail); go_wp2_with fail) | skip
  all_goals first | go_ret | skip
  exact ⟨by rw [← hh.out]; rfl, by first | exact hw0 | exact hw0.drew | exact mi hw0 _⟩
 ·
  have hh := Lib.hid (hnn rfl rfl)
  clear yu hnn hnp hpn
  go_enter Tryz.func151, Tryz.ntmps151
  go_wp2_with fail
  refine ((aa hO) _ hw0).mono ?_
  rintro e w' ⟨rfl, hw'⟩
  have jh := aka hw0 hw'
  clear hw'
  go_wp2_with fail
  all_goals first | go_ret | skip
  exact ⟨by rw [← hh.out]; rfl, jh⟩

theorem adq (A1 : Option Addr) (c1 : Nat) (l1 : List Nat) (m1 : Bool) (z1 : Int) (A2 : Option Addr) (c2 : Nat) (l2 : List Nat) (m2 : Bool) (z2 : Int) (w : World) (h1 : iq w A1 c1 l1 m1 z1) (h2 : iq w A2 c2 l2 m2 z2) (hk : l1.length + l2.length ≤ 35184372088832) :
  Calls Tryz.prog 133 #[.agg #[.slice A1 l1.length c1, .bool m1], .agg #[.slice A2 l2.length c2, .bool m2]] w fun e w' => Gu w (z1 * z2) e w' := by
 have hv : (if (m1 != m2) then -((z1.natAbs * z2.natAbs : Nat) : Int) else ((z1.natAbs * z2.natAbs : Nat) : Int)) = z1 * z2 := by
  rw [h1.sign, h2.sign, ← Int.natAbs_mul]
  by_cases a : z1 < 0 <;> by_cases b : z2 < 0
  ·
   have := Int.mul_pos_of_neg_of_neg a b
   simp [a, b]; omega
  ·
   have : z1 * z2 ≤ 0 := Int.mul_nonpos_of_nonpos_of_nonneg om om
   simp [a, b]; omega
  ·
   have : z1 * z2 ≤ 0 := Int.mul_nonpos_of_nonneg_of_nonpos om om
   simp [a, b]; omega
  ·
   have : 0 ≤ z1 * z2 := Int.mul_nonneg om om
   simp [a, b]; omega
 have HT := hide (fun W (hW : Below w.heap.size w W) => akr A1 A2 c1 c2 l1 l2 z1.natAbs z2.natAbs W (h1.nat.below hW) (h2.nat.below hW) hk)
 obtain ⟨p, hp⟩ : ∃ p, p = z1.natAbs * z2.natAbs := ⟨_, rfl⟩
 obtain ⟨z, hz⟩ : ∃ z, z = z1 * z2 := ⟨_, rfl⟩
 rw [← hp] at HT hv
 rw [← hz] at hv ⊢
 obtain ⟨sg, hsg⟩ : ∃ s, s = (m1 != m2) := ⟨_, rfl⟩
 rw [← hsg] at hv
 have HV := Lib.hid hv
 have SG : (!(m1 == m2)) = sg := hsg.symm
 clear h1 h2 hk hp hz hv hsg
 go_enter Tryz.func133, Tryz.ntmps133
 go_wp2_with fail
 obtain ⟨n0, n1, n2, hsz, hw0⟩ := oh w (.cells #[.slice A1 l1.length c1, .bool m1] 66) (.cells #[.slice A2 l2.length c2, .bool m2] 66) (.cells #[.slice none 0 0, .bool false] 66)
 generalize (((w.alloc (.cells #[.slice A1 l1.length c1, .bool m1] 66)).alloc (.cells #[.slice A2 l2.length c2, .bool m2] 66)).alloc (.cells #[.slice none 0 0, .bool false] 66)) = W0 at *
 have k0 : W0.cell? ⟨w.heap.size, 0, none⟩ = some (.slice A1 l1.length c1) := ag n0 0
 have k1 : W0.cell? ⟨w.heap.size, 1, none⟩ = some (.bool m1) := ag n0 1
 have k2 : W0.cell? ⟨w.heap.size + 1, 0, none⟩ = some (.slice A2 l2.length c2) := ag n1 0
 have k3 : W0.cell? ⟨w.heap.size + 1, 1, none⟩ = some (.bool m2) := ag n1 1
 have q0 : w.heap.size < W0.heap.size := by omega
 have q1 : w.heap.size + 1 < W0.heap.size := by omega
 have q2 : w.heap.size + 1 + 1 < W0.heap.size := by omega
 have r0 : W0.cell? ⟨w.heap.size + 1 + 1, 0, none⟩ = some (.slice none 0 0) := ag n2 0
 have r1 : W0.cell? ⟨w.heap.size + 1 + 1, 1, none⟩ = some (.bool false) := ag n2 1
 have f0 := ai n2 0
 have f1 := ai n2 1
 have NR := Lib.hid n2
 clear n0 n1 n2 hsz
 go_region_held3 (fun w' => w'.cell? ⟨w.heap.size, 0, none⟩ = some (.slice A1 l1.length c1) ∧ w'.cell? ⟨w.heap.size, 1, none⟩ = some (.bool m1) ∧ w'.cell? ⟨w.heap.size + 1, 0, none⟩ = some (.slice A2 l2.length c2) ∧ w'.cell? ⟨w.heap.size + 1, 1, none⟩ = some (.bool m2)) ((first | with_reducible exact ⟨k0, k1, k2, k3⟩ | with_reducible exact ⟨(hc _ _ q0).trans k0, (hc _ _ q0).trans k1, (hc _ _ q1).trans k2, (hc _ _ q1).trans k3⟩ | with_reducible exact ⟨(Ob _ _ _ _ om).trans ((hc _ _ q0).trans k0), (Ob _ _ _ _ om).trans ((hc _ _ q0).trans k1), (Ob _ _ _ _ om).trans ((hc _ _ q1).trans k2), (Ob _ _ _ _ om).trans ((hc _ _ q1).trans k3)⟩ | exact ⟨k0, k1, k2, k3⟩ | exact ⟨(hc _ _ q0).trans k0, (hc _ _ q0).trans k1, (hc _ _ q1).trans k2, (hc _ _ q1).trans k3⟩)) (first | (go_at_call 184; refine ((aa HT) _ (bg hw0 (by (first | with_reducible assumption | (repeat (first | with_reducible exact Below.refl _ _ | with_reducible assumption | refine Below.drew ?_ | (refine Below.alloc ?_ (by simp <;> omega) _))))))).mono ?_; rintro e w' ⟨A5, c5, l5, rfl, xc, hb⟩; have hbw := bz (w := W0) bem hb; obtain ⟨hc, hfz⟩ := dz hbw) | (go_at_call 179; refine (Eo A5 c5 l5 p sg _ (by exact xc)).mono ?_; rw [HV.out]; rintro e w' ⟨A6, c6, l6, m6, rfl, Ei, hb⟩; have hbw := bz (w := W0) bem hb; obtain ⟨hc, hfz⟩ := dz hbw))
 all_goals
  have hblk : w'.heap[w.heap.size + 1 + 1]? = some (.cells #[.slice none 0 0, .bool false] 66 (0, 0)) := (hbw.block _ q2).trans NR.out
  have jy := Lib.hid hblk
  have jh : Below w.heap.size w w' := bg hw0 hbw
  clear hblk
  go_wp2_with fail
  exact bodyPost_ret (v := .agg #[.slice A6 l6.length c6, .bool m6]) (by simp [results, Tryz.results133, go_sem, hc, r0, r1, q2]) rfl
   ⟨A6, c6, l6, m6, rfl, Ei.upto jy.out (Kb _ _ _ _) (mh _ _ _ _), jh.grown (mh _ _ _ _) jh.size (fun k hk => by injection hk with hk; omega)⟩
end Go.Proofs.YtfgeaakhlcaibaaGreatDoor
