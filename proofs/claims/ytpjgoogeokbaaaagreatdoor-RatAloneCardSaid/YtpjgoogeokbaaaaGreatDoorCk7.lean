/- Texts beneath a law of layer 1. -/
import Derived.Test.YtpjgoogeokbaaaaGreatDoorCk6
set_option maxRecDepth 100000
namespace Go.Proofs.YtpjgoogeokbaaaaGreatDoor
open Go.RowKit

set_option maxHeartbeats 8000000 in
theorem ayl (s1 : Int) (bz : Bool) (A1 : Option Addr) (c1 : Nat) (l1 : List Nat) (z1 : Int) (s2 : Int) (cu : Bool) (A2 : Option Addr) (c2 : Nat) (l2 : List Nat) (z2 : Int) (w : World) (h1 : dz w s1 bz A1 c1 l1 z1) (h2 : dz w s2 cu A2 c2 l2 z2) (hz : z1 < 0) :
  Calls Tryz.prog 83 #[(Value.agg #[.int .i64 s1, .bool bz, .slice A1 l1.length c1, .int .i64 s2, .bool cu, .slice A2 l2.length c2])] w fun e w' => Gr w (-z2) (-z1) e w' := by
 have hs : decide (gm z1 < 0) = true := decide_eq_true (by rw [Jt]; exact hz)
 obtain ⟨o1, ho1⟩ : ∃ o, o = gm z1 := ⟨_, rfl⟩
 have HS : Hid (∀ W, Below w.heap.size w W → Calls Tryz.prog 128 #[(Value.agg #[.int .i64 s1, .bool bz, .slice A1 l1.length c1])] W fun e w' => e = .returned (.int .i64 o1) ∧ Below W.heap.size W w') := by rw [ho1]; exact fun W hW => Bl s1 bz A1 c1 l1 z1 W (h1.below hW)
 rw [← ho1] at hs
 clear ho1 hz
 have H1 := hide h1
 have H2 := hide h2
 clear h1 h2
 go_enter Tryz.func83, Tryz.ntmps83
 go_wp2_with fail
 obtain ⟨n0, n1, hsz, hw0⟩ := jm w (.cells #[.int .i64 s1, .bool bz, .slice A1 l1.length c1, .int .i64 s2, .bool cu, .slice A2 l2.length c2] 63) (.cells #[.int .i64 0, .bool false, .slice none 0 0, .int .i64 0, .bool false, .slice none 0 0] 63)
 generalize ((w.alloc (.cells #[.int .i64 s1, .bool bz, .slice A1 l1.length c1, .int .i64 s2, .bool cu, .slice A2 l2.length c2] 63)).alloc (.cells #[.int .i64 0, .bool false, .slice none 0 0, .int .i64 0, .bool false, .slice none 0 0] 63)) = W0 at *
 have jl : W0.cell? ⟨w.heap.size, 0, none⟩ = some (.int .i64 s1) := ag n0 0
 have jk : W0.cell? ⟨w.heap.size, 1, none⟩ = some (.bool bz) := ag n0 1
 have jy : W0.cell? ⟨w.heap.size, 2, none⟩ = some (.slice A1 l1.length c1) := ag n0 2
 have ky : W0.cell? ⟨w.heap.size, 3, none⟩ = some (.int .i64 s2) := ag n0 3
 have Ag : W0.cell? ⟨w.heap.size, 4, none⟩ = some (.bool cu) := ag n0 4
 have Af : W0.cell? ⟨w.heap.size, 5, none⟩ = some (.slice A2 l2.length c2) := ag n0 5
 have q0 : w.heap.size < W0.heap.size := by omega
 have jq : W0.cell? ⟨w.heap.size + 1, 0, none⟩ = some (.int .i64 0) := ag n1 0
 have jo : W0.cell? ⟨w.heap.size + 1, 1, none⟩ = some (.bool false) := ag n1 1
 have lh : W0.cell? ⟨w.heap.size + 1, 2, none⟩ = some (.slice none 0 0) := ag n1 2
 have lv : W0.cell? ⟨w.heap.size + 1, 3, none⟩ = some (.int .i64 0) := ag n1 3
 have Dw : W0.cell? ⟨w.heap.size + 1, 4, none⟩ = some (.bool false) := ag n1 4
 have Dv : W0.cell? ⟨w.heap.size + 1, 5, none⟩ = some (.slice none 0 0) := ag n1 5
 have q1 : w.heap.size + 1 < W0.heap.size := by omega
 have Lm := ah n1 0
 have Ll := ah n1 1
 have adr := ah n1 2
 have adq := ah n1 3
 have bba := ah n1 4
 have baz := ah n1 5
 have NR := Lib.hid n1
 clear n0 n1
 refine ((aa HS) _ (au hw0 bem)).mono ?_
 rintro e w' ⟨rfl, hb⟩
 have hbw := ay (w := W0) bem hb; obtain ⟨hc, hfz⟩ := az hbw
 go_wp2_with fail
 go_region_held3 (fun w' => w'.cell? ⟨w.heap.size, 0, none⟩ = some (.int .i64 s1) ∧ w'.cell? ⟨w.heap.size, 1, none⟩ = some (.bool bz) ∧ w'.cell? ⟨w.heap.size, 2, none⟩ = some (.slice A1 l1.length c1) ∧ w'.cell? ⟨w.heap.size, 3, none⟩ = some (.int .i64 s2) ∧ w'.cell? ⟨w.heap.size, 4, none⟩ = some (.bool cu) ∧ w'.cell? ⟨w.heap.size, 5, none⟩ = some (.slice A2 l2.length c2)) ((first | with_reducible exact ⟨(hc _ _ q0).trans jl, (hc _ _ q0).trans jk, (hc _ _ q0).trans jy, (hc _ _ q0).trans ky, (hc _ _ q0).trans Ag, (hc _ _ q0).trans Af⟩ | with_reducible exact ⟨jl, jk, jy, ky, Ag, Af⟩ | with_reducible exact ⟨(ib _ _ _ _ _ _ _ _ om).trans ((hc _ _ q0).trans jl), (ib _ _ _ _ _ _ _ _ om).trans ((hc _ _ q0).trans jk), (ib _ _ _ _ _ _ _ _ om).trans ((hc _ _ q0).trans jy), (ib _ _ _ _ _ _ _ _ om).trans ((hc _ _ q0).trans ky), (ib _ _ _ _ _ _ _ _ om).trans ((hc _ _ q0).trans Ag), (ib _ _ _ _ _ _ _ _ om).trans ((hc _ _ q0).trans Af)⟩ | exact ⟨(hc _ _ q0).trans jl, (hc _ _ q0).trans jk, (hc _ _ q0).trans jy, (hc _ _ q0).trans ky, (hc _ _ q0).trans Ag, (hc _ _ q0).trans Af⟩ | exact ⟨jl, jk, jy, ky, Ag, Af⟩ | exact ⟨(ib _ _ _ _ _ _ _ _ om).trans ((hc _ _ q0).trans jl), (ib _ _ _ _ _ _ _ _ om).trans ((hc _ _ q0).trans jk), (ib _ _ _ _ _ _ _ _ om).trans ((hc _ _ q0).trans jy), (ib _ _ _ _ _ _ _ _ om).trans ((hc _ _ q0).trans ky), (ib _ _ _ _ _ _ _ _ om).trans ((hc _ _ q0).trans Ag), (ib _ _ _ _ _ _ _ _ om).trans ((hc _ _ q0).trans Af)⟩)) (first | (go_at_call_of 129 (Value.agg #[.int .i64 s2, .bool cu, .slice A2 l2.length c2]); refine (Vo s2 cu A2 c2 l2 z2 _ (by exact (aa H2).below (au hw0 bem))).mono ?_; rintro e w' ⟨s5, si, A5, c5, l5, rfl, kz, hb⟩; have hbw := ay (w := W0) bem hb; obtain ⟨hc, hfz⟩ := az hbw) | (go_at_call_of 129 (Value.agg #[.int .i64 s1, .bool bz, .slice A1 l1.length c1]); refine (Vo s1 bz A1 c1 l1 z1 _ (by exact (aa H1).below (au hw0 bem))).mono ?_; rintro e w' ⟨s6, xg, A6, c6, l6, rfl, og, hb⟩; have kz := kz.below hb; have hbw := ay (w := W0) bem hb; obtain ⟨hc, hfz⟩ := az hbw))
 have hblk : w'.heap[w.heap.size + 1]? = some (.cells #[.int .i64 0, .bool false, .slice none 0 0, .int .i64 0, .bool false, .slice none 0 0] 63 (0, 0)) := (hbw.block _ q1).trans NR.out
 have jd := Lib.hid hblk
 have gp : Below w.heap.size w w' := au hw0 hbw
 clear hblk
 go_wp2_with fail
 exact bodyPost_ret (v := (Value.agg #[.int .i64 s5, .bool si, .slice A5 l5.length c5, .int .i64 s6, .bool xg, .slice A6 l6.length c6])) (by simp [results, Tryz.results83, go_sem, hc, jq, jo, lh, lv, Dw, Dv, q1]) rfl
  ⟨s5, si, A5, c5, l5, s6, xg, A6, c6, l6, rfl, (kz).upto jd.out (Ai _ _ _ _ _ _ _ _ _ _) (pq _ _ _ _ _ _ _ _), (og).upto jd.out (Ai _ _ _ _ _ _ _ _ _ _) (pq _ _ _ _ _ _ _ _), gp.grown (pq _ _ _ _ _ _ _ _) gp.size (fun k hk => by injection hk with hk; omega)⟩
set_option maxHeartbeats 8000000 in
theorem ayk (s1 : Int) (bz : Bool) (A1 : Option Addr) (c1 : Nat) (l1 : List Nat) (z1 : Int) (s2 : Int) (cu : Bool) (A2 : Option Addr) (c2 : Nat) (l2 : List Nat) (z2 : Int) (w : World) (h1 : dz w s1 bz A1 c1 l1 z1) (h2 : dz w s2 cu A2 c2 l2 z2) (hz : ¬ z1 < 0) :
  Calls Tryz.prog 83 #[(Value.agg #[.int .i64 s1, .bool bz, .slice A1 l1.length c1, .int .i64 s2, .bool cu, .slice A2 l2.length c2])] w fun e w' => Gr w z2 z1 e w' := by
 have hs : decide (gm z1 < 0) = false := decide_eq_false (by rw [Jt]; exact hz)
 obtain ⟨o1, ho1⟩ : ∃ o, o = gm z1 := ⟨_, rfl⟩
 have HS : Hid (∀ W, Below w.heap.size w W → Calls Tryz.prog 128 #[(Value.agg #[.int .i64 s1, .bool bz, .slice A1 l1.length c1])] W fun e w' => e = .returned (.int .i64 o1) ∧ Below W.heap.size W w') := by rw [ho1]; exact fun W hW => Bl s1 bz A1 c1 l1 z1 W (h1.below hW)
 rw [← ho1] at hs
 clear ho1 hz
 have H1 := hide h1
 have H2 := hide h2
 clear h1 h2
 go_enter Tryz.func83, Tryz.ntmps83
 go_wp2_with fail
 obtain ⟨n0, n1, hsz, hw0⟩ := jm w (.cells #[.int .i64 s1, .bool bz, .slice A1 l1.length c1, .int .i64 s2, .bool cu, .slice A2 l2.length c2] 63) (.cells #[.int .i64 0, .bool false, .slice none 0 0, .int .i64 0, .bool false, .slice none 0 0] 63)
 generalize ((w.alloc (.cells #[.int .i64 s1, .bool bz, .slice A1 l1.length c1, .int .i64 s2, .bool cu, .slice A2 l2.length c2] 63)).alloc (.cells #[.int .i64 0, .bool false, .slice none 0 0, .int .i64 0, .bool false, .slice none 0 0] 63)) = W0 at *
 have jl : W0.cell? ⟨w.heap.size, 0, none⟩ = some (.int .i64 s1) := ag n0 0
 have jk : W0.cell? ⟨w.heap.size, 1, none⟩ = some (.bool bz) := ag n0 1
 have jy : W0.cell? ⟨w.heap.size, 2, none⟩ = some (.slice A1 l1.length c1) := ag n0 2
 have ky : W0.cell? ⟨w.heap.size, 3, none⟩ = some (.int .i64 s2) := ag n0 3
 have Ag : W0.cell? ⟨w.heap.size, 4, none⟩ = some (.bool cu) := ag n0 4
 have Af : W0.cell? ⟨w.heap.size, 5, none⟩ = some (.slice A2 l2.length c2) := ag n0 5
 have q0 : w.heap.size < W0.heap.size := by omega
 have jq : W0.cell? ⟨w.heap.size + 1, 0, none⟩ = some (.int .i64 0) := ag n1 0
 have jo : W0.cell? ⟨w.heap.size + 1, 1, none⟩ = some (.bool false) := ag n1 1
 have lh : W0.cell? ⟨w.heap.size + 1, 2, none⟩ = some (.slice none 0 0) := ag n1 2
 have lv : W0.cell? ⟨w.heap.size + 1, 3, none⟩ = some (.int .i64 0) := ag n1 3
 have Dw : W0.cell? ⟨w.heap.size + 1, 4, none⟩ = some (.bool false) := ag n1 4
 have Dv : W0.cell? ⟨w.heap.size + 1, 5, none⟩ = some (.slice none 0 0) := ag n1 5
 have q1 : w.heap.size + 1 < W0.heap.size := by omega
 have Lm := ah n1 0
 have Ll := ah n1 1
 have adr := ah n1 2
 have adq := ah n1 3
 have bba := ah n1 4
 have baz := ah n1 5
 have NR := Lib.hid n1
 clear n0 n1
 refine ((aa HS) _ (au hw0 bem)).mono ?_
 rintro e w' ⟨rfl, hb⟩
 have hbw := ay (w := W0) bem hb; obtain ⟨hc, hfz⟩ := az hbw
 have hblk : w'.heap[w.heap.size + 1]? = some (.cells #[.int .i64 0, .bool false, .slice none 0 0, .int .i64 0, .bool false, .slice none 0 0] 63 (0, 0)) := (hbw.block _ q1).trans NR.out
 have jd := Lib.hid hblk
 have gp : Below w.heap.size w w' := au hw0 hbw
 clear hblk
 go_wp2_with fail
 exact bodyPost_ret (v := (Value.agg #[.int .i64 s2, .bool cu, .slice A2 l2.length c2, .int .i64 s1, .bool bz, .slice A1 l1.length c1])) (by simp [results, Tryz.results83, go_sem, hc, jq, jo, lh, lv, Dw, Dv, q1]) rfl
  ⟨s2, cu, A2, c2, l2, s1, bz, A1, c1, l1, rfl, ((aa H2).below (au hw0 hbw)).upto jd.out (Ai _ _ _ _ _ _ _ _ _ _) (pq _ _ _ _ _ _ _ _), ((aa H1).below (au hw0 hbw)).upto jd.out (Ai _ _ _ _ _ _ _ _ _ _) (pq _ _ _ _ _ _ _ _), gp.grown (pq _ _ _ _ _ _ _ _) gp.size (fun k hk => by injection hk with hk; omega)⟩

end Go.Proofs.YtpjgoogeokbaaaaGreatDoor
namespace Go.Proofs.YtpjgoogeokbaaaaGreatDoor
open Go.RowKit

def ady (w : World) (F : Nat) (x q : Rat) : Prop := ∀ (s1 : Int) (bz : Bool) (A1 : Option Addr) (c1 : Nat) (l1 : List Nat) (s2 : Int) (cu : Bool) (A2 : Option Addr) (c2 : Nat) (l2 : List Nat) (W : World), Below w.heap.size w W → dz W s1 bz A1 c1 l1 x.num → dz W s2 cu A2 c2 l2 (x.den : Int) → Calls Tryz.prog F #[(Value.agg #[.int .i64 s1, .bool bz, .slice A1 l1.length c1, .int .i64 s2, .bool cu, .slice A2 l2.length c2])] W fun e w' => Gr W q.num (q.den : Int) e w'
def Qf (w : World) (F : Nat) (x y q : Rat) : Prop := ∀ (s1 : Int) (bz : Bool) (A1 : Option Addr) (c1 : Nat) (l1 : List Nat) (s2 : Int) (cu : Bool) (A2 : Option Addr) (c2 : Nat) (l2 : List Nat) (s3 : Int) (ze : Bool) (A3 : Option Addr) (c3 : Nat) (l3 : List Nat) (s4 : Int) (yc : Bool) (A4 : Option Addr) (c4 : Nat) (l4 : List Nat) (W : World), Below w.heap.size w W → dz W s1 bz A1 c1 l1 x.num → dz W s2 cu A2 c2 l2 (x.den : Int) → dz W s3 ze A3 c3 l3 y.num → dz W s4 yc A4 c4 l4 (y.den : Int) → Calls Tryz.prog F #[(Value.agg #[.int .i64 s1, .bool bz, .slice A1 l1.length c1, .int .i64 s2, .bool cu, .slice A2 l2.length c2]), (Value.agg #[.int .i64 s3, .bool ze, .slice A3 l3.length c3, .int .i64 s4, .bool yc, .slice A4 l4.length c4])] W fun e w' => Gr W q.num (q.den : Int) e w'
theorem ady.mono {w w' : World} {F : Nat} {x q : Rat} (h : ady w F x q) (hb : Below w.heap.size w w') : ady w' F x q := fun _ _ _ _ _ _ _ _ _ _ W hW => h _ _ _ _ _ _ _ _ _ _ W (au hb hW)
theorem Qf.mono {w w' : World} {F : Nat} {x y q : Rat} (h : Qf w F x y q) (hb : Below w.heap.size w w') : Qf w' F x y q := fun _ _ _ _ _ _ _ _ _ _ _ _ _ _ _ _ _ _ _ _ W hW => h _ _ _ _ _ _ _ _ _ _ _ _ _ _ _ _ _ _ _ _ W (au hb hW)

def xy (K : Nat) (q : Rat) : Prop := Wd.Sz dm K q.num ∧ Wd.Sz dm K (q.den : Int)
theorem xy.mono {K L : Nat} {q : Rat} (h : xy K q) (hk : K ≤ L) : xy L q := ⟨h.1.mono wz hk, h.2.mono wz hk⟩
theorem xy.neg {K : Nat} {q : Rat} (h : xy K q) : xy K (-q) := ⟨by rw [Rat.neg_num]; exact h.1.neg, by rw [Rat.neg_den]; exact h.2⟩

theorem bgt (w : World) (x : Rat) : ady w 87 x (-x) := fun s1 bz A1 c1 l1 s2 cu A2 c2 l2 W _ f1 f2 => by
 rw [Rat.neg_num, Rat.neg_den]
 exact ayj s1 bz A1 c1 l1 _ s2 cu A2 c2 l2 _ W f1 f2
theorem bgu (w : World) (x : Rat) (h : x.num ≠ 0) : ady w 83 x (x⁻¹) := fun s1 bz A1 c1 l1 s2 cu A2 c2 l2 W _ f1 f2 => by
 have hp := Wd.Uk x h
 by_cases hn : x.num < 0
 ·
  rw [(hp.1 hn).1, (hp.1 hn).2]
  exact ayl s1 bz A1 c1 l1 _ s2 cu A2 c2 l2 _ W f1 f2 hn
 ·
  rw [(hp.2 hn).1, (hp.2 hn).2]
  exact ayk s1 bz A1 c1 l1 _ s2 cu A2 c2 l2 _ W f1 f2 hn
theorem xy.inv {K : Nat} {q : Rat} (h : xy K q) (h0 : q.num ≠ 0) : xy K (q⁻¹) := by
 have hp := Wd.Uk q h0
 by_cases hn : q.num < 0
 ·
  exact ⟨by rw [(hp.1 hn).1]; exact h.2.neg, by rw [(hp.1 hn).2]; exact h.1.neg⟩
 ·
  exact ⟨by rw [(hp.2 hn).1]; exact h.2, by rw [(hp.2 hn).2]; exact h.1⟩

theorem bgv {w : World} {K : Nat} (hT : rz w) (x y : Rat) (hx : xy K x) (hy : xy K y) (hK : K + K + 1 ≤ lim) : Qf w 82 x y (x + y) ∧ xy (K + K + 1) (x + y) := by
 have dx : (x.den : Int) ≠ 0 := by have := x.den_pos; omega
 have dy : (y.den : Int) ≠ 0 := by have := y.den_pos; omega
 obtain ⟨g, hg⟩ : ∃ g, g = x.den.gcd y.den := ⟨_, rfl⟩
 obtain ⟨xd, hxd⟩ : ∃ z, z = (x.den : Int).tdiv g := ⟨_, rfl⟩
 obtain ⟨yd, hyd⟩ : ∃ z, z = (y.den : Int).tdiv g := ⟨_, rfl⟩
 obtain ⟨m1, hm1⟩ : ∃ z, z = x.num * yd := ⟨_, rfl⟩
 obtain ⟨m2, hm2⟩ : ∃ z, z = y.num * xd := ⟨_, rfl⟩
 obtain ⟨n, hn⟩ : ∃ z, z = m1 + m2 := ⟨_, rfl⟩
 obtain ⟨h, hh⟩ : ∃ h, h = g.gcd n.natAbs := ⟨_, rfl⟩
 obtain ⟨e1, he1⟩ : ∃ z, z = (y.den : Int).tdiv h := ⟨_, rfl⟩
 have hp := Wd.afw x y g h n hg (by rw [hn, hm1, hm2, hxd, hyd]) hh
 have g0 : 0 < g := by rw [hg]; exact Nat.gcd_pos_of_pos_left _ x.den_pos
 have h0 : 0 < h := by rw [hh]; exact Nat.gcd_pos_of_pos_left _ g0
 have sg : Wd.Sz dm K (g : Int) := by
  have := hx.2.gcd_left (b := (y.den : Int)) dx
  simpa [hg] using this
 have sh : Wd.Sz dm K (h : Int) := by
  have := sg.gcd_left (b := n) om
  simpa [hh] using this
 have sxd : Wd.Sz dm K xd := by rw [hxd]; exact hx.2.tdiv _
 have syd : Wd.Sz dm K yd := by rw [hyd]; exact hy.2.tdiv _
 have sm1 : Wd.Sz dm (K + K) m1 := by rw [hm1]; exact hx.1.mul syd
 have sm2 : Wd.Sz dm (K + K) m2 := by rw [hm2]; exact hy.1.mul sxd
 have sn : Wd.Sz dm (K + K + 1) n := by rw [hn]; exact sm1.add wz sm2
 have se1 : Wd.Sz dm K e1 := by rw [he1]; exact hy.2.tdiv _
 have B := wz
 have up : ∀ z, Wd.Sz dm K z → Wd.Sz dm (K + K + 1) z := fun z hz => hz.mono B om
 refine ⟨?_, ⟨by rw [hp.1]; exact sn.tdiv _, by rw [hp.2]; exact ((hx.2.tdiv _).mul (hy.2.tdiv _)).mono B om⟩⟩
 rw [Qf, hp.1, hp.2]
 exact fun s1 bz A1 c1 l1 s2 cu A2 c2 l2 s3 ze A3 c3 l3 s4 yc A4 c4 l4 W hW f1 f2 f3 f4 => ato s1 bz A1 c1 l1 s2 cu A2 c2 l2 s3 ze A3 c3 l3 s4 yc A4 c4 l4 x.num (x.den : Int) y.num (y.den : Int) (g : Int) xd yd m1 m2 n (h : Int) _ e1 _ W f1 f2 f3 f4
  (Ze (hT.below hW) (up _ hx.2) (up _ hy.2) hK (by simp [hg])) (Mh (up _ hx.2) (up _ sg) hK om hxd) (Mh (up _ hy.2) (up _ sg) hK om hyd)
  (Ue (up _ hx.1) (up _ syd) hK hm1) (Ue (up _ hy.1) (up _ sxd) hK hm2) (bij (sm1.mono B om) (sm2.mono B om) hK hn)
  (Ze (hT.below hW) (up _ sg) sn hK (by simp [hh])) (Mh sn (up _ sh) hK om rfl) (Mh (up _ hy.2) (up _ sh) hK om he1) (Ue (up _ sxd) (up _ se1) hK (by rw [hxd, he1]))

end Go.Proofs.YtpjgoogeokbaaaaGreatDoor
namespace Go.Proofs.YtpjgoogeokbaaaaGreatDoor
open Go.RowKit

theorem aqs {w W : World} {B b : Nat} {z x : Int} {s2 : Int} {cu : Bool} {A2 : Option Addr} {c2 : Nat} {l2 : List Nat} (hq : Bj W b z) (hv : dz W s2 cu A2 c2 l2 x) (hb : Below B w W) (hB : B ≤ b) (hBW : B ≤ W.heap.size) :
  Bj (((W.setCell ⟨b, 0, none⟩ (.int .i64 s2)).setCell ⟨b, 1, none⟩ (.bool cu)).setCell ⟨b, 2, none⟩ (.slice A2 l2.length c2)) b x ∧ Below B w (((W.setCell ⟨b, 0, none⟩ (.int .i64 s2)).setCell ⟨b, 1, none⟩ (.bool cu)).setCell ⟨b, 2, none⟩ (.slice A2 l2.length c2)) := by
 obtain ⟨s1, bz, A1, c1, l1, h1, h2⟩ := hq
 have hg := jg W b (.int .i64 s2) (.bool cu) (.slice A2 l2.length c2)
 exact ⟨⟨_, _, _, _, _, Nh h1, hv.upto h1 (wu _ _ _ _ _) hg⟩, hb.grown hg hBW (fun k hk => by injection hk with hk; omega)⟩
theorem Wd.asv {B K : Nat} {z : Int} (h : Wd.Sz B K z) (h1 : Wd.Sz B 1 1) : ∀ n : Nat, Wd.Sz B (K * n + 1) (z ^ n)
 | 0 => by rw [Int.pow_zero, Nat.mul_zero, Nat.zero_add]; exact h1
 | n + 1 => by
  have := (Wd.asv h h1 n).mul h
  rw [Int.pow_succ, Nat.mul_succ, Nat.add_right_comm]
  exact this
theorem bhx : Wd.Sz dm 1 1 := by unfold Wd.Sz; rw [Nat.pow_one, gu]; omega
namespace Wd
end Wd
end Go.Proofs.YtpjgoogeokbaaaaGreatDoor
namespace Go.Proofs.YtpjgoogeokbaaaaGreatDoor
open Go.RowKit

set_option maxHeartbeats 16000000 in
theorem ajh (s1 : Int) (bz : Bool) (A1 : Option Addr) (c1 : Nat) (l1 : List Nat) (z : Int) (n K : Nat) (w : World) (h1 : dz w s1 bz A1 c1 l1 z) (sz : Wd.Sz dm K z) (hK : K * n + 1 ≤ lim) (hK2 : K ≤ lim) (hn : n ≤ 9223372036854775806) :
  Calls Tryz.prog 104 #[(Value.agg #[.int .i64 s1, .bool bz, .slice A1 l1.length c1]), .int .i64 n] w fun e w' => Fp w (z ^ n) e w' := by
 have HX := hide h1; have HSZ := hide sz; have HK := hide hK; have HK2 := hide hK2
 have HO := hide (fun W => Kl 1 om om W)
 clear h1 sz hK hK2
 go_enter Tryz.func104, Tryz.ntmps104
 go_upto_region 1 with fail
 obtain ⟨nx, nr, hsz, hw0⟩ := jm w (.cells #[.int .i64 s1, .bool bz, .slice A1 l1.length c1] 61) (.cells #[.int .i64 0, .bool false, .slice none 0 0] 61)
 generalize ((w.alloc (.cells #[.int .i64 s1, .bool bz, .slice A1 l1.length c1] 61)).alloc (.cells #[.int .i64 0, .bool false, .slice none 0 0] 61)) = W0 at *
 have hq := lt_of_block nr
 clear hsz
 go_wp2_with fail
 refine ((aa HO) _).mono ?_
 rintro e W1 ⟨s5, si, A5, c5, l5, rfl, g1, hb⟩
 replace nx := (hb.block _ (lt_of_block nx)).trans nx
 replace nr := (hb.block _ (lt_of_block nr)).trans nr
 replace hq := Nat.lt_of_lt_of_le hq hb.size
 replace hw0 := au hw0 hb
 clear hb
 go_upto_region 2 with fail
 have hbx := Bj.new g1 rfl
 have hb := je (Below.refl W1.heap.size W1) (.cells #[.int .i64 s5, .bool si, .slice A5 l5.length c5] 61)
 clear g1
 obtain ⟨bx, Xx⟩ : ∃ b, b = W1.heap.size := ⟨_, rfl⟩
 rw [← Xx] at hbx ⊢
 have hbB : w.heap.size + 1 < bx := by rw [Xx]; exact hq
 generalize W1.alloc (.cells #[.int .i64 s5, .bool si, .slice A5 l5.length c5] 61) = W2 at *
 replace nx := (hb.block _ (lt_of_block nx)).trans nx
 replace nr := (hb.block _ (lt_of_block nr)).trans nr
 replace hq := Nat.lt_of_lt_of_le hq hb.size
 replace hw0 := au hw0 hb
 clear hb Xx
 have HW0 := hide hw0; have NX := hide nx; have NR := hide nr; have HQ := hide hq
 clear hw0 nx nr hq
 go_wp2_with fail
 go_loopw [8] (fun iv wr => ∃ k : Nat, k ≤ n ∧ iv = .int .i64 (k : Int) ∧ Bj wr bx (z ^ k) ∧ Hid (Below (w.heap.size + 2) W2 wr)) (fun iv _ => n - (intOf iv).toNat)
 case atStart => exact ⟨0, Nat.zero_le _, by first | rfl | go_num, by rw [Int.pow_zero]; exact hbx, hide (Below.refl _ _)⟩
 case round =>
  obtain ⟨k, hk, rfl, hbq, hgr⟩ := hrel
  have hwr : Below w.heap.size w wr := (aa HW0).trans ((aa hgr).mono om)
  have hq0 := aa HQ
  have hgs := (aa hgr).size
  by_cases hlt : k < n
  ·
   obtain ⟨s6, xg, A6, c6, l6, j1, Pt⟩ := hbq
   have jx := ((aa hgr).block w.heap.size om).trans (aa NX)
   have Xp : wr.cell? ⟨bx, 0, none⟩ = some (.int .i64 s6) := ag j1 0
   have Xc := ah j1 0
   have Xo : wr.cell? ⟨bx, 1, none⟩ = some (.bool xg) := ag j1 1
   have Xb := ah j1 1
   have Xn : wr.cell? ⟨bx, 2, none⟩ = some (.slice A6 l6.length c6) := ag j1 2
   have Xa := ah j1 2
   have qx := lt_of_block j1
   have btq : wr.cell? ⟨w.heap.size, 0, none⟩ = some (.int .i64 s1) := ag jx 0
   have btp : wr.cell? ⟨w.heap.size, 1, none⟩ = some (.bool bz) := ag jx 1
   have bto : wr.cell? ⟨w.heap.size, 2, none⟩ = some (.slice A1 l1.length c1) := ag jx 2
   have hX := (aa HX).below hwr
   have zk : Wd.Sz dm (K * k + 1) (z ^ k) := Wd.asv (aa HSZ) bhx k
   have hk2 : K * k ≤ K * n := Nat.mul_le_mul_left K om
   have HM := hide (aji s6 xg A6 c6 l6 (z ^ k) s1 bz A1 c1 l1 z wr Pt hX (Pt.fit zk (by have := aa HK; omega)) (hX.fit (aa HSZ) (aa HK2)))
   have hps : z ^ (k + 1) = z ^ k * z := Int.pow_succ z k
   have HPS := Lib.hid hps
   have d1 : decide ((k : Int) < (n : Int)) = true := decide_eq_true om
   have d2 : decide (k < n) = true := decide_eq_true hlt
   have J1 := hide j1; have F1 := hide Pt
   clear hps zk hk2 hX j1 Pt jx
   go_wp2_with fail
   refine (aa HM).mono ?_
   rintro e w' ⟨s7, Dc, A7, c7, l7, rfl, g7, hb⟩
   have hst := aqs (Bj.below ⟨_, _, _, _, _, aa J1, aa F1⟩ hb) g7 ((aa hgr).trans (hb.mono om)) om (by have := hb.size; omega)
   obtain ⟨hc, hfz⟩ := az hb
   replace Xp := (hc _ _ qx).trans Xp
   replace Xo := (hc _ _ qx).trans Xo
   replace Xn := (hc _ _ qx).trans Xn
   replace Xc := (hfz _ _ qx).trans Xc
   replace Xb := (hfz _ _ qx).trans Xb
   replace Xa := (hfz _ _ qx).trans Xa
   clear g7 hb hc hfz HM
   go_wp2_with fail
   go_roundw
   case rel => exact ⟨k + 1, by omega, by first | rfl | go_num, HPS.out ▸ hst.1, hide hst.2⟩
   case measure => simp [intOf] <;> omega
  ·
   obtain rfl : k = n := by omega
   obtain ⟨s6, xg, A6, c6, l6, j1, Pt⟩ := hbq
   have jr := ((aa hgr).block (w.heap.size + 1) om).trans (aa NR)
   have Xp : wr.cell? ⟨bx, 0, none⟩ = some (.int .i64 s6) := ag j1 0
   have Xc := ah j1 0
   have Xo : wr.cell? ⟨bx, 1, none⟩ = some (.bool xg) := ag j1 1
   have Xb := ah j1 1
   have Xn : wr.cell? ⟨bx, 2, none⟩ = some (.slice A6 l6.length c6) := ag j1 2
   have Xa := ah j1 2
   have qx := lt_of_block j1
   have r0 : wr.cell? ⟨w.heap.size + 1, 0, none⟩ = some (.int .i64 0) := ag jr 0
   have fr0 := ah jr 0
   have r1 : wr.cell? ⟨w.heap.size + 1, 1, none⟩ = some (.bool false) := ag jr 1
   have fr1 := ah jr 1
   have r2 : wr.cell? ⟨w.heap.size + 1, 2, none⟩ = some (.slice none 0 0) := ag jr 2
   have fr2 := ah jr 2
   have qr : w.heap.size + 1 < wr.heap.size := by omega
   have jd := Lib.hid jr
   have F1 := hide Pt
   have d1 : decide ((k : Int) < (k : Int)) = false := decide_eq_false om
   have d2 : decide (k < k) = false := decide_eq_false om
   clear j1 Pt jr hlt hk
   go_wp2_with fail
   exact bodyPost_ret (v := (Value.agg #[.int .i64 s6, .bool xg, .slice A6 l6.length c6])) (by simp [results, Tryz.results104, go_sem, r0, r1, r2, qr]) rfl
    ⟨s6, xg, A6, c6, l6, rfl, (aa F1).upto jd.out (wu _ _ _ _ _) (jg _ _ _ _ _), hwr.grown (jg _ _ _ _ _) hwr.size (fun k hk => by injection hk with hk; omega)⟩

end Go.Proofs.YtpjgoogeokbaaaaGreatDoor
namespace Go.Proofs.YtpjgoogeokbaaaaGreatDoor
open Go.RowKit

set_option maxHeartbeats 16000000 in
theorem ayx (s1 : Int) (bz : Bool) (A1 : Option Addr) (c1 : Nat) (l1 : List Nat) (s2 : Int) (cu : Bool) (A2 : Option Addr) (c2 : Nat) (l2 : List Nat) (z1 z2 g r1 r2 : Int) (w : World) (f1 : dz w s1 bz A1 c1 l1 z1) (f2 : dz w s2 cu A2 c2 l2 z2) (hs : ¬ z2 < 0)
  (hg : Ir w 124 z1 z2 g) (hq1 : Ir w 125 z1 g r1) (hq2 : Ir w 125 z2 g r2) :
  Calls Tryz.prog 101 #[(Value.agg #[.int .i64 s1, .bool bz, .slice A1 l1.length c1]), (Value.agg #[.int .i64 s2, .bool cu, .slice A2 l2.length c2])] w fun e w' => Gr w r1 r2 e w' := by

 have H1 := hide f1
 have H2 := hide f2
 have HG := hide hg
 have Vd := hide hq1
 have HQ2 := hide hq2
 have hs' : decide (gm z2 < 0) = false := decide_eq_false (by rw [Jt]; exact hs)
 obtain ⟨o, ho⟩ : ∃ o, o = gm z2 := ⟨_, rfl⟩
 have HS := hide (fun W (f : dz W s2 cu A2 c2 l2 z2) => (show Calls Tryz.prog 128 #[(Value.agg #[.int .i64 s2, .bool cu, .slice A2 l2.length c2])] W fun e w' => e = .returned (.int .i64 o) ∧ Below W.heap.size W w' by rw [ho]; exact Bl s2 cu A2 c2 l2 z2 W f))
 rw [← ho] at hs'
 clear f1 f2 hg hq1 hq2 hs ho
 go_enter Tryz.func101, Tryz.ntmps101
 go_upto_region 1 with fail
 obtain ⟨n0, n1, n2, hsz, hw0⟩ := ll w (.cells #[.int .i64 s1, .bool bz, .slice A1 l1.length c1] 61) (.cells #[.int .i64 s2, .bool cu, .slice A2 l2.length c2] 61) (.cells #[.int .i64 0, .bool false, .slice none 0 0, .int .i64 0, .bool false, .slice none 0 0] 63)
 generalize (((w.alloc (.cells #[.int .i64 s1, .bool bz, .slice A1 l1.length c1] 61)).alloc (.cells #[.int .i64 s2, .bool cu, .slice A2 l2.length c2] 61)).alloc (.cells #[.int .i64 0, .bool false, .slice none 0 0, .int .i64 0, .bool false, .slice none 0 0] 63)) = W0 at *
 have jl : W0.cell? ⟨w.heap.size, 0, none⟩ = some (.int .i64 s1) := ag n0 0
 have jk : W0.cell? ⟨w.heap.size, 1, none⟩ = some (.bool bz) := ag n0 1
 have jy : W0.cell? ⟨w.heap.size, 2, none⟩ = some (.slice A1 l1.length c1) := ag n0 2
 have q0 : w.heap.size < W0.heap.size := by omega
 have jq : W0.cell? ⟨w.heap.size + 1, 0, none⟩ = some (.int .i64 s2) := ag n1 0
 have jo : W0.cell? ⟨w.heap.size + 1, 1, none⟩ = some (.bool cu) := ag n1 1
 have lh : W0.cell? ⟨w.heap.size + 1, 2, none⟩ = some (.slice A2 l2.length c2) := ag n1 2
 have q1 : w.heap.size + 1 < W0.heap.size := by omega
 have qw : W0.cell? ⟨w.heap.size + 1 + 1, 0, none⟩ = some (.int .i64 0) := ag n2 0
 have qo : W0.cell? ⟨w.heap.size + 1 + 1, 1, none⟩ = some (.bool false) := ag n2 1
 have qm : W0.cell? ⟨w.heap.size + 1 + 1, 2, none⟩ = some (.slice none 0 0) := ag n2 2
 have qj : W0.cell? ⟨w.heap.size + 1 + 1, 3, none⟩ = some (.int .i64 0) := ag n2 3
 have Ht : W0.cell? ⟨w.heap.size + 1 + 1, 4, none⟩ = some (.bool false) := ag n2 4
 have Hr : W0.cell? ⟨w.heap.size + 1 + 1, 5, none⟩ = some (.slice none 0 0) := ag n2 5
 have q2 : w.heap.size + 1 + 1 < W0.heap.size := by omega
 have uj := ah n2 0
 have ui := ah n2 1
 have uh := ah n2 2
 have ug := ah n2 3
 have Jq := ah n2 4
 have Jp := ah n2 5
 have NR := Lib.hid n2
 clear hsz n0 n1 n2
 replace H1 := hide ((aa H1).below hw0)
 replace H2 := hide ((aa H2).below hw0)
 go_cut [5] (fun Me wx => ∃ b5 : Nat, Me = .pointer (some ⟨b5, 0, none⟩) ∧ Bj wx b5 g ∧ Below W0.heap.size W0 wx ∧ W0.heap.size ≤ b5)
 case first =>
  go_wp2_with fail
  refine ((aa HG) s1 bz A1 c1 l1 s2 cu A2 c2 l2 _ hw0 (aa H1) (aa H2)).mono ?_
  rintro e w' ⟨s5, si, A5, c5, l5, rfl, kz, hb5⟩
  go_wp2_with fail
  go_meet
  exact ⟨_, rfl, Zc kz hb5 rfl⟩
 case rest =>
  revert hcut
  generalize wc = W1
  intro hcut
  obtain ⟨b5, rfl, ⟨s5, si, A5, c5, l5, n5, f5⟩, hB1, Hd⟩ := hcut
  have Xt : W1.cell? ⟨b5, 0, none⟩ = some (.int .i64 s5) := ag n5 0
  have Xr : W1.cell? ⟨b5, 1, none⟩ = some (.bool si) := ag n5 1
  have Xq : W1.cell? ⟨b5, 2, none⟩ = some (.slice A5 l5.length c5) := ag n5 2
  have y0 : W1.cell? ⟨w.heap.size + 1, 0, none⟩ = some (.int .i64 s2) := ai hB1 q1 jq
  have y1 : W1.cell? ⟨w.heap.size + 1, 1, none⟩ = some (.bool cu) := ai hB1 q1 jo
  have y2 : W1.cell? ⟨w.heap.size + 1, 2, none⟩ = some (.slice A2 l2.length c2) := ai hB1 q1 lh
  go_wp2_with fail
  refine ((aa HS) W1 ((aa H2).below hB1)).mono ?_
  rintro e W2 ⟨rfl, hb⟩
  have q5 := lt_of_block n5
  have n5' := (hb.block _ q5).trans n5
  have f5' := f5.below hb
  have hB := au hB1 hb
  clear Xt Xr Xq y0 y1 y2 f5 n5 hB1
  have ng := n5'
  have fg := f5'
  clear n5' f5' hb
  have FG := hide fg
  clear fg
  have aad : W2.cell? ⟨w.heap.size, 0, none⟩ = some (.int .i64 s1) := ai hB q0 jl
  have aac : W2.cell? ⟨w.heap.size, 1, none⟩ = some (.bool bz) := ai hB q0 jk
  have aab : W2.cell? ⟨w.heap.size, 2, none⟩ = some (.slice A1 l1.length c1) := ai hB q0 jy
  have Rc : w.heap.size < W2.heap.size := Nat.lt_of_lt_of_le q0 hB.size
  have aaa : W2.cell? ⟨w.heap.size + 1, 0, none⟩ = some (.int .i64 s2) := ai hB q1 jq
  have Zz : W2.cell? ⟨w.heap.size + 1, 1, none⟩ = some (.bool cu) := ai hB q1 jo
  have Zy : W2.cell? ⟨w.heap.size + 1, 2, none⟩ = some (.slice A2 l2.length c2) := ai hB q1 lh
  have q1' : w.heap.size + 1 < W2.heap.size := Nat.lt_of_lt_of_le q1 hB.size
  have Tc := ag ng 0
  have Ta := ag ng 1
  have Sy := ag ng 2
  have Rb := lt_of_block ng
  simp only [Array.getElem?_eq_getElem, ku, ko, kg] at Tc Ta Sy
  have azp : W2.cell? ⟨w.heap.size + 1 + 1, 0, none⟩ = some (.int .i64 0) := ai hB q2 qw
  have buw : W2.frozen? ⟨w.heap.size + 1 + 1, 0, none⟩ = false := (hB.frozen (p := ⟨w.heap.size + 1 + 1, 0, none⟩) q2).trans uj
  have azo : W2.cell? ⟨w.heap.size + 1 + 1, 1, none⟩ = some (.bool false) := ai hB q2 qo
  have buv : W2.frozen? ⟨w.heap.size + 1 + 1, 1, none⟩ = false := (hB.frozen (p := ⟨w.heap.size + 1 + 1, 1, none⟩) q2).trans ui
  have azn : W2.cell? ⟨w.heap.size + 1 + 1, 2, none⟩ = some (.slice none 0 0) := ai hB q2 qm
  have buu : W2.frozen? ⟨w.heap.size + 1 + 1, 2, none⟩ = false := (hB.frozen (p := ⟨w.heap.size + 1 + 1, 2, none⟩) q2).trans uh
  have azm : W2.cell? ⟨w.heap.size + 1 + 1, 3, none⟩ = some (.int .i64 0) := ai hB q2 qj
  have bus : W2.frozen? ⟨w.heap.size + 1 + 1, 3, none⟩ = false := (hB.frozen (p := ⟨w.heap.size + 1 + 1, 3, none⟩) q2).trans ug
  have azl : W2.cell? ⟨w.heap.size + 1 + 1, 4, none⟩ = some (.bool false) := ai hB q2 Ht
  have bur : W2.frozen? ⟨w.heap.size + 1 + 1, 4, none⟩ = false := (hB.frozen (p := ⟨w.heap.size + 1 + 1, 4, none⟩) q2).trans Jq
  have azk : W2.cell? ⟨w.heap.size + 1 + 1, 5, none⟩ = some (.slice none 0 0) := ai hB q2 Hr
  have buq : W2.frozen? ⟨w.heap.size + 1 + 1, 5, none⟩ = false := (hB.frozen (p := ⟨w.heap.size + 1 + 1, 5, none⟩) q2).trans Jp
  have qr : w.heap.size + 1 + 1 < W2.heap.size := Nat.lt_of_lt_of_le q2 hB.size
  have or5 : w.heap.size + 1 + 1 < b5 := Nat.lt_of_lt_of_le q2 Hd
  clear jl jk jy jq jo lh qw qo qm qj Ht Hr uj ui uh ug Jq Jp ng
  have KEEP := hide (show ∀ X, Below W2.heap.size W2 X → X.cell? ⟨w.heap.size, 0, none⟩ = some (.int .i64 s1) ∧ X.cell? ⟨w.heap.size, 1, none⟩ = some (.bool bz) ∧ X.cell? ⟨w.heap.size, 2, none⟩ = some (.slice A1 l1.length c1) ∧ X.cell? ⟨w.heap.size + 1, 0, none⟩ = some (.int .i64 s2) ∧ X.cell? ⟨w.heap.size + 1, 1, none⟩ = some (.bool cu) ∧ X.cell? ⟨w.heap.size + 1, 2, none⟩ = some (.slice A2 l2.length c2) ∧ X.cell? ⟨b5, 0, none⟩ = some (.int .i64 s5) ∧ X.cell? ⟨b5, 1, none⟩ = some (.bool si) ∧ X.cell? ⟨b5, 2, none⟩ = some (.slice A5 l5.length c5) from fun X hX => ⟨ai hX Rc aad, ai hX Rc aac, ai hX Rc aab, ai hX q1' aaa, ai hX q1' Zz, ai hX q1' Zy, ai hX Rb Tc, ai hX Rb Ta, ai hX Rb Sy⟩)
  go_wp2_with fail
  go_region_held3 (fun w' => w'.cell? ⟨w.heap.size, 0, none⟩ = some (.int .i64 s1) ∧ w'.cell? ⟨w.heap.size, 1, none⟩ = some (.bool bz) ∧ w'.cell? ⟨w.heap.size, 2, none⟩ = some (.slice A1 l1.length c1) ∧ w'.cell? ⟨w.heap.size + 1, 0, none⟩ = some (.int .i64 s2) ∧ w'.cell? ⟨w.heap.size + 1, 1, none⟩ = some (.bool cu) ∧ w'.cell? ⟨w.heap.size + 1, 2, none⟩ = some (.slice A2 l2.length c2) ∧ w'.cell? ⟨b5, 0, none⟩ = some (.int .i64 s5) ∧ w'.cell? ⟨b5, 1, none⟩ = some (.bool si) ∧ w'.cell? ⟨b5, 2, none⟩ = some (.slice A5 l5.length c5)) (first | with_reducible exact ⟨(ib _ _ _ _ _ _ _ _ om).trans (ai hbw Rc aad), (ib _ _ _ _ _ _ _ _ om).trans (ai hbw Rc aac), (ib _ _ _ _ _ _ _ _ om).trans (ai hbw Rc aab), (ib _ _ _ _ _ _ _ _ om).trans (ai hbw q1' aaa), (ib _ _ _ _ _ _ _ _ om).trans (ai hbw q1' Zz), (ib _ _ _ _ _ _ _ _ om).trans (ai hbw q1' Zy), (ib _ _ _ _ _ _ _ _ om).trans (ai hbw Rb Tc), (ib _ _ _ _ _ _ _ _ om).trans (ai hbw Rb Ta), (ib _ _ _ _ _ _ _ _ om).trans (ai hbw Rb Sy)⟩ | with_reducible exact (aa KEEP) _ bel) (first | (go_at_call_of 125 (Value.agg #[.int .i64 s1, .bool bz, .slice A1 l1.length c1]); refine ((aa Vd) s1 bz A1 c1 l1 s5 si A5 c5 l5 _ (au hw0 (au hB bel)) (dz.below (aa H1) (au hB bel)) (dz.below (aa FG) bel)).mono ?_; rintro e w' ⟨s8, Fg, A8, c8, l8, rfl, wh, La⟩; have hbw := ay (w := W2) bel La; have hsw := hbw.size; obtain ⟨hc, hfz⟩ := az hbw) | (go_at_call_of 125 (Value.agg #[.int .i64 s2, .bool cu, .slice A2 l2.length c2]); refine ((aa HQ2) s2 cu A2 c2 l2 s5 si A5 c5 l5 _ (au hw0 (au hB bel)) (dz.below (aa H2) (au hB bel)) (dz.below (aa FG) bel)).mono ?_; rintro e w' ⟨s9, Gx, A9, c9, l9, rfl, En, gp⟩; have wh := dz.below (dz.below wh bel) gp; have hbw := ay (w := W2) bel gp; have hsw := hbw.size; obtain ⟨hc, hfz⟩ := az hbw))
  have hBB : Below W0.heap.size W0 w' := au hB hbw
  have hblk : w'.heap[w.heap.size + 1 + 1]? = some (.cells #[.int .i64 0, .bool false, .slice none 0 0, .int .i64 0, .bool false, .slice none 0 0] 63 (0, 0)) := (hBB.block _ q2).trans NR.out
  have jd := Lib.hid hblk
  have gp : Below w.heap.size w w' := au hw0 hBB
  clear hblk
  go_wp2_with fail
  exact bodyPost_ret (v := (Value.agg #[.int .i64 s8, .bool Fg, .slice A8 l8.length c8, .int .i64 s9, .bool Gx, .slice A9 l9.length c9])) (by simp [results, Tryz.results101, go_sem, hc, azp, azo, azn, azm, azl, azk, qr]) rfl
   ⟨s8, Fg, A8, c8, l8, s9, Gx, A9, c9, l9, rfl, (wh).upto jd.out (Ai _ _ _ _ _ _ _ _ _ _) (pq _ _ _ _ _ _ _ _), (En).upto jd.out (Ai _ _ _ _ _ _ _ _ _ _) (pq _ _ _ _ _ _ _ _), gp.grown (pq _ _ _ _ _ _ _ _) gp.size (fun k hk => by injection hk with hk; omega)⟩
set_option maxHeartbeats 16000000 in
theorem ayy (s1 : Int) (bz : Bool) (A1 : Option Addr) (c1 : Nat) (l1 : List Nat) (s2 : Int) (cu : Bool) (A2 : Option Addr) (c2 : Nat) (l2 : List Nat) (z1 z2 g gn r1 r2 : Int) (w : World) (f1 : dz w s1 bz A1 c1 l1 z1) (f2 : dz w s2 cu A2 c2 l2 z2) (hs : z2 < 0) (hgn : gn = -g)
  (hg : Ir w 124 z1 z2 g) (hq1 : Ir w 125 z1 gn r1) (hq2 : Ir w 125 z2 gn r2) :
  Calls Tryz.prog 101 #[(Value.agg #[.int .i64 s1, .bool bz, .slice A1 l1.length c1]), (Value.agg #[.int .i64 s2, .bool cu, .slice A2 l2.length c2])] w fun e w' => Gr w r1 r2 e w' := by
 subst hgn
 have H1 := hide f1
 have H2 := hide f2
 have HG := hide hg
 have Vd := hide hq1
 have HQ2 := hide hq2
 have hs' : decide (gm z2 < 0) = true := decide_eq_true (by rw [Jt]; exact hs)
 obtain ⟨o, ho⟩ : ∃ o, o = gm z2 := ⟨_, rfl⟩
 have HS := hide (fun W (f : dz W s2 cu A2 c2 l2 z2) => (show Calls Tryz.prog 128 #[(Value.agg #[.int .i64 s2, .bool cu, .slice A2 l2.length c2])] W fun e w' => e = .returned (.int .i64 o) ∧ Below W.heap.size W w' by rw [ho]; exact Bl s2 cu A2 c2 l2 z2 W f))
 rw [← ho] at hs'
 clear f1 f2 hg hq1 hq2 hs ho
 go_enter Tryz.func101, Tryz.ntmps101
 go_upto_region 1 with fail
 obtain ⟨n0, n1, n2, hsz, hw0⟩ := ll w (.cells #[.int .i64 s1, .bool bz, .slice A1 l1.length c1] 61) (.cells #[.int .i64 s2, .bool cu, .slice A2 l2.length c2] 61) (.cells #[.int .i64 0, .bool false, .slice none 0 0, .int .i64 0, .bool false, .slice none 0 0] 63)
 generalize (((w.alloc (.cells #[.int .i64 s1, .bool bz, .slice A1 l1.length c1] 61)).alloc (.cells #[.int .i64 s2, .bool cu, .slice A2 l2.length c2] 61)).alloc (.cells #[.int .i64 0, .bool false, .slice none 0 0, .int .i64 0, .bool false, .slice none 0 0] 63)) = W0 at *
 have jl : W0.cell? ⟨w.heap.size, 0, none⟩ = some (.int .i64 s1) := ag n0 0
 have jk : W0.cell? ⟨w.heap.size, 1, none⟩ = some (.bool bz) := ag n0 1
 have jy : W0.cell? ⟨w.heap.size, 2, none⟩ = some (.slice A1 l1.length c1) := ag n0 2
 have q0 : w.heap.size < W0.heap.size := by omega
 have jq : W0.cell? ⟨w.heap.size + 1, 0, none⟩ = some (.int .i64 s2) := ag n1 0
 have jo : W0.cell? ⟨w.heap.size + 1, 1, none⟩ = some (.bool cu) := ag n1 1
 have lh : W0.cell? ⟨w.heap.size + 1, 2, none⟩ = some (.slice A2 l2.length c2) := ag n1 2
 have q1 : w.heap.size + 1 < W0.heap.size := by omega
 have qw : W0.cell? ⟨w.heap.size + 1 + 1, 0, none⟩ = some (.int .i64 0) := ag n2 0
 have qo : W0.cell? ⟨w.heap.size + 1 + 1, 1, none⟩ = some (.bool false) := ag n2 1
 have qm : W0.cell? ⟨w.heap.size + 1 + 1, 2, none⟩ = some (.slice none 0 0) := ag n2 2
 have qj : W0.cell? ⟨w.heap.size + 1 + 1, 3, none⟩ = some (.int .i64 0) := ag n2 3
 have Ht : W0.cell? ⟨w.heap.size + 1 + 1, 4, none⟩ = some (.bool false) := ag n2 4
 have Hr : W0.cell? ⟨w.heap.size + 1 + 1, 5, none⟩ = some (.slice none 0 0) := ag n2 5
 have q2 : w.heap.size + 1 + 1 < W0.heap.size := by omega
 have uj := ah n2 0
 have ui := ah n2 1
 have uh := ah n2 2
 have ug := ah n2 3
 have Jq := ah n2 4
 have Jp := ah n2 5
 have NR := Lib.hid n2
 clear hsz n0 n1 n2
 replace H1 := hide ((aa H1).below hw0)
 replace H2 := hide ((aa H2).below hw0)
 go_cut [5] (fun Me wx => ∃ b5 : Nat, Me = .pointer (some ⟨b5, 0, none⟩) ∧ Bj wx b5 g ∧ Below W0.heap.size W0 wx ∧ W0.heap.size ≤ b5)
 case first =>
  go_wp2_with fail
  refine ((aa HG) s1 bz A1 c1 l1 s2 cu A2 c2 l2 _ hw0 (aa H1) (aa H2)).mono ?_
  rintro e w' ⟨s5, si, A5, c5, l5, rfl, kz, hb5⟩
  go_wp2_with fail
  go_meet
  exact ⟨_, rfl, Zc kz hb5 rfl⟩
 case rest =>
  revert hcut
  generalize wc = W1
  intro hcut
  obtain ⟨b5, rfl, ⟨s5, si, A5, c5, l5, n5, f5⟩, hB1, Hd⟩ := hcut
  have Xt : W1.cell? ⟨b5, 0, none⟩ = some (.int .i64 s5) := ag n5 0
  have Xr : W1.cell? ⟨b5, 1, none⟩ = some (.bool si) := ag n5 1
  have Xq : W1.cell? ⟨b5, 2, none⟩ = some (.slice A5 l5.length c5) := ag n5 2
  have y0 : W1.cell? ⟨w.heap.size + 1, 0, none⟩ = some (.int .i64 s2) := ai hB1 q1 jq
  have y1 : W1.cell? ⟨w.heap.size + 1, 1, none⟩ = some (.bool cu) := ai hB1 q1 jo
  have y2 : W1.cell? ⟨w.heap.size + 1, 2, none⟩ = some (.slice A2 l2.length c2) := ai hB1 q1 lh
  go_wp2_with fail
  refine ((aa HS) W1 ((aa H2).below hB1)).mono ?_
  rintro e W2 ⟨rfl, hb⟩
  have q5 := lt_of_block n5
  have n5' := (hb.block _ q5).trans n5
  have f5' := f5.below hb
  have hB := au hB1 hb
  clear Xt Xr Xq y0 y1 y2 f5 n5 hB1
  have Xt : W2.cell? ⟨b5, 0, none⟩ = some (.int .i64 s5) := ag n5' 0
  have Xr : W2.cell? ⟨b5, 1, none⟩ = some (.bool si) := ag n5' 1
  have Xq : W2.cell? ⟨b5, 2, none⟩ = some (.slice A5 l5.length c5) := ag n5' 2
  have F5 := hide f5'
  clear f5' hb
  go_wp2_with fail
  refine (Vo s5 si A5 c5 l5 g _ (aa F5)).mono ?_
  rintro e W3 ⟨s7, Dc, A7, c7, l7, rfl, Au, hb⟩
  have n5 := (hb.block _ (lt_of_block n5')).trans n5'
  replace hB := au hB hb
  clear Xt Xr Xq n5' hb
  have Xt : W3.cell? ⟨b5, 0, none⟩ = some (.int .i64 s5) := ag n5 0
  have Xr : W3.cell? ⟨b5, 1, none⟩ = some (.bool si) := ag n5 1
  have Xq : W3.cell? ⟨b5, 2, none⟩ = some (.slice A5 l5.length c5) := ag n5 2
  have btl := ah n5 0
  have btk := ah n5 1
  have btj := ah n5 2
  have HF7 := hide Au
  have N5 := hide n5
  clear Au n5
  go_upto_region 4 with fail
  have pb := Nh (u0 := .int .i64 s7) (u1 := .bool Dc) (u2 := .slice A7 l7.length c7) (aa N5)
  have g3 := jg W3 b5 (.int .i64 s7) (.bool Dc) (.slice A7 l7.length c7)
  have fg := (aa HF7).upto (aa N5) (wu _ _ _ _ _) g3
  replace hB := hB.grown g3 hB.size (fun k hk => by injection hk with hk; omega)
  have ng := pb
  clear pb g3 Xt Xr Xq btl btk btj
  generalize (((W3.setCell ⟨b5, 0, none⟩ (.int .i64 s7)).setCell ⟨b5, 1, none⟩ (.bool Dc)).setCell ⟨b5, 2, none⟩ (.slice A7 l7.length c7)) = W4 at *
  have FG := hide fg
  clear fg
  have aad : W4.cell? ⟨w.heap.size, 0, none⟩ = some (.int .i64 s1) := ai hB q0 jl
  have aac : W4.cell? ⟨w.heap.size, 1, none⟩ = some (.bool bz) := ai hB q0 jk
  have aab : W4.cell? ⟨w.heap.size, 2, none⟩ = some (.slice A1 l1.length c1) := ai hB q0 jy
  have Rc : w.heap.size < W4.heap.size := Nat.lt_of_lt_of_le q0 hB.size
  have aaa : W4.cell? ⟨w.heap.size + 1, 0, none⟩ = some (.int .i64 s2) := ai hB q1 jq
  have Zz : W4.cell? ⟨w.heap.size + 1, 1, none⟩ = some (.bool cu) := ai hB q1 jo
  have Zy : W4.cell? ⟨w.heap.size + 1, 2, none⟩ = some (.slice A2 l2.length c2) := ai hB q1 lh
  have q1' : w.heap.size + 1 < W4.heap.size := Nat.lt_of_lt_of_le q1 hB.size
  have Tc := ag ng 0
  have Ta := ag ng 1
  have Sy := ag ng 2
  have Rb := lt_of_block ng
  simp only [Array.getElem?_eq_getElem, ku, ko, kg] at Tc Ta Sy
  have azp : W4.cell? ⟨w.heap.size + 1 + 1, 0, none⟩ = some (.int .i64 0) := ai hB q2 qw
  have buw : W4.frozen? ⟨w.heap.size + 1 + 1, 0, none⟩ = false := (hB.frozen (p := ⟨w.heap.size + 1 + 1, 0, none⟩) q2).trans uj
  have azo : W4.cell? ⟨w.heap.size + 1 + 1, 1, none⟩ = some (.bool false) := ai hB q2 qo
  have buv : W4.frozen? ⟨w.heap.size + 1 + 1, 1, none⟩ = false := (hB.frozen (p := ⟨w.heap.size + 1 + 1, 1, none⟩) q2).trans ui
  have azn : W4.cell? ⟨w.heap.size + 1 + 1, 2, none⟩ = some (.slice none 0 0) := ai hB q2 qm
  have buu : W4.frozen? ⟨w.heap.size + 1 + 1, 2, none⟩ = false := (hB.frozen (p := ⟨w.heap.size + 1 + 1, 2, none⟩) q2).trans uh
  have azm : W4.cell? ⟨w.heap.size + 1 + 1, 3, none⟩ = some (.int .i64 0) := ai hB q2 qj
  have bus : W4.frozen? ⟨w.heap.size + 1 + 1, 3, none⟩ = false := (hB.frozen (p := ⟨w.heap.size + 1 + 1, 3, none⟩) q2).trans ug
  have azl : W4.cell? ⟨w.heap.size + 1 + 1, 4, none⟩ = some (.bool false) := ai hB q2 Ht
  have bur : W4.frozen? ⟨w.heap.size + 1 + 1, 4, none⟩ = false := (hB.frozen (p := ⟨w.heap.size + 1 + 1, 4, none⟩) q2).trans Jq
  have azk : W4.cell? ⟨w.heap.size + 1 + 1, 5, none⟩ = some (.slice none 0 0) := ai hB q2 Hr
  have buq : W4.frozen? ⟨w.heap.size + 1 + 1, 5, none⟩ = false := (hB.frozen (p := ⟨w.heap.size + 1 + 1, 5, none⟩) q2).trans Jp
  have qr : w.heap.size + 1 + 1 < W4.heap.size := Nat.lt_of_lt_of_le q2 hB.size
  have or5 : w.heap.size + 1 + 1 < b5 := Nat.lt_of_lt_of_le q2 Hd
  clear jl jk jy jq jo lh qw qo qm qj Ht Hr uj ui uh ug Jq Jp ng
  have KEEP := hide (show ∀ X, Below W4.heap.size W4 X → X.cell? ⟨w.heap.size, 0, none⟩ = some (.int .i64 s1) ∧ X.cell? ⟨w.heap.size, 1, none⟩ = some (.bool bz) ∧ X.cell? ⟨w.heap.size, 2, none⟩ = some (.slice A1 l1.length c1) ∧ X.cell? ⟨w.heap.size + 1, 0, none⟩ = some (.int .i64 s2) ∧ X.cell? ⟨w.heap.size + 1, 1, none⟩ = some (.bool cu) ∧ X.cell? ⟨w.heap.size + 1, 2, none⟩ = some (.slice A2 l2.length c2) ∧ X.cell? ⟨b5, 0, none⟩ = some (.int .i64 s7) ∧ X.cell? ⟨b5, 1, none⟩ = some (.bool Dc) ∧ X.cell? ⟨b5, 2, none⟩ = some (.slice A7 l7.length c7) from fun X hX => ⟨ai hX Rc aad, ai hX Rc aac, ai hX Rc aab, ai hX q1' aaa, ai hX q1' Zz, ai hX q1' Zy, ai hX Rb Tc, ai hX Rb Ta, ai hX Rb Sy⟩)
  go_wp2_with fail
  go_region_held3 (fun w' => w'.cell? ⟨w.heap.size, 0, none⟩ = some (.int .i64 s1) ∧ w'.cell? ⟨w.heap.size, 1, none⟩ = some (.bool bz) ∧ w'.cell? ⟨w.heap.size, 2, none⟩ = some (.slice A1 l1.length c1) ∧ w'.cell? ⟨w.heap.size + 1, 0, none⟩ = some (.int .i64 s2) ∧ w'.cell? ⟨w.heap.size + 1, 1, none⟩ = some (.bool cu) ∧ w'.cell? ⟨w.heap.size + 1, 2, none⟩ = some (.slice A2 l2.length c2) ∧ w'.cell? ⟨b5, 0, none⟩ = some (.int .i64 s7) ∧ w'.cell? ⟨b5, 1, none⟩ = some (.bool Dc) ∧ w'.cell? ⟨b5, 2, none⟩ = some (.slice A7 l7.length c7)) (first | with_reducible exact ⟨(ib _ _ _ _ _ _ _ _ om).trans (ai hbw Rc aad), (ib _ _ _ _ _ _ _ _ om).trans (ai hbw Rc aac), (ib _ _ _ _ _ _ _ _ om).trans (ai hbw Rc aab), (ib _ _ _ _ _ _ _ _ om).trans (ai hbw q1' aaa), (ib _ _ _ _ _ _ _ _ om).trans (ai hbw q1' Zz), (ib _ _ _ _ _ _ _ _ om).trans (ai hbw q1' Zy), (ib _ _ _ _ _ _ _ _ om).trans (ai hbw Rb Tc), (ib _ _ _ _ _ _ _ _ om).trans (ai hbw Rb Ta), (ib _ _ _ _ _ _ _ _ om).trans (ai hbw Rb Sy)⟩ | with_reducible exact (aa KEEP) _ bel) (first | (go_at_call_of 125 (Value.agg #[.int .i64 s1, .bool bz, .slice A1 l1.length c1]); refine ((aa Vd) s1 bz A1 c1 l1 s7 Dc A7 c7 l7 _ (au hw0 (au hB bel)) (dz.below (aa H1) (au hB bel)) (dz.below (aa FG) bel)).mono ?_; rintro e w' ⟨s8, Fg, A8, c8, l8, rfl, wh, La⟩; have hbw := ay (w := W4) bel La; have hsw := hbw.size; obtain ⟨hc, hfz⟩ := az hbw) | (go_at_call_of 125 (Value.agg #[.int .i64 s2, .bool cu, .slice A2 l2.length c2]); refine ((aa HQ2) s2 cu A2 c2 l2 s7 Dc A7 c7 l7 _ (au hw0 (au hB bel)) (dz.below (aa H2) (au hB bel)) (dz.below (aa FG) bel)).mono ?_; rintro e w' ⟨s9, Gx, A9, c9, l9, rfl, En, gp⟩; have wh := dz.below (dz.below wh bel) gp; have hbw := ay (w := W4) bel gp; have hsw := hbw.size; obtain ⟨hc, hfz⟩ := az hbw))
  have hBB : Below W0.heap.size W0 w' := au hB hbw
  have hblk : w'.heap[w.heap.size + 1 + 1]? = some (.cells #[.int .i64 0, .bool false, .slice none 0 0, .int .i64 0, .bool false, .slice none 0 0] 63 (0, 0)) := (hBB.block _ q2).trans NR.out
  have jd := Lib.hid hblk
  have gp : Below w.heap.size w w' := au hw0 hBB
  clear hblk
  go_wp2_with fail
  exact bodyPost_ret (v := (Value.agg #[.int .i64 s8, .bool Fg, .slice A8 l8.length c8, .int .i64 s9, .bool Gx, .slice A9 l9.length c9])) (by simp [results, Tryz.results101, go_sem, hc, azp, azo, azn, azm, azl, azk, qr]) rfl
   ⟨s8, Fg, A8, c8, l8, s9, Gx, A9, c9, l9, rfl, (wh).upto jd.out (Ai _ _ _ _ _ _ _ _ _ _) (pq _ _ _ _ _ _ _ _), (En).upto jd.out (Ai _ _ _ _ _ _ _ _ _ _) (pq _ _ _ _ _ _ _ _), gp.grown (pq _ _ _ _ _ _ _ _) gp.size (fun k hk => by injection hk with hk; omega)⟩
theorem ayz {K : Nat} (s1 : Int) (bz : Bool) (A1 : Option Addr) (c1 : Nat) (l1 : List Nat) (s2 : Int) (cu : Bool) (A2 : Option Addr) (c2 : Nat) (l2 : List Nat) (z1 z2 : Int) (w : World) (hT : rz w) (f1 : dz w s1 bz A1 c1 l1 z1) (f2 : dz w s2 cu A2 c2 l2 z2) (h0 : z2 ≠ 0) (hx : Wd.Sz dm K z1) (hy : Wd.Sz dm K z2) (hK : K ≤ lim) :
  Calls Tryz.prog 101 #[(Value.agg #[.int .i64 s1, .bool bz, .slice A1 l1.length c1]), (Value.agg #[.int .i64 s2, .bool cu, .slice A2 l2.length c2])] w fun e w' => Gr w (Rat.divInt z1 z2).num ((Rat.divInt z1 z2).den : Int) e w' := by
 have hp := Wd.Hw z1 z2 h0
 have g0 : 0 < z1.natAbs.gcd z2.natAbs := Nat.gcd_pos_of_pos_right _ om
 have sg : Wd.Sz dm K ((z1.natAbs.gcd z2.natAbs : Nat) : Int) := hy.gcd_right h0
 rw [hp.1, hp.2]
 by_cases hs : z2 < 0
 ·
  have e : z2.sign * ((z1.natAbs.gcd z2.natAbs : Nat) : Int) = -((z1.natAbs.gcd z2.natAbs : Nat) : Int) := by rw [Int.sign_eq_neg_one_of_neg hs]; omega
  rw [e]
  exact ayy s1 bz A1 c1 l1 s2 cu A2 c2 l2 z1 z2 _ _ _ _ w f1 f2 hs rfl (Ze hT hx hy hK rfl) (Mh hx sg.neg hK om rfl) (Mh hy sg.neg hK om rfl)
 ·
  have e : z2.sign * ((z1.natAbs.gcd z2.natAbs : Nat) : Int) = ((z1.natAbs.gcd z2.natAbs : Nat) : Int) := by rw [Int.sign_eq_one_of_pos om]; omega
  rw [e]
  exact ayx s1 bz A1 c1 l1 s2 cu A2 c2 l2 z1 z2 _ _ _ w f1 f2 hs (Ze hT hx hy hK rfl) (Mh hx sg hK om rfl) (Mh hy sg hK om rfl)

end Go.Proofs.YtpjgoogeokbaaaaGreatDoor
namespace Go.Proofs.YtpjgoogeokbaaaaGreatDoor
open Go.RowKit

set_option maxHeartbeats 16000000 in
theorem aot {w : World} {x y v q : Rat} (g1 : ady w 87 y v) (g2 : Qf w 82 x v q) : Qf w 61 x y q := by
 intro s1 bz A1 c1 l1 s2 cu A2 c2 l2 s3 ze A3 c3 l3 s4 yc A4 c4 l4 W hW f1 f2 f3 f4
 replace g1 := g1.mono hW
 replace g2 := g2.mono hW
 clear hW w
 revert W
 intro w f1 f2 f3 f4 g1 g2
 have H1 := hide f1
 have H2 := hide f2
 have H3 := hide f3
 have H4 := hide f4
 clear f1 f2 f3 f4
 have Fu := hide g1
 have HG2 := hide g2
 clear g1 g2
 go_enter Tryz.func61, Tryz.ntmps61
 go_upto_region 1 with fail
 obtain ⟨n0, n1, n2, hsz, hw0⟩ := ll w (.cells #[.int .i64 s1, .bool bz, .slice A1 l1.length c1, .int .i64 s2, .bool cu, .slice A2 l2.length c2] 63) (.cells #[.int .i64 s3, .bool ze, .slice A3 l3.length c3, .int .i64 s4, .bool yc, .slice A4 l4.length c4] 63) (.cells #[.int .i64 0, .bool false, .slice none 0 0, .int .i64 0, .bool false, .slice none 0 0] 63)
 generalize (((w.alloc (.cells #[.int .i64 s1, .bool bz, .slice A1 l1.length c1, .int .i64 s2, .bool cu, .slice A2 l2.length c2] 63)).alloc (.cells #[.int .i64 s3, .bool ze, .slice A3 l3.length c3, .int .i64 s4, .bool yc, .slice A4 l4.length c4] 63)).alloc (.cells #[.int .i64 0, .bool false, .slice none 0 0, .int .i64 0, .bool false, .slice none 0 0] 63)) = W0 at *
 have jl : W0.cell? ⟨w.heap.size, 0, none⟩ = some (.int .i64 s1) := ag n0 0
 have jk : W0.cell? ⟨w.heap.size, 1, none⟩ = some (.bool bz) := ag n0 1
 have jy : W0.cell? ⟨w.heap.size, 2, none⟩ = some (.slice A1 l1.length c1) := ag n0 2
 have ky : W0.cell? ⟨w.heap.size, 3, none⟩ = some (.int .i64 s2) := ag n0 3
 have Ag : W0.cell? ⟨w.heap.size, 4, none⟩ = some (.bool cu) := ag n0 4
 have Af : W0.cell? ⟨w.heap.size, 5, none⟩ = some (.slice A2 l2.length c2) := ag n0 5
 have q0 : w.heap.size < W0.heap.size := by omega
 have jq : W0.cell? ⟨w.heap.size + 1, 0, none⟩ = some (.int .i64 s3) := ag n1 0
 have jo : W0.cell? ⟨w.heap.size + 1, 1, none⟩ = some (.bool ze) := ag n1 1
 have lh : W0.cell? ⟨w.heap.size + 1, 2, none⟩ = some (.slice A3 l3.length c3) := ag n1 2
 have lv : W0.cell? ⟨w.heap.size + 1, 3, none⟩ = some (.int .i64 s4) := ag n1 3
 have Dw : W0.cell? ⟨w.heap.size + 1, 4, none⟩ = some (.bool yc) := ag n1 4
 have Dv : W0.cell? ⟨w.heap.size + 1, 5, none⟩ = some (.slice A4 l4.length c4) := ag n1 5
 have q1 : w.heap.size + 1 < W0.heap.size := by omega
 have qw : W0.cell? ⟨w.heap.size + 1 + 1, 0, none⟩ = some (.int .i64 0) := ag n2 0
 have qo : W0.cell? ⟨w.heap.size + 1 + 1, 1, none⟩ = some (.bool false) := ag n2 1
 have qm : W0.cell? ⟨w.heap.size + 1 + 1, 2, none⟩ = some (.slice none 0 0) := ag n2 2
 have qj : W0.cell? ⟨w.heap.size + 1 + 1, 3, none⟩ = some (.int .i64 0) := ag n2 3
 have Ht : W0.cell? ⟨w.heap.size + 1 + 1, 4, none⟩ = some (.bool false) := ag n2 4
 have Hr : W0.cell? ⟨w.heap.size + 1 + 1, 5, none⟩ = some (.slice none 0 0) := ag n2 5
 have q2 : w.heap.size + 1 + 1 < W0.heap.size := by omega
 have uj := ah n2 0
 have ui := ah n2 1
 have uh := ah n2 2
 have ug := ah n2 3
 have Jq := ah n2 4
 have Jp := ah n2 5
 have NR := Lib.hid n2
 clear hsz n0 n1 n2
 replace H1 := hide ((aa H1).below hw0)
 replace H2 := hide ((aa H2).below hw0)
 replace H3 := hide ((aa H3).below hw0)
 replace H4 := hide ((aa H4).below hw0)
 have KEEP := hide (show ∀ X, Below W0.heap.size W0 X → X.cell? ⟨w.heap.size, 0, none⟩ = some (.int .i64 s1) ∧ X.cell? ⟨w.heap.size, 1, none⟩ = some (.bool bz) ∧ X.cell? ⟨w.heap.size, 2, none⟩ = some (.slice A1 l1.length c1) ∧ X.cell? ⟨w.heap.size, 3, none⟩ = some (.int .i64 s2) ∧ X.cell? ⟨w.heap.size, 4, none⟩ = some (.bool cu) ∧ X.cell? ⟨w.heap.size, 5, none⟩ = some (.slice A2 l2.length c2) ∧ X.cell? ⟨w.heap.size + 1, 0, none⟩ = some (.int .i64 s3) ∧ X.cell? ⟨w.heap.size + 1, 1, none⟩ = some (.bool ze) ∧ X.cell? ⟨w.heap.size + 1, 2, none⟩ = some (.slice A3 l3.length c3) ∧ X.cell? ⟨w.heap.size + 1, 3, none⟩ = some (.int .i64 s4) ∧ X.cell? ⟨w.heap.size + 1, 4, none⟩ = some (.bool yc) ∧ X.cell? ⟨w.heap.size + 1, 5, none⟩ = some (.slice A4 l4.length c4) from fun X hB => ⟨ai hB q0 jl, ai hB q0 jk, ai hB q0 jy, ai hB q0 ky, ai hB q0 Ag, ai hB q0 Af, ai hB q1 jq, ai hB q1 jo, ai hB q1 lh, ai hB q1 lv, ai hB q1 Dw, ai hB q1 Dv⟩)
 go_region_held3 (fun w' => w'.cell? ⟨w.heap.size, 0, none⟩ = some (.int .i64 s1) ∧ w'.cell? ⟨w.heap.size, 1, none⟩ = some (.bool bz) ∧ w'.cell? ⟨w.heap.size, 2, none⟩ = some (.slice A1 l1.length c1) ∧ w'.cell? ⟨w.heap.size, 3, none⟩ = some (.int .i64 s2) ∧ w'.cell? ⟨w.heap.size, 4, none⟩ = some (.bool cu) ∧ w'.cell? ⟨w.heap.size, 5, none⟩ = some (.slice A2 l2.length c2) ∧ w'.cell? ⟨w.heap.size + 1, 0, none⟩ = some (.int .i64 s3) ∧ w'.cell? ⟨w.heap.size + 1, 1, none⟩ = some (.bool ze) ∧ w'.cell? ⟨w.heap.size + 1, 2, none⟩ = some (.slice A3 l3.length c3) ∧ w'.cell? ⟨w.heap.size + 1, 3, none⟩ = some (.int .i64 s4) ∧ w'.cell? ⟨w.heap.size + 1, 4, none⟩ = some (.bool yc) ∧ w'.cell? ⟨w.heap.size + 1, 5, none⟩ = some (.slice A4 l4.length c4)) (first | with_reducible exact ⟨(ib _ _ _ _ _ _ _ _ om).trans (ai hbw q0 jl), (ib _ _ _ _ _ _ _ _ om).trans (ai hbw q0 jk), (ib _ _ _ _ _ _ _ _ om).trans (ai hbw q0 jy), (ib _ _ _ _ _ _ _ _ om).trans (ai hbw q0 ky), (ib _ _ _ _ _ _ _ _ om).trans (ai hbw q0 Ag), (ib _ _ _ _ _ _ _ _ om).trans (ai hbw q0 Af), (ib _ _ _ _ _ _ _ _ om).trans (ai hbw q1 jq), (ib _ _ _ _ _ _ _ _ om).trans (ai hbw q1 jo), (ib _ _ _ _ _ _ _ _ om).trans (ai hbw q1 lh), (ib _ _ _ _ _ _ _ _ om).trans (ai hbw q1 lv), (ib _ _ _ _ _ _ _ _ om).trans (ai hbw q1 Dw), (ib _ _ _ _ _ _ _ _ om).trans (ai hbw q1 Dv)⟩ | with_reducible exact (aa KEEP) _ bel) (first | (go_at_call_of 87 (Value.agg #[.int .i64 s3, .bool ze, .slice A3 l3.length c3, .int .i64 s4, .bool yc, .slice A4 l4.length c4]); refine ((aa Fu) s3 ze A3 c3 l3 s4 yc A4 c4 l4 _ (au hw0 bel) (dz.below (aa H3) bel) (dz.below (aa H4) bel)).mono ?_; rintro e w' ⟨s5, si, A5, c5, l5, s6, xg, A6, c6, l6, rfl, kz, og, hb5⟩; have hbw := ay (w := W0) bel hb5; have hsw := hbw.size; obtain ⟨hc, hfz⟩ := az hbw) | (go_at_call_of 82 (Value.agg #[.int .i64 s1, .bool bz, .slice A1 l1.length c1, .int .i64 s2, .bool cu, .slice A2 l2.length c2]); refine ((aa HG2) s1 bz A1 c1 l1 s2 cu A2 c2 l2 s5 si A5 c5 l5 s6 xg A6 c6 l6 _ (au hw0 bel) (dz.below (aa H1) bel) (dz.below (aa H2) bel) (dz.below kz bel) (dz.below og bel)).mono ?_; rintro e w' ⟨s7, Dc, A7, c7, l7, s8, Fg, A8, c8, l8, rfl, Au, wh, yf⟩; have hbw := ay (w := W0) bel yf; have hsw := hbw.size; obtain ⟨hc, hfz⟩ := az hbw))
 have hblk : w'.heap[w.heap.size + 1 + 1]? = some (.cells #[.int .i64 0, .bool false, .slice none 0 0, .int .i64 0, .bool false, .slice none 0 0] 63 (0, 0)) := (hbw.block _ q2).trans NR.out
 have jd := Lib.hid hblk
 have gp : Below w.heap.size w w' := au hw0 hbw
 clear hblk
 go_wp2_with fail
 exact bodyPost_ret (v := (Value.agg #[.int .i64 s7, .bool Dc, .slice A7 l7.length c7, .int .i64 s8, .bool Fg, .slice A8 l8.length c8])) (by simp [results, Tryz.results61, go_sem, hc, qw, qo, qm, qj, Ht, Hr, q2]) rfl
  ⟨s7, Dc, A7, c7, l7, s8, Fg, A8, c8, l8, rfl, (Au).upto jd.out (Ai _ _ _ _ _ _ _ _ _ _) (pq _ _ _ _ _ _ _ _), (wh).upto jd.out (Ai _ _ _ _ _ _ _ _ _ _) (pq _ _ _ _ _ _ _ _), gp.grown (pq _ _ _ _ _ _ _ _) gp.size (fun k hk => by injection hk with hk; omega)⟩
theorem Vl {w : World} {K : Nat} (hT : rz w) (x y : Rat) (hx : xy K x) (hy : xy K y) (hK : K + K + 1 ≤ lim) : Qf w 61 x y (x - y) ∧ xy (K + K + 1) (x - y) := by
 obtain ⟨a, b⟩ := bgv hT x (-y) hx hy.neg hK
 rw [Rat.sub_eq_add_neg]
 exact ⟨aot (bgt w y) a, b⟩
end Go.Proofs.YtpjgoogeokbaaaaGreatDoor
namespace Go.Proofs.YtpjgoogeokbaaaaGreatDoor
open Go.RowKit

def Cz (n d : Int) : Int := if Wd.nu n d then 0 else 1

set_option maxHeartbeats 2000000 in
theorem axj (n d : Int) (h1 : d < 1) (w : World) :
  Calls Tryz.prog 49 #[.agg #[.int .i64 n, .int .i64 d]] w fun e w' => e = .returned (.int .i64 1) ∧ Below w.heap.size w w' := by
 have d1 : decide (d < 1) = true := decide_eq_true om
 clear h1
 go_enter Tryz.func49, Tryz.ntmps49
 go_wp2
 go_ret
 exact ⟨rfl, (Below.refl _ _).alloc (Nat.le_refl _) _⟩
set_option maxHeartbeats 2000000 in
theorem axi (n d : Int) (h1 : ¬ d < 1) (h2 : 1000000000000 < d) (w : World) :
  Calls Tryz.prog 49 #[.agg #[.int .i64 n, .int .i64 d]] w fun e w' => e = .returned (.int .i64 1) ∧ Below w.heap.size w w' := by
 have d1 : decide (d < 1) = false := decide_eq_false om
 have d2 : decide (1000000000000 < d) = true := decide_eq_true om
 clear h1 h2
 go_enter Tryz.func49, Tryz.ntmps49
 go_wp2
 go_ret
 exact ⟨rfl, (Below.refl _ _).alloc (Nat.le_refl _) _⟩
set_option maxHeartbeats 2000000 in
theorem axh (n d : Int) (h1 : ¬ d < 1) (h2 : ¬ 1000000000000 < d) (h3 : n < -1000000000000) (w : World) :
  Calls Tryz.prog 49 #[.agg #[.int .i64 n, .int .i64 d]] w fun e w' => e = .returned (.int .i64 1) ∧ Below w.heap.size w w' := by
 have d1 : decide (d < 1) = false := decide_eq_false om
 have d2 : decide (1000000000000 < d) = false := decide_eq_false om
 have d3 : decide (n < -1000000000000) = true := decide_eq_true om
 clear h1 h2 h3
 go_enter Tryz.func49, Tryz.ntmps49
 go_wp2
 go_ret
 exact ⟨rfl, (Below.refl _ _).alloc (Nat.le_refl _) _⟩
set_option maxHeartbeats 2000000 in
theorem axg (n d : Int) (h1 : ¬ d < 1) (h2 : ¬ 1000000000000 < d) (h3 : ¬ n < -1000000000000) (h4 : 1000000000000 < n) (w : World) :
  Calls Tryz.prog 49 #[.agg #[.int .i64 n, .int .i64 d]] w fun e w' => e = .returned (.int .i64 1) ∧ Below w.heap.size w w' := by
 have d1 : decide (d < 1) = false := decide_eq_false om
 have d2 : decide (1000000000000 < d) = false := decide_eq_false om
 have d3 : decide (n < -1000000000000) = false := decide_eq_false om
 have d4 : decide (1000000000000 < n) = true := decide_eq_true om
 clear h1 h2 h3 h4
 go_enter Tryz.func49, Tryz.ntmps49
 go_wp2
 go_ret
 exact ⟨rfl, (Below.refl _ _).alloc (Nat.le_refl _) _⟩
set_option maxHeartbeats 2000000 in
theorem val_ok (n d : Int) (h1 : ¬ d < 1) (h2 : ¬ 1000000000000 < d) (h3 : ¬ n < -1000000000000) (h4 : ¬ 1000000000000 < n) (h5 : n.natAbs.gcd d.natAbs = 1) (w : World) (hT : rz w) :
  Calls Tryz.prog 49 #[.agg #[.int .i64 n, .int .i64 d]] w fun e w' => e = .returned (.int .i64 0) ∧ Below w.heap.size w w' := by
 have d1 : decide (d < 1) = false := decide_eq_false om
 have d2 : decide (1000000000000 < d) = false := decide_eq_false om
 have d3 : decide (n < -1000000000000) = false := decide_eq_false om
 have d4 : decide (1000000000000 < n) = false := decide_eq_false om
 have e1 : wrap64 (-n) = -n := IntWalk.wrap64_in _ om
 have e1' : IntKind.i64.wrap (-n) = -n := IntWalk.i64_in _ om
 obtain ⟨a, ha⟩ : ∃ a, a = n.natAbs := ⟨_, rfl⟩
 obtain ⟨b, hb⟩ : ∃ b, b = d.natAbs := ⟨_, rfl⟩
 have e2 : max n (-n) = ((a : Nat) : Int) := by omega
 have e3 : IntKind.u64.wrap ((a : Nat) : Int) = ((a : Nat) : Int) := by rw [IntKind.wrap_u64]; omega
 have e4 : IntKind.u64.wrap d = ((b : Nat) : Int) := by rw [IntKind.wrap_u64]; omega
 rw [← ha, ← hb] at h5
 have HG := hide (fun W (hW : rz W) => Ps a b (by rw [gu]; omega) (by rw [gu]; omega) W hW)
 have HT := hide hT
 obtain ⟨g, hg⟩ : ∃ g, g = a.gcd b := ⟨_, rfl⟩
 rw [← hg] at h5 HG
 have d5 : ((g : Int) == 1) = true := beq_iff_eq.2 om
 have d6 : ((g : Int) != 1) = false := by simp [bne, d5]
 clear h1 h2 h3 h4 h5 ha hb hg hT
 go_enter Tryz.func49, Tryz.ntmps49
 go_wp2_with fail
 refine ((aa HG) _ ((aa HT).alloc _)).mono ?_
 rintro e w' ⟨rfl, rfl⟩
 go_wp2
 go_ret
 exact ⟨rfl, (Below.refl _ _).alloc (Nat.le_refl _) _⟩
set_option maxHeartbeats 2000000 in
theorem axf (n d : Int) (h1 : ¬ d < 1) (h2 : ¬ 1000000000000 < d) (h3 : ¬ n < -1000000000000) (h4 : ¬ 1000000000000 < n) (h5 : ¬ n.natAbs.gcd d.natAbs = 1) (w : World) (hT : rz w) :
  Calls Tryz.prog 49 #[.agg #[.int .i64 n, .int .i64 d]] w fun e w' => e = .returned (.int .i64 1) ∧ Below w.heap.size w w' := by
 have d1 : decide (d < 1) = false := decide_eq_false om
 have d2 : decide (1000000000000 < d) = false := decide_eq_false om
 have d3 : decide (n < -1000000000000) = false := decide_eq_false om
 have d4 : decide (1000000000000 < n) = false := decide_eq_false om
 have e1 : wrap64 (-n) = -n := IntWalk.wrap64_in _ om
 have e1' : IntKind.i64.wrap (-n) = -n := IntWalk.i64_in _ om
 obtain ⟨a, ha⟩ : ∃ a, a = n.natAbs := ⟨_, rfl⟩
 obtain ⟨b, hb⟩ : ∃ b, b = d.natAbs := ⟨_, rfl⟩
 have e2 : max n (-n) = ((a : Nat) : Int) := by omega
 have e3 : IntKind.u64.wrap ((a : Nat) : Int) = ((a : Nat) : Int) := by rw [IntKind.wrap_u64]; omega
 have e4 : IntKind.u64.wrap d = ((b : Nat) : Int) := by rw [IntKind.wrap_u64]; omega
 rw [← ha, ← hb] at h5
 have HG := hide (fun W (hW : rz W) => Ps a b (by rw [gu]; omega) (by rw [gu]; omega) W hW)
 have HT := hide hT
 obtain ⟨g, hg⟩ : ∃ g, g = a.gcd b := ⟨_, rfl⟩
 rw [← hg] at h5 HG
 have d5 : ((g : Int) == 1) = false := beq_eq_false_iff_ne.2 om
 have d6 : ((g : Int) != 1) = true := by simp [bne, d5]
 clear h1 h2 h3 h4 h5 ha hb hg hT
 go_enter Tryz.func49, Tryz.ntmps49
 go_wp2_with fail
 refine ((aa HG) _ ((aa HT).alloc _)).mono ?_
 rintro e w' ⟨rfl, rfl⟩
 go_wp2
 go_ret
 exact ⟨rfl, (Below.refl _ _).alloc (Nat.le_refl _) _⟩
theorem Ah (n d : Int) (w : World) (hT : rz w) :
  Calls Tryz.prog 49 #[.agg #[.int .i64 n, .int .i64 d]] w fun e w' => e = .returned (.int .i64 (Cz n d)) ∧ Below w.heap.size w w' := by
 unfold Cz
 by_cases h1 : d < 1
 ·
  rw [if_neg (by unfold Wd.nu; omega)]; exact axj n d h1 w
 by_cases h2 : 1000000000000 < d
 ·
  rw [if_neg (by unfold Wd.nu; omega)]; exact axi n d h1 h2 w
 by_cases h3 : n < -1000000000000
 ·
  rw [if_neg (by unfold Wd.nu; omega)]; exact axh n d h1 h2 h3 w
 by_cases h4 : 1000000000000 < n
 ·
  rw [if_neg (by unfold Wd.nu; omega)]; exact axg n d h1 h2 h3 h4 w
 by_cases h5 : n.natAbs.gcd d.natAbs = 1
 ·
  rw [if_pos (by unfold Wd.nu; omega)]; exact val_ok n d h1 h2 h3 h4 h5 w hT
 ·
  rw [if_neg (by unfold Wd.nu; omega)]; exact axf n d h1 h2 h3 h4 h5 w hT
end Go.Proofs.YtpjgoogeokbaaaaGreatDoor
namespace Go.Proofs.YtpjgoogeokbaaaaGreatDoor
open Go.RowKit

end Go.Proofs.YtpjgoogeokbaaaaGreatDoor
namespace Go.Proofs.YtpjgoogeokbaaaaGreatDoor
open Go.RowKit

set_option maxHeartbeats 8000000 in
theorem Ex (n d : Int) (w : World) (b1 : -9223372036854775808 ≤ n) (b2 : n ≤ 9223372036854775807) (b3 : -9223372036854775808 ≤ d) (b4 : d ≤ 9223372036854775807) :
  Calls Tryz.prog 50 #[(.agg #[.int .i64 n, .int .i64 d])] w fun e w' => Gr w n d e w' := by
 have HN1 := hide (fun W => Kl n b1 b2 W)
 have HN2 := hide (fun W => Kl d b3 b4 W)
 clear b1 b2 b3 b4
 go_enter Tryz.func50, Tryz.ntmps50
 go_wp2_with fail
 obtain ⟨n0, n1, hsz, hw0⟩ := jm w (.cells #[.int .i64 n, .int .i64 d] 23) (.cells #[.int .i64 0, .bool false, .slice none 0 0, .int .i64 0, .bool false, .slice none 0 0] 63)
 generalize ((w.alloc (.cells #[.int .i64 n, .int .i64 d] 23)).alloc (.cells #[.int .i64 0, .bool false, .slice none 0 0, .int .i64 0, .bool false, .slice none 0 0] 63)) = W0 at *
 have jl : W0.cell? ⟨w.heap.size, 0, none⟩ = some (.int .i64 n) := ag n0 0
 have jk : W0.cell? ⟨w.heap.size, 1, none⟩ = some (.int .i64 d) := ag n0 1
 have q0 : w.heap.size < W0.heap.size := by omega
 have jq : W0.cell? ⟨w.heap.size + 1, 0, none⟩ = some (.int .i64 0) := ag n1 0
 have jo : W0.cell? ⟨w.heap.size + 1, 1, none⟩ = some (.bool false) := ag n1 1
 have lh : W0.cell? ⟨w.heap.size + 1, 2, none⟩ = some (.slice none 0 0) := ag n1 2
 have lv : W0.cell? ⟨w.heap.size + 1, 3, none⟩ = some (.int .i64 0) := ag n1 3
 have Dw : W0.cell? ⟨w.heap.size + 1, 4, none⟩ = some (.bool false) := ag n1 4
 have Dv : W0.cell? ⟨w.heap.size + 1, 5, none⟩ = some (.slice none 0 0) := ag n1 5
 have q1 : w.heap.size + 1 < W0.heap.size := by omega
 have Lm := ah n1 0
 have Ll := ah n1 1
 have adr := ah n1 2
 have adq := ah n1 3
 have bba := ah n1 4
 have baz := ah n1 5
 have NR := Lib.hid n1
 clear n0 n1
 go_region_held3 (fun w' => w'.cell? ⟨w.heap.size, 0, none⟩ = some (.int .i64 n) ∧ w'.cell? ⟨w.heap.size, 1, none⟩ = some (.int .i64 d)) ((first | with_reducible exact ⟨(hc _ _ q0).trans jl, (hc _ _ q0).trans jk⟩ | with_reducible exact ⟨jl, jk⟩ | with_reducible exact ⟨(ib _ _ _ _ _ _ _ _ om).trans ((hc _ _ q0).trans jl), (ib _ _ _ _ _ _ _ _ om).trans ((hc _ _ q0).trans jk)⟩ | exact ⟨(hc _ _ q0).trans jl, (hc _ _ q0).trans jk⟩ | exact ⟨jl, jk⟩ | exact ⟨(ib _ _ _ _ _ _ _ _ om).trans ((hc _ _ q0).trans jl), (ib _ _ _ _ _ _ _ _ om).trans ((hc _ _ q0).trans jk)⟩)) (first | (go_at_call 102; refine ((aa HN1) _).mono ?_; clear HN1; rintro e w' ⟨s5, si, A5, c5, l5, rfl, kz, hb⟩; have hbw := ay (w := W0) bem hb; obtain ⟨hc, hfz⟩ := az hbw) | (go_at_call 102; refine ((aa HN2) _).mono ?_; rintro e w' ⟨s6, xg, A6, c6, l6, rfl, og, hb⟩; have kz := kz.below hb; have hbw := ay (w := W0) bem hb; obtain ⟨hc, hfz⟩ := az hbw))
 have hblk : w'.heap[w.heap.size + 1]? = some (.cells #[.int .i64 0, .bool false, .slice none 0 0, .int .i64 0, .bool false, .slice none 0 0] 63 (0, 0)) := (hbw.block _ q1).trans NR.out
 have jd := Lib.hid hblk
 have gp : Below w.heap.size w w' := au hw0 hbw
 clear hblk
 go_wp2_with fail
 exact bodyPost_ret (v := (Value.agg #[.int .i64 s5, .bool si, .slice A5 l5.length c5, .int .i64 s6, .bool xg, .slice A6 l6.length c6])) (by simp [results, Tryz.results50, go_sem, hc, jq, jo, lh, lv, Dw, Dv, q1]) rfl
  ⟨s5, si, A5, c5, l5, s6, xg, A6, c6, l6, rfl, (kz).upto jd.out (Ai _ _ _ _ _ _ _ _ _ _) (pq _ _ _ _ _ _ _ _), (og).upto jd.out (Ai _ _ _ _ _ _ _ _ _ _) (pq _ _ _ _ _ _ _ _), gp.grown (pq _ _ _ _ _ _ _ _) gp.size (fun k hk => by injection hk with hk; omega)⟩

end Go.Proofs.YtpjgoogeokbaaaaGreatDoor
namespace Go.Proofs.YtpjgoogeokbaaaaGreatDoor
open Go.RowKit

set_option maxHeartbeats 8000000 in
theorem atl (s1 : Int) (bz : Bool) (A1 : Option Addr) (c1 : Nat) (l1 : List Nat) (z1 : Int) (s2 : Int) (cu : Bool) (A2 : Option Addr) (c2 : Nat) (l2 : List Nat) (z2 : Int) (w : World) (h1 : dz w s1 bz A1 c1 l1 z1) (h2 : dz w s2 cu A2 c2 l2 z2) (a1 : ¬ l1.length = 0) :
  Calls Tryz.prog 52 #[(Value.agg #[.int .i64 s1, .bool bz, .slice A1 l1.length c1, .int .i64 s2, .bool cu, .slice A2 l2.length c2])] w fun e w' => e = .returned (.tuple #[.agg #[.int .i64 0, .int .i64 0], .int .i64 3]) ∧ Below w.heap.size w w' := by
 have pz := hide (fun W => Cu s1 bz A1 c1 l1.length W)
 have HS2 := hide (fun W => Cu s2 cu A2 c2 l2.length W)
 rw [decide_eq_false a1] at pz
 obtain ⟨B2, hB2⟩ : ∃ b, b = decide (l2.length = 0) := ⟨_, rfl⟩
 rw [← hB2] at HS2
 clear hB2
 clear a1 h1 h2
 go_enter Tryz.func52, Tryz.ntmps52
 go_wp2_with fail
 obtain ⟨n0, n1, hsz, hw0⟩ := jm w (.cells #[.int .i64 s1, .bool bz, .slice A1 l1.length c1, .int .i64 s2, .bool cu, .slice A2 l2.length c2] 63) (.cells #[.int .i64 0, .int .i64 0] 23)
 generalize ((w.alloc (.cells #[.int .i64 s1, .bool bz, .slice A1 l1.length c1, .int .i64 s2, .bool cu, .slice A2 l2.length c2] 63)).alloc (.cells #[.int .i64 0, .int .i64 0] 23)) = W0 at *
 have jl : W0.cell? ⟨w.heap.size, 0, none⟩ = some (.int .i64 s1) := ag n0 0
 have jk : W0.cell? ⟨w.heap.size, 1, none⟩ = some (.bool bz) := ag n0 1
 have jy : W0.cell? ⟨w.heap.size, 2, none⟩ = some (.slice A1 l1.length c1) := ag n0 2
 have ky : W0.cell? ⟨w.heap.size, 3, none⟩ = some (.int .i64 s2) := ag n0 3
 have Ag : W0.cell? ⟨w.heap.size, 4, none⟩ = some (.bool cu) := ag n0 4
 have Af : W0.cell? ⟨w.heap.size, 5, none⟩ = some (.slice A2 l2.length c2) := ag n0 5
 have q0 : w.heap.size < W0.heap.size := by omega
 have jq : W0.cell? ⟨w.heap.size + 1, 0, none⟩ = some (.int .i64 0) := ag n1 0
 have jo : W0.cell? ⟨w.heap.size + 1, 1, none⟩ = some (.int .i64 0) := ag n1 1
 have q1 : w.heap.size + 1 < W0.heap.size := by omega
 have Lm := ah n1 0
 have Ll := ah n1 1
 have NR := Lib.hid n1
 clear n0 n1
 refine ((aa pz) _).mono ?_
 rintro e w3 ⟨rfl, hb⟩
 have hbw := ay (w := W0) bem hb
 obtain ⟨hc, hfz⟩ := az hbw
 go_wp2_with fail
 refine ((aa HS2) _).mono ?_
 rintro e w4 ⟨rfl, hb⟩
 have hbw := ay (w := W0) bem hb
 obtain ⟨hc, hfz⟩ := az hbw
 have gp : Below w.heap.size w w4 := au hw0 hbw
 go_wp2_with fail
 exact bodyPost_ret (v := .tuple #[.agg #[.int .i64 0, .int .i64 0], .int .i64 3]) (by simp [results, Tryz.results52, go_sem, hc, jq, jo, q1]) rfl
  ⟨rfl, gp.grown (fq _ _ _ _) gp.size (fun k hk => by injection hk with hk; omega)⟩
set_option maxHeartbeats 8000000 in
theorem atj (s1 : Int) (bz : Bool) (A1 : Option Addr) (c1 : Nat) (l1 : List Nat) (z1 : Int) (s2 : Int) (cu : Bool) (A2 : Option Addr) (c2 : Nat) (l2 : List Nat) (z2 : Int) (w : World) (h1 : dz w s1 bz A1 c1 l1 z1) (h2 : dz w s2 cu A2 c2 l2 z2) (a1 : l1.length = 0) (a2 : ¬ l2.length = 0) :
  Calls Tryz.prog 52 #[(Value.agg #[.int .i64 s1, .bool bz, .slice A1 l1.length c1, .int .i64 s2, .bool cu, .slice A2 l2.length c2])] w fun e w' => e = .returned (.tuple #[.agg #[.int .i64 0, .int .i64 0], .int .i64 3]) ∧ Below w.heap.size w w' := by
 have pz := hide (fun W => Cu s1 bz A1 c1 l1.length W)
 have HS2 := hide (fun W => Cu s2 cu A2 c2 l2.length W)
 rw [decide_eq_true a1] at pz
 rw [decide_eq_false a2] at HS2
 clear a1 a2 h1 h2
 go_enter Tryz.func52, Tryz.ntmps52
 go_wp2_with fail
 obtain ⟨n0, n1, hsz, hw0⟩ := jm w (.cells #[.int .i64 s1, .bool bz, .slice A1 l1.length c1, .int .i64 s2, .bool cu, .slice A2 l2.length c2] 63) (.cells #[.int .i64 0, .int .i64 0] 23)
 generalize ((w.alloc (.cells #[.int .i64 s1, .bool bz, .slice A1 l1.length c1, .int .i64 s2, .bool cu, .slice A2 l2.length c2] 63)).alloc (.cells #[.int .i64 0, .int .i64 0] 23)) = W0 at *
 have jl : W0.cell? ⟨w.heap.size, 0, none⟩ = some (.int .i64 s1) := ag n0 0
 have jk : W0.cell? ⟨w.heap.size, 1, none⟩ = some (.bool bz) := ag n0 1
 have jy : W0.cell? ⟨w.heap.size, 2, none⟩ = some (.slice A1 l1.length c1) := ag n0 2
 have ky : W0.cell? ⟨w.heap.size, 3, none⟩ = some (.int .i64 s2) := ag n0 3
 have Ag : W0.cell? ⟨w.heap.size, 4, none⟩ = some (.bool cu) := ag n0 4
 have Af : W0.cell? ⟨w.heap.size, 5, none⟩ = some (.slice A2 l2.length c2) := ag n0 5
 have q0 : w.heap.size < W0.heap.size := by omega
 have jq : W0.cell? ⟨w.heap.size + 1, 0, none⟩ = some (.int .i64 0) := ag n1 0
 have jo : W0.cell? ⟨w.heap.size + 1, 1, none⟩ = some (.int .i64 0) := ag n1 1
 have q1 : w.heap.size + 1 < W0.heap.size := by omega
 have Lm := ah n1 0
 have Ll := ah n1 1
 have NR := Lib.hid n1
 clear n0 n1
 refine ((aa pz) _).mono ?_
 rintro e w3 ⟨rfl, hb⟩
 have hbw := ay (w := W0) bem hb
 obtain ⟨hc, hfz⟩ := az hbw
 go_wp2_with fail
 refine ((aa HS2) _).mono ?_
 rintro e w4 ⟨rfl, hb⟩
 have hbw := ay (w := W0) bem hb
 obtain ⟨hc, hfz⟩ := az hbw
 have gp : Below w.heap.size w w4 := au hw0 hbw
 go_wp2_with fail
 exact bodyPost_ret (v := .tuple #[.agg #[.int .i64 0, .int .i64 0], .int .i64 3]) (by simp [results, Tryz.results52, go_sem, hc, jq, jo, q1]) rfl
  ⟨rfl, gp.grown (fq _ _ _ _) gp.size (fun k hk => by injection hk with hk; omega)⟩
set_option maxHeartbeats 8000000 in
theorem bgh (s1 : Int) (bz : Bool) (A1 : Option Addr) (c1 : Nat) (l1 : List Nat) (z1 : Int) (s2 : Int) (cu : Bool) (A2 : Option Addr) (c2 : Nat) (l2 : List Nat) (z2 : Int) (w : World) (h1 : dz w s1 bz A1 c1 l1 z1) (h2 : dz w s2 cu A2 c2 l2 z2) (a1 : l1.length = 0) (a2 : l2.length = 0) (g1 : s1 < -1000000000000) :
  Calls Tryz.prog 52 #[(Value.agg #[.int .i64 s1, .bool bz, .slice A1 l1.length c1, .int .i64 s2, .bool cu, .slice A2 l2.length c2])] w fun e w' => e = .returned (.tuple #[.agg #[.int .i64 0, .int .i64 0], .int .i64 3]) ∧ Below w.heap.size w w' := by
 have pz := hide (fun W => Cu s1 bz A1 c1 l1.length W)
 have HS2 := hide (fun W => Cu s2 cu A2 c2 l2.length W)
 rw [decide_eq_true a1] at pz
 rw [decide_eq_true a2] at HS2
 have d1 : decide (s1 < -1000000000000) = true := decide_eq_true om
 clear a1 a2 h1 h2 g1
 go_enter Tryz.func52, Tryz.ntmps52
 go_wp2_with fail
 obtain ⟨n0, n1, hsz, hw0⟩ := jm w (.cells #[.int .i64 s1, .bool bz, .slice A1 l1.length c1, .int .i64 s2, .bool cu, .slice A2 l2.length c2] 63) (.cells #[.int .i64 0, .int .i64 0] 23)
 generalize ((w.alloc (.cells #[.int .i64 s1, .bool bz, .slice A1 l1.length c1, .int .i64 s2, .bool cu, .slice A2 l2.length c2] 63)).alloc (.cells #[.int .i64 0, .int .i64 0] 23)) = W0 at *
 have jl : W0.cell? ⟨w.heap.size, 0, none⟩ = some (.int .i64 s1) := ag n0 0
 have jk : W0.cell? ⟨w.heap.size, 1, none⟩ = some (.bool bz) := ag n0 1
 have jy : W0.cell? ⟨w.heap.size, 2, none⟩ = some (.slice A1 l1.length c1) := ag n0 2
 have ky : W0.cell? ⟨w.heap.size, 3, none⟩ = some (.int .i64 s2) := ag n0 3
 have Ag : W0.cell? ⟨w.heap.size, 4, none⟩ = some (.bool cu) := ag n0 4
 have Af : W0.cell? ⟨w.heap.size, 5, none⟩ = some (.slice A2 l2.length c2) := ag n0 5
 have q0 : w.heap.size < W0.heap.size := by omega
 have jq : W0.cell? ⟨w.heap.size + 1, 0, none⟩ = some (.int .i64 0) := ag n1 0
 have jo : W0.cell? ⟨w.heap.size + 1, 1, none⟩ = some (.int .i64 0) := ag n1 1
 have q1 : w.heap.size + 1 < W0.heap.size := by omega
 have Lm := ah n1 0
 have Ll := ah n1 1
 have NR := Lib.hid n1
 clear n0 n1
 refine ((aa pz) _).mono ?_
 rintro e w3 ⟨rfl, hb⟩
 have hbw := ay (w := W0) bem hb
 obtain ⟨hc, hfz⟩ := az hbw
 go_wp2_with fail
 refine ((aa HS2) _).mono ?_
 rintro e w4 ⟨rfl, hb⟩
 have hbw := ay (w := W0) bem hb
 obtain ⟨hc, hfz⟩ := az hbw
 have gp : Below w.heap.size w w4 := au hw0 hbw
 go_wp2_with fail
 exact bodyPost_ret (v := .tuple #[.agg #[.int .i64 0, .int .i64 0], .int .i64 3]) (by simp [results, Tryz.results52, go_sem, hc, jq, jo, q1]) rfl
  ⟨rfl, gp.grown (fq _ _ _ _) gp.size (fun k hk => by injection hk with hk; omega)⟩
set_option maxHeartbeats 8000000 in
theorem bgi (s1 : Int) (bz : Bool) (A1 : Option Addr) (c1 : Nat) (l1 : List Nat) (z1 : Int) (s2 : Int) (cu : Bool) (A2 : Option Addr) (c2 : Nat) (l2 : List Nat) (z2 : Int) (w : World) (h1 : dz w s1 bz A1 c1 l1 z1) (h2 : dz w s2 cu A2 c2 l2 z2) (a1 : l1.length = 0) (a2 : l2.length = 0) (g1 : 1000000000000 < s1) :
  Calls Tryz.prog 52 #[(Value.agg #[.int .i64 s1, .bool bz, .slice A1 l1.length c1, .int .i64 s2, .bool cu, .slice A2 l2.length c2])] w fun e w' => e = .returned (.tuple #[.agg #[.int .i64 0, .int .i64 0], .int .i64 3]) ∧ Below w.heap.size w w' := by
 have pz := hide (fun W => Cu s1 bz A1 c1 l1.length W)
 have HS2 := hide (fun W => Cu s2 cu A2 c2 l2.length W)
 rw [decide_eq_true a1] at pz
 rw [decide_eq_true a2] at HS2
 have d1 : decide (s1 < -1000000000000) = false := decide_eq_false om
 have d2 : decide (1000000000000 < s1) = true := decide_eq_true om
 clear a1 a2 h1 h2 g1
 go_enter Tryz.func52, Tryz.ntmps52
 go_wp2_with fail
 obtain ⟨n0, n1, hsz, hw0⟩ := jm w (.cells #[.int .i64 s1, .bool bz, .slice A1 l1.length c1, .int .i64 s2, .bool cu, .slice A2 l2.length c2] 63) (.cells #[.int .i64 0, .int .i64 0] 23)
 generalize ((w.alloc (.cells #[.int .i64 s1, .bool bz, .slice A1 l1.length c1, .int .i64 s2, .bool cu, .slice A2 l2.length c2] 63)).alloc (.cells #[.int .i64 0, .int .i64 0] 23)) = W0 at *
 have jl : W0.cell? ⟨w.heap.size, 0, none⟩ = some (.int .i64 s1) := ag n0 0
 have jk : W0.cell? ⟨w.heap.size, 1, none⟩ = some (.bool bz) := ag n0 1
 have jy : W0.cell? ⟨w.heap.size, 2, none⟩ = some (.slice A1 l1.length c1) := ag n0 2
 have ky : W0.cell? ⟨w.heap.size, 3, none⟩ = some (.int .i64 s2) := ag n0 3
 have Ag : W0.cell? ⟨w.heap.size, 4, none⟩ = some (.bool cu) := ag n0 4
 have Af : W0.cell? ⟨w.heap.size, 5, none⟩ = some (.slice A2 l2.length c2) := ag n0 5
 have q0 : w.heap.size < W0.heap.size := by omega
 have jq : W0.cell? ⟨w.heap.size + 1, 0, none⟩ = some (.int .i64 0) := ag n1 0
 have jo : W0.cell? ⟨w.heap.size + 1, 1, none⟩ = some (.int .i64 0) := ag n1 1
 have q1 : w.heap.size + 1 < W0.heap.size := by omega
 have Lm := ah n1 0
 have Ll := ah n1 1
 have NR := Lib.hid n1
 clear n0 n1
 refine ((aa pz) _).mono ?_
 rintro e w3 ⟨rfl, hb⟩
 have hbw := ay (w := W0) bem hb
 obtain ⟨hc, hfz⟩ := az hbw
 go_wp2_with fail
 refine ((aa HS2) _).mono ?_
 rintro e w4 ⟨rfl, hb⟩
 have hbw := ay (w := W0) bem hb
 obtain ⟨hc, hfz⟩ := az hbw
 have gp : Below w.heap.size w w4 := au hw0 hbw
 go_wp2_with fail
 exact bodyPost_ret (v := .tuple #[.agg #[.int .i64 0, .int .i64 0], .int .i64 3]) (by simp [results, Tryz.results52, go_sem, hc, jq, jo, q1]) rfl
  ⟨rfl, gp.grown (fq _ _ _ _) gp.size (fun k hk => by injection hk with hk; omega)⟩
set_option maxHeartbeats 8000000 in
theorem ayh (s1 : Int) (bz : Bool) (A1 : Option Addr) (c1 : Nat) (l1 : List Nat) (z1 : Int) (s2 : Int) (cu : Bool) (A2 : Option Addr) (c2 : Nat) (l2 : List Nat) (z2 : Int) (w : World) (h1 : dz w s1 bz A1 c1 l1 z1) (h2 : dz w s2 cu A2 c2 l2 z2) (a1 : l1.length = 0) (a2 : l2.length = 0) (g1 : ¬ s1 < -1000000000000) (g2 : ¬ 1000000000000 < s1) (g3 : 1000000000000 < s2) :
  Calls Tryz.prog 52 #[(Value.agg #[.int .i64 s1, .bool bz, .slice A1 l1.length c1, .int .i64 s2, .bool cu, .slice A2 l2.length c2])] w fun e w' => e = .returned (.tuple #[.agg #[.int .i64 0, .int .i64 0], .int .i64 3]) ∧ Below w.heap.size w w' := by
 have pz := hide (fun W => Cu s1 bz A1 c1 l1.length W)
 have HS2 := hide (fun W => Cu s2 cu A2 c2 l2.length W)
 rw [decide_eq_true a1] at pz
 rw [decide_eq_true a2] at HS2
 have d1 : decide (s1 < -1000000000000) = false := decide_eq_false om
 have d2 : decide (1000000000000 < s1) = false := decide_eq_false om
 have d3 : decide (1000000000000 < s2) = true := decide_eq_true om
 clear a1 a2 h1 h2 g1 g2 g3
 go_enter Tryz.func52, Tryz.ntmps52
 go_wp2_with fail
 obtain ⟨n0, n1, hsz, hw0⟩ := jm w (.cells #[.int .i64 s1, .bool bz, .slice A1 l1.length c1, .int .i64 s2, .bool cu, .slice A2 l2.length c2] 63) (.cells #[.int .i64 0, .int .i64 0] 23)
 generalize ((w.alloc (.cells #[.int .i64 s1, .bool bz, .slice A1 l1.length c1, .int .i64 s2, .bool cu, .slice A2 l2.length c2] 63)).alloc (.cells #[.int .i64 0, .int .i64 0] 23)) = W0 at *
 have jl : W0.cell? ⟨w.heap.size, 0, none⟩ = some (.int .i64 s1) := ag n0 0
 have jk : W0.cell? ⟨w.heap.size, 1, none⟩ = some (.bool bz) := ag n0 1
 have jy : W0.cell? ⟨w.heap.size, 2, none⟩ = some (.slice A1 l1.length c1) := ag n0 2
 have ky : W0.cell? ⟨w.heap.size, 3, none⟩ = some (.int .i64 s2) := ag n0 3
 have Ag : W0.cell? ⟨w.heap.size, 4, none⟩ = some (.bool cu) := ag n0 4
 have Af : W0.cell? ⟨w.heap.size, 5, none⟩ = some (.slice A2 l2.length c2) := ag n0 5
 have q0 : w.heap.size < W0.heap.size := by omega
 have jq : W0.cell? ⟨w.heap.size + 1, 0, none⟩ = some (.int .i64 0) := ag n1 0
 have jo : W0.cell? ⟨w.heap.size + 1, 1, none⟩ = some (.int .i64 0) := ag n1 1
 have q1 : w.heap.size + 1 < W0.heap.size := by omega
 have Lm := ah n1 0
 have Ll := ah n1 1
 have NR := Lib.hid n1
 clear n0 n1
 refine ((aa pz) _).mono ?_
 rintro e w3 ⟨rfl, hb⟩
 have hbw := ay (w := W0) bem hb
 obtain ⟨hc, hfz⟩ := az hbw
 go_wp2_with fail
 refine ((aa HS2) _).mono ?_
 rintro e w4 ⟨rfl, hb⟩
 have hbw := ay (w := W0) bem hb
 obtain ⟨hc, hfz⟩ := az hbw
 have gp : Below w.heap.size w w4 := au hw0 hbw
 go_wp2_with fail
 exact bodyPost_ret (v := .tuple #[.agg #[.int .i64 0, .int .i64 0], .int .i64 3]) (by simp [results, Tryz.results52, go_sem, hc, jq, jo, q1]) rfl
  ⟨rfl, gp.grown (fq _ _ _ _) gp.size (fun k hk => by injection hk with hk; omega)⟩
set_option maxHeartbeats 8000000 in
theorem bgg (s1 : Int) (bz : Bool) (A1 : Option Addr) (c1 : Nat) (l1 : List Nat) (z1 : Int) (s2 : Int) (cu : Bool) (A2 : Option Addr) (c2 : Nat) (l2 : List Nat) (z2 : Int) (w : World) (h1 : dz w s1 bz A1 c1 l1 z1) (h2 : dz w s2 cu A2 c2 l2 z2) (a1 : l1.length = 0) (a2 : l2.length = 0) (g1 : ¬ s1 < -1000000000000) (g2 : ¬ 1000000000000 < s1) (g3 : ¬ 1000000000000 < s2) :
  Calls Tryz.prog 52 #[(Value.agg #[.int .i64 s1, .bool bz, .slice A1 l1.length c1, .int .i64 s2, .bool cu, .slice A2 l2.length c2])] w fun e w' => e = .returned (.tuple #[.agg #[.int .i64 s1, .int .i64 s2], .int .i64 0]) ∧ Below w.heap.size w w' := by
 have pz := hide (fun W => Cu s1 bz A1 c1 l1.length W)
 have HS2 := hide (fun W => Cu s2 cu A2 c2 l2.length W)
 rw [decide_eq_true a1] at pz
 rw [decide_eq_true a2] at HS2
 have d1 : decide (s1 < -1000000000000) = false := decide_eq_false om
 have d2 : decide (1000000000000 < s1) = false := decide_eq_false om
 have d3 : decide (1000000000000 < s2) = false := decide_eq_false om
 clear a1 a2 h1 h2 g1 g2 g3
 go_enter Tryz.func52, Tryz.ntmps52
 go_wp2_with fail
 obtain ⟨n0, n1, hsz, hw0⟩ := jm w (.cells #[.int .i64 s1, .bool bz, .slice A1 l1.length c1, .int .i64 s2, .bool cu, .slice A2 l2.length c2] 63) (.cells #[.int .i64 0, .int .i64 0] 23)
 generalize ((w.alloc (.cells #[.int .i64 s1, .bool bz, .slice A1 l1.length c1, .int .i64 s2, .bool cu, .slice A2 l2.length c2] 63)).alloc (.cells #[.int .i64 0, .int .i64 0] 23)) = W0 at *
 have jl : W0.cell? ⟨w.heap.size, 0, none⟩ = some (.int .i64 s1) := ag n0 0
 have jk : W0.cell? ⟨w.heap.size, 1, none⟩ = some (.bool bz) := ag n0 1
 have jy : W0.cell? ⟨w.heap.size, 2, none⟩ = some (.slice A1 l1.length c1) := ag n0 2
 have ky : W0.cell? ⟨w.heap.size, 3, none⟩ = some (.int .i64 s2) := ag n0 3
 have Ag : W0.cell? ⟨w.heap.size, 4, none⟩ = some (.bool cu) := ag n0 4
 have Af : W0.cell? ⟨w.heap.size, 5, none⟩ = some (.slice A2 l2.length c2) := ag n0 5
 have q0 : w.heap.size < W0.heap.size := by omega
 have jq : W0.cell? ⟨w.heap.size + 1, 0, none⟩ = some (.int .i64 0) := ag n1 0
 have jo : W0.cell? ⟨w.heap.size + 1, 1, none⟩ = some (.int .i64 0) := ag n1 1
 have q1 : w.heap.size + 1 < W0.heap.size := by omega
 have Lm := ah n1 0
 have Ll := ah n1 1
 have NR := Lib.hid n1
 clear n0 n1
 refine ((aa pz) _).mono ?_
 rintro e w3 ⟨rfl, hb⟩
 have hbw := ay (w := W0) bem hb
 obtain ⟨hc, hfz⟩ := az hbw
 go_wp2_with fail
 refine ((aa HS2) _).mono ?_
 rintro e w4 ⟨rfl, hb⟩
 have hbw := ay (w := W0) bem hb
 obtain ⟨hc, hfz⟩ := az hbw
 have gp : Below w.heap.size w w4 := au hw0 hbw
 go_wp2_with fail
 exact bodyPost_ret (v := .tuple #[.agg #[.int .i64 s1, .int .i64 s2], .int .i64 0]) (by simp [results, Tryz.results52, go_sem, hc, jq, jo, q1]) rfl
  ⟨rfl, gp.grown (fq _ _ _ _) gp.size (fun k hk => by injection hk with hk; omega)⟩

theorem Xh (s1 : Int) (bz : Bool) (A1 : Option Addr) (c1 : Nat) (l1 : List Nat) (z1 : Int) (s2 : Int) (cu : Bool) (A2 : Option Addr) (c2 : Nat) (l2 : List Nat) (z2 : Int) (w : World) (h1 : dz w s1 bz A1 c1 l1 z1) (h2 : dz w s2 cu A2 c2 l2 z2) (q : Rat) (e1 : z1 = q.num) (e2 : z2 = (q.den : Int)) :
  Calls Tryz.prog 52 #[(Value.agg #[.int .i64 s1, .bool bz, .slice A1 l1.length c1, .int .i64 s2, .bool cu, .slice A2 l2.length c2])] w fun e w' => e = .returned (.tuple #[.agg #[.int .i64 (Wd.told q).n, .int .i64 (Wd.told q).d], .int .i64 (Wd.told q).e]) ∧ Below w.heap.size w w' := by
 have hden := q.den_pos
 have big : ∀ (l : List Nat) (s : Int) (neg : Bool) (A : Option Addr) (c : Nat) (z : Int), dz w s neg A c l z → ¬ l.length = 0 → 9223372036854775808 ≤ z.natAbs := fun l s neg A c z h a => by
  rcases h.form with ⟨x, _⟩ | ⟨_, _, _, _, x⟩
  ·
   exact absurd x a
  ·
   rwa [Ad] at x
 have large : ∀ P : Prop, ¬ Wd.fits q → (Wd.told q) = ⟨0, 0, 3⟩ := fun _ h => by unfold Wd.told; rw [if_neg h]
 by_cases a1 : l1.length = 0
 ·
  obtain ⟨x1, _, _⟩ := h1.Cj a1
  by_cases a2 : l2.length = 0
  ·
   obtain ⟨x2, _, _⟩ := h2.Cj a2
   by_cases g1 : s1 < -1000000000000
   ·
    rw [large True (fun hf => by have := hf.1; rw [Wd.Tu] at this; omega)]; exact bgh s1 bz A1 c1 l1 z1 s2 cu A2 c2 l2 z2 w h1 h2 a1 a2 g1
   by_cases g2 : 1000000000000 < s1
   ·
    rw [large True (fun hf => by have := hf.1; rw [Wd.Tu] at this; omega)]; exact bgi s1 bz A1 c1 l1 z1 s2 cu A2 c2 l2 z2 w h1 h2 a1 a2 g2
   by_cases g3 : 1000000000000 < s2
   ·
    rw [large True (fun hf => by have := hf.2; rw [Wd.Tu] at this; omega)]; exact ayh s1 bz A1 c1 l1 z1 s2 cu A2 c2 l2 z2 w h1 h2 a1 a2 g1 g2 g3
   have hf : Wd.fits q := by unfold Wd.fits; rw [Wd.Tu]; omega
   have ht : Wd.told q = ⟨s1, s2, 0⟩ := by unfold Wd.told; rw [if_pos hf, x1, x2, e1, e2]
   rw [ht]
   exact bgg s1 bz A1 c1 l1 z1 s2 cu A2 c2 l2 z2 w h1 h2 a1 a2 g1 g2 g3
  ·
   have := big _ _ _ _ _ _ h2 a2
   rw [large True (fun hf => by have := hf.2; rw [Wd.Tu] at this; omega)]; exact atj s1 bz A1 c1 l1 z1 s2 cu A2 c2 l2 z2 w h1 h2 a1 a2
 ·
  have := big _ _ _ _ _ _ h1 a1
  rw [large True (fun hf => by have := hf.1; rw [Wd.Tu] at this; omega)]; exact atl s1 bz A1 c1 l1 z1 s2 cu A2 c2 l2 z2 w h1 h2 a1

end Go.Proofs.YtpjgoogeokbaaaaGreatDoor
namespace Go.Proofs.YtpjgoogeokbaaaaGreatDoor
open Go.RowKit

def Bz (w : World) (t : Wd.Told) (e : Ending) (w' : World) : Prop := e = .returned (.tuple #[.agg #[.int .i64 t.n, .int .i64 t.d], .int .i64 t.e]) ∧ Below w.heap.size w w'
end Go.Proofs.YtpjgoogeokbaaaaGreatDoor
namespace Go.Proofs.YtpjgoogeokbaaaaGreatDoor
open Go.RowKit

def mkE (n d : Int) : Wd.Told := if d = 0 then ⟨0, 0, 1⟩ else Wd.told (Rat.divInt n d)
set_option maxHeartbeats 16000000 in
theorem aum (n : Int) (w : World) : Calls Tryz.prog 48 #[.int .i64 n, .int .i64 0] w fun e w' => Bz w ⟨0, 0, 1⟩ e w' := by
 go_enter Tryz.func48, Tryz.ntmps48
 go_wp2
 exact bodyPost_ret (v := .tuple #[.agg #[.int .i64 0, .int .i64 0], .int .i64 1]) (by simp [results, Tryz.results48, go_sem]) rfl
  ⟨rfl, (Below.refl _ _).alloc (Nat.le_refl _) _⟩
set_option maxHeartbeats 16000000 in
theorem aiy (n d : Int) (w : World) (hT : rz w) (b1 : -9223372036854775808 ≤ n) (b2 : n ≤ 9223372036854775807) (b3 : -9223372036854775808 ≤ d) (b4 : d ≤ 9223372036854775807) :
  Calls Tryz.prog 48 #[.int .i64 n, .int .i64 d] w fun e w' => Bz w (mkE n d) e w' := by
 unfold mkE
 by_cases h0 : d = 0
 ·
  subst h0; rw [if_pos rfl]; exact aum n w
 rw [if_neg h0]
 obtain ⟨q, hq⟩ : ∃ q, q = Rat.divInt n d := ⟨_, rfl⟩
 have B : (9223372036854775808 : Nat) < dm := by rw [gu]; omega
 have HN := hide (fun (s5 : Int) (si : Bool) (A5 : Option Addr) (c5 : Nat) (l5 : List Nat) (s6 : Int) (xg : Bool) (A6 : Option Addr) (c6 : Nat) (l6 : List Nat) (W : World) (hW : rz W) (f5 : dz W s5 si A5 c5 l5 n) (f6 : dz W s6 xg A6 c6 l6 d) => ayz (K := 1) s5 si A5 c5 l5 s6 xg A6 c6 l6 n d W hW f5 f6 h0 (Wd.Sz.of_le om wz (Nat.le_refl _)) (Wd.Sz.of_le om wz (Nat.le_refl _)) (by unfold lim; omega))
 rw [← hq] at HN ⊢
 have Gf := hide (fun W => Kl n b1 b2 W)
 have Pf := hide (fun W => Kl d b3 b4 W)
 have hz : (d == 0) = false := beq_eq_false_iff_ne.2 h0
 have HT := hide hT
 have HRT := hide (fun (s9 : Int) (Gx : Bool) (A9 : Option Addr) (c9 : Nat) (l9 : List Nat) (s10 : Int) (Es : Bool) (Ae : Option Addr) (c10 : Nat) (l10 : List Nat) (W : World) (f9 : dz W s9 Gx A9 c9 l9 q.num) (f10 : dz W s10 Es Ae c10 l10 (q.den : Int)) => Xh s9 Gx A9 c9 l9 q.num s10 Es Ae c10 l10 (q.den : Int) W f9 f10 q rfl rfl)
 obtain ⟨tn, htn⟩ : ∃ x, x = (Wd.told q).n := ⟨_, rfl⟩
 obtain ⟨td, htd⟩ : ∃ x, x = (Wd.told q).d := ⟨_, rfl⟩
 obtain ⟨te, hte⟩ : ∃ x, x = (Wd.told q).e := ⟨_, rfl⟩
 rw [← htn, ← htd, ← hte] at HRT
 have HTL := Lib.hid (show Wd.told q = ⟨tn, td, te⟩ by rw [htn, htd, hte])
 clear htn htd hte
 clear hT h0 b1 b2 b3 b4 hq
 go_enter Tryz.func48, Tryz.ntmps48
 go_wp2_with fail
 have nr := heap_alloc_new w (.cells #[.int .i64 0, .int .i64 0] 23)
 have hw0 : Below w.heap.size w (w.alloc (.cells #[.int .i64 0, .int .i64 0] 23)) := je (Below.refl _ _) _
 generalize w.alloc (.cells #[.int .i64 0, .int .i64 0] 23) = W0 at *
 have NR := Lib.hid nr
 clear nr
 refine ((aa Gf) _).mono ?_
 rintro e W1 ⟨s5, si, A5, c5, l5, rfl, kz, hb5⟩
 go_wp2_with fail
 refine ((aa Pf) _).mono ?_
 rintro e W2 ⟨s6, xg, A6, c6, l6, rfl, og, hb6⟩
 have hB := au hb5 hb6
 go_wp2_with fail
 refine ((aa HN) s5 si A5 c5 l5 s6 xg A6 c6 l6 _ ((aa HT).below (au hw0 hB)) (kz.below hb6) og).mono ?_
 rintro e W3 ⟨s9, Gx, A9, c9, l9, s10, Es, Ae, c10, l10, rfl, En, zt, gp⟩
 replace hB := au hB gp
 go_wp2_with fail
 refine ((aa HRT) s9 Gx A9 c9 l9 s10 Es Ae c10 l10 _ En zt).mono ?_
 rintro e W4 ⟨rfl, Cq⟩
 replace hB := au hB Cq
 have nr4 := (hB.block _ (lt_of_block NR.out)).trans NR.out
 have k0 : W4.cell? ⟨w.heap.size, 0, none⟩ = some (.int .i64 0) := ag nr4 0
 have k1 : W4.cell? ⟨w.heap.size, 1, none⟩ = some (.int .i64 0) := ag nr4 1
 have u0 := ah nr4 0
 have u1 := ah nr4 1
 have hbn : Below w.heap.size w W4 := au hw0 hB
 clear nr4
 go_wp2_with fail
 exact bodyPost_ret (v := .tuple #[.agg #[.int .i64 tn, .int .i64 td], .int .i64 te]) (by simp [results, Tryz.results48, go_sem, k0, k1]) rfl
  ⟨HTL.out ▸ rfl, hbn.grown (fq _ _ _ _) hbn.size (fun k hk => by injection hk with hk; omega)⟩

end Go.Proofs.YtpjgoogeokbaaaaGreatDoor
