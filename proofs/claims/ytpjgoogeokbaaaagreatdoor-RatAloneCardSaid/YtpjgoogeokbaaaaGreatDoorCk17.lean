/- Texts beneath a law of layer 1. -/
import Derived.Test.YtpjgoogeokbaaaaGreatDoorCk16
set_option maxRecDepth 100000
namespace Go.Proofs.YtpjgoogeokbaaaaGreatDoor
open Go.RowKit

set_option maxHeartbeats 16000000 in
theorem ahx (x : Rat) (o : Int) (b : Bool) (w : World) (u1 : Value) (h1 : ek x w u1) (hb : (o == 0) = b)
  (hden : ∀ (W : World) (v0 : Value), ek (x) W v0 → Calls Tryz.prog 95 #[v0] W (qh (Ar (x.den)) W))
  (hone : ∀ (W : World) , Calls Tryz.prog 107 #[] W (qh (Ar (1)) W))
  (hc : ∀ (W : World) (v0 v1 : Value), Ar (x.den) W v0 → Ar (1) W v1 → Calls Tryz.prog 117 #[v0, v1] W (qh (Rg.ji (.int .i64 o)) W)) :
  Calls Tryz.prog 109 #[u1] w (qh (Rg.ji (.bool b)) w) := by
 obtain ⟨A1, c1, l1, m1, A2, c2, l2, m2, rfl, hq1⟩ := h1
 have ai1 := hide hden
 have Xm := hide hone
 have HHC := hide hc
 have HHB := hide hb
 clear hden hone hc hb
 go_enter Tryz.func109, Tryz.ntmps109
 go_upto_region 1 with fail
 have hO := (Own.push (Own.nil w) (hq1.below (Below.refl _ _)) (w.heap.size) rfl)
 generalize w.alloc (.cells #[.slice A1 l1.length c1, .bool m1, .slice A2 l2.length c2, .bool m2] 52) = W0 at *
 have HO := hide hO
 clear hO
 go_upto_region 1 with fail
 refine Rg.tq 6 8 (Rg.pick [ek (x), Ar (x.den : Int), Ar 1, Rg.ji (.int .i64 o), Rg.ji (.bool (b)), Rg.ji (.bool (b))]) (cz w [(w.heap.size, x)] W0) og [] kr rfl (Rg.oo.pick ⟨df _, Dz _, Dz _, Rg.fw _, Rg.fw _, Rg.fw _, trivial⟩) (cz.begin (aa HO))
  (Rg.ax (Rg.plain rfl (gy rfl (Rg.ja kr rfl) (fun W h => cz.box (List.Mem.head _) h) rfl))
   (Rg.ax (Rg.plain rfl (kz Tryz.func95 kr rfl cz.step (Rg.dw 0 kr) (fun W v0 hG h0 => aa ai1 W v0 h0)))
   (Rg.ax (Rg.plain rfl (Yw Tryz.func107 kr rfl cz.step  (fun W  hG  => aa Xm W)))
   (Rg.ax (Rg.plain rfl (jh Tryz.func117 kr rfl cz.step (Rg.dw 1 kr) (Rg.dw 2 kr) (fun W v0 v1 hG h0 h1 => aa HHC W v0 v1 h0 h1)))
   (Rg.ax (Rg.plain rfl (Jv rfl (Rg.dw 3 kr) (Rg.yf _) rfl (aa HHB)))
   (Rg.ax (Rg.plain rfl (xc rfl (Rg.dw 4 kr)))
   Rg.jc)))))) ?_
 intro v V1 hG1 hv hne
 clear hne
 simp only [Rg.puts, List.take_succ_cons, List.take_zero, List.drop_succ_cons, List.drop_zero, Act.put, List.setIfInBounds_toArray, List.set_cons_zero, List.set_cons_succ]
 have e5 : v 5 = .bool (b) := hv 5 (by decide)
 simp only [e5]
 have hO := hG1.1
 clear hG1
 try clear e5
 try clear hv
 replace HO := hide hO
 clear hO
 have HB := hide (aa HO).bel
 clear HO
 go_wp2_with fail
 all_goals first | go_ret | skip
 exact ⟨_, rfl, aa HB, rfl⟩
theorem agb {x : Rat} {b : Bool} (hb : b = decide ((x.den : Int) = 1)) (W : World) (v : Value) (h : ek x W v) : Calls Tryz.prog 109 #[v] W (qh (Rg.ji (.bool b)) W) :=
 ahx x _ b W v h (by
  rw [hb]
  by_cases g : (x.den : Int) = 1
  ·
   rw [decide_eq_true g, g]; rfl
  ·
   rw [decide_eq_false g]; exact Oa om) (fun W v h => Ww x W v h) aim (fun W v0 v1 h0 h1 => amf W v0 v1 h0 h1)
structure RoF (n d g : Int) : Prop where
 BN : Bd n
 BD : Bd d
 D0 : 0 < d
 Bg : Bd g
 g0 : 0 < g
 Bp : Bd (n * g)
 Bq : Bd (n * g / d)
 Bq1 : Bd (n * g / d + 1)
 Bs : Bd (n * g - n * g / d * d)
theorem bd2 : Bd 2 := by unfold Bd; omega
theorem roF {n d g : Int} (ok : Wd.nk n d) (g1 : 1 ≤ g) (g2 : g ≤ 1000000) : RoF n d g := by
 have hb := Zz ok g1 g2
 obtain ⟨q1, q2, q3, q4⟩ := Wt ok.1 hb
 obtain ⟨o1, o2, o3, o4, o5⟩ := ok
 exact ⟨by unfold Bd; omega, by unfold Bd; omega, by omega, by unfold Bd; omega, by omega, by unfold Bd; omega, by unfold Bd; omega, by unfold Bd; omega, by unfold Bd; omega⟩
set_option maxHeartbeats 16000000 in
theorem afb (n d g : Int) (ok : Wd.nk n d) (g1 : 1 ≤ g) (g2 : g ≤ 1000000) (w : World) (u1 : Value) (h1 : ek (Rat.divInt n d) w u1) :
  Calls Tryz.prog 59 #[u1, .int .i64 g] w (qh (ek (Rat.divInt (D8 n d g) g)) w) := by
 obtain ⟨A1, c1, l1, m1, A2, c2, l2, m2, rfl, hq1⟩ := h1
 have RF := hide (roF ok g1 g2)
 clear ok
 obtain ⟨rr, hrr⟩ : ∃ z, z = D8 n d g := ⟨_, rfl⟩
 rw [← hrr]
 have HRR := hide hrr
 clear hrr
 go_enter Tryz.func59, Tryz.ntmps59
 go_upto_region 1 with fail
 have hO := (Own.Rn (Own.push (Own.nil w) (hq1.below (Below.refl _ _)) (w.heap.size) rfl) (w.heap.size + 1) (by simp only [World.size_alloc]))
 generalize (w.alloc (.cells #[.slice A1 l1.length c1, .bool m1, .slice A2 l2.length c2, .bool m2] 52)).alloc (.cells #[.slice none 0 0, .bool false, .slice none 0 0, .bool false] 52) = W0 at *
 have HO := hide hO
 clear hO
 go_upto_region 1 with fail
 refine Rg.region 5 38 (Rg.pick [ek (Rat.divInt n d), Rg.ji (.int .i64 g), ek (Rat.divInt (g) 1), ek (Rat.divInt (n * g) d), Cv W0.heap.size]) (cz w [(w.heap.size + 1, 0), (w.heap.size, Rat.divInt n d)] W0) og [4] kr kr rfl (Rg.oo.pick ⟨df _, Rg.fw _, df _, df _, Ct _, trivial⟩) (cz.start (aa HO))
  (Rg.ax (Rg.plain rfl (gy rfl (Rg.ja kr rfl) (fun W h => cz.box (List.Mem.tail _ (List.Mem.head _)) h) rfl))
   (Rg.ax (Rg.plain rfl (u7 rfl (Rg.ja kr rfl)))
   (Rg.ax (Rg.plain rfl (kz Tryz.func72 kr rfl cz.step (Rg.dw 1 kr) (fun W v0 hG h0 => by cases h0; exact Gs g om om W)))
   (Rg.ax (Rg.plain rfl (jh Tryz.func45 kr rfl cz.step (Rg.dw 0 kr) (Rg.dw 2 kr) (fun W v0 v1 hG h0 h1 => Qt (aa RF).BN (aa RF).BD (by have := (aa RF).D0; omega) (aa RF).Bg W v0 v1 h0 h1)))
   (Rg.ax (Rg.plain rfl (F7 cz.step cz.size rfl (En (by intro j hj; simp at hj; (repeat' (first | (rcases hj with rfl | hj))) <;> first | (subst hj; rfl) | rfl))))
   Rg.jc))))) ?_
 intro v V1 hG1 hv hne
 clear hne
 simp only [Rg.puts, List.take_succ_cons, List.take_zero, List.drop_succ_cons, List.drop_zero, Act.put, List.setIfInBounds_toArray, List.set_cons_zero, List.set_cons_succ]
 obtain ⟨Xr, W9, Vq, Vj, Xq, Wz, Vp, Vi, e3, f3⟩ := (show ek (Rat.divInt (n * g) d) V1 (v 3) from hv 3 (by decide))
 obtain ⟨Ci, e4, hge4, hz4⟩ := (show Cv W0.heap.size V1 (v 4) from hv 4 (by decide))
 simp only [e3, e4]
 have hO := hG1.1
 replace hO := Own.add (aa HO) hG1.2 hge4 hz4
 obtain ⟨-, _, _, _, _, _, _, _, _, hz, -⟩ := hO.box (Ci) (0) (List.Mem.head _)
 have aso := ag hz 0
 have ata := ah hz 0
 have ash := ag hz 1
 have as5 := ah hz 1
 have asb := ag hz 2
 have as0 := ah hz 2
 have ar6 := ag hz 3
 have asv := ah hz 3
 have aup := lt_of_block hz
 clear hz
 go_upto_region 2 with fail
 replace hO := Own.set (xs := []) (ys := [(w.heap.size + 1, 0), (w.heap.size, Rat.divInt n d)]) hO f3
 unfold Cf at hO
 generalize (((V1.setCell ⟨Ci, 0, none⟩ (.slice Xr Vq.length W9)).setCell ⟨Ci, 1, none⟩ (.bool Vj)).setCell ⟨Ci, 2, none⟩ (.slice Xq Vp.length Wz)).setCell ⟨Ci, 3, none⟩ (.bool Vi) = U1 at *
 try clear aso ata ash as5 asb as0 ar6 asv hG1
 try clear e3 e4 f3 hge4 hz4 aup
 try clear hv
 replace HO := hide hO
 clear hO
 go_upto_region 2 with fail
 refine Rg.tq 3 38 (Rg.pick [ek (Rat.divInt (n * g) d), ek (Rat.divInt (n * g / d) 1), Cv U1.heap.size]) (cz w [(Ci, Rat.divInt (n * g) d), (w.heap.size + 1, 0), (w.heap.size, Rat.divInt n d)] U1) og [2] kr rfl (Rg.oo.pick ⟨df _, df _, Ct _, trivial⟩) (cz.begin (aa HO))
  (Rg.ax (Rg.plain rfl (gy rfl (Rg.ja kr rfl) (fun W h => cz.box (List.Mem.head _) h) rfl))
   (Rg.ax (Rg.plain rfl (kz Tryz.func56 kr rfl cz.step (Rg.dw 0 kr) (fun W v0 hG h0 => Oo (aa RF).Bp (aa RF).BD (aa RF).D0 W v0 h0)))
   (Rg.ax (Rg.plain rfl (F7 cz.step cz.size rfl (En (by intro j hj; simp at hj; (repeat' (first | (rcases hj with rfl | hj))) <;> first | (subst hj; rfl) | rfl))))
   Rg.jc))) ?_
 intro v V2 hG2 hv hne
 clear hne
 simp only [Rg.puts, List.take_succ_cons, List.take_zero, List.drop_succ_cons, List.drop_zero, Act.put, List.setIfInBounds_toArray, List.set_cons_zero, List.set_cons_succ]
 obtain ⟨a1e, a0q, azx, azf, a1d, a0p, azw, aze, e1, f1⟩ := (show ek (Rat.divInt (n * g / d) 1) V2 (v 1) from hv 1 (by decide))
 obtain ⟨Ag, e2, Y5, hz2⟩ := (show Cv U1.heap.size V2 (v 2) from hv 2 (by decide))
 simp only [e1, e2]
 have hO := hG2.1
 replace hO := Own.add (aa HO) hG2.2 Y5 hz2
 obtain ⟨-, _, _, _, _, _, _, _, _, hz, -⟩ := hO.box (Ag) (0) (List.Mem.head _)
 have Nr := ag hz 0
 have N8 := ah hz 0
 have Np := ag hz 1
 have Nz := ah hz 1
 have Nl := ag hz 2
 have Nw := ah hz 2
 have Nj := ag hz 3
 have Nu := ah hz 3
 have Oi := lt_of_block hz
 clear hz
 go_upto_region 3 with fail
 replace hO := Own.set (xs := []) (ys := [(Ci, Rat.divInt (n * g) d), (w.heap.size + 1, 0), (w.heap.size, Rat.divInt n d)]) hO f1
 unfold Cf at hO
 generalize (((V2.setCell ⟨Ag, 0, none⟩ (.slice a1e azx.length a0q)).setCell ⟨Ag, 1, none⟩ (.bool azf)).setCell ⟨Ag, 2, none⟩ (.slice a1d azw.length a0p)).setCell ⟨Ag, 3, none⟩ (.bool aze) = U2 at *
 try clear Nr N8 Np Nz Nl Nw Nj Nu hG2
 try clear e1 e2 f1 Y5 hz2 Oi
 try clear hv
 replace HO := hide hO
 clear hO
 go_upto_region 3 with fail
 refine Rg.tq 6 38 (Rg.pick [ek (Rat.divInt (n * g) d), ek (Rat.divInt (n * g / d) 1), ek (Rat.divInt (n * g - n * g / d * d) d), ek (Rat.divInt 1 2), Rg.ji (.int .i64 (gm ((n * g - n * g / d * d) * 2 - 1 * d))), Rg.ji (.int .i64 (gm ((n * g - n * g / d * d) * 2 - 1 * d)))]) (cz w [(Ag, Rat.divInt (n * g / d) 1), (Ci, Rat.divInt (n * g) d), (w.heap.size + 1, 0), (w.heap.size, Rat.divInt n d)] U2) og [] kr rfl (Rg.oo.pick ⟨df _, df _, df _, df _, Rg.fw _, Rg.fw _, trivial⟩) (cz.begin (aa HO))
  (Rg.ax (Rg.plain rfl (gy rfl (Rg.ja kr rfl) (fun W h => cz.box (List.Mem.tail _ (List.Mem.head _)) h) rfl))
   (Rg.ax (Rg.plain rfl (gy rfl (Rg.ja kr rfl) (fun W h => cz.box (List.Mem.head _) h) rfl))
   (Rg.ax (Rg.plain rfl (jh Tryz.func44 kr rfl cz.step (Rg.dw 0 kr) (Rg.dw 1 kr) (fun W v0 v1 hG h0 h1 => adk (aa RF).Bp (aa RF).BD (by have := (aa RF).D0; omega) (aa RF).Bq W v0 v1 h0 h1)))
   (Rg.ax (Rg.plain rfl (jh Tryz.func110 kr rfl cz.step (Rg.yf _) (Rg.yf _) (fun W v0 v1 hG h0 h1 => by cases h0; cases h1; exact aef 1 2 om om om om om W)))
   (Rg.ax (Rg.plain rfl (jh Tryz.func64 kr rfl cz.step (Rg.dw 2 kr) (Rg.dw 3 kr) (fun W v0 v1 hG h0 h1 => Qu (aa RF).Bs (aa RF).BD Xc bd2 (aa RF).D0 om W v0 v1 h0 h1)))
   (Rg.ax (Rg.plain rfl (xc rfl (Rg.dw 4 kr)))
   Rg.jc)))))) ?_
 intro v V3 hG3 hv hne
 clear hne
 simp only [Rg.puts, List.take_succ_cons, List.take_zero, List.drop_succ_cons, List.drop_zero, Act.put, List.setIfInBounds_toArray, List.set_cons_zero, List.set_cons_succ]
 have e5 : v 5 = .int .i64 (gm ((n * g - n * g / d * d) * 2 - 1 * d)) := hv 5 (by decide)
 simp only [e5]
 have hO := hG3.1
 clear hG3
 try clear e5
 try clear hv
 replace HO := hide hO
 clear hO
 by_cases h0 : 0 < ((n * g - n * g / d * d) * 2 - 1 * d)
 ·
  have hr : rr = n * g / d + 1 := by have h9 := aa HRR; rw [h9]; unfold D8; rw [if_pos om]
  clear HRR
  subst hr
  have d1 : decide (0 < gm ((n * g - n * g / d * d) * 2 - 1 * d)) = true := Uw h0
  go_upto_region 4 with fail
  refine Rg.tq 3 38 (Rg.pick [Rg.ji (.int .i64 (gm ((n * g - n * g / d * d) * 2 - 1 * d))), Rg.ji (.bool (true)), Rg.ji (.bool (true))]) (cz w [(Ag, Rat.divInt (n * g / d) 1), (Ci, Rat.divInt (n * g) d), (w.heap.size + 1, 0), (w.heap.size, Rat.divInt n d)] V3) og [] kr rfl (Rg.oo.pick ⟨Rg.fw _, Rg.fw _, Rg.fw _, trivial⟩) (cz.begin (aa HO))
   (Rg.ax (Rg.plain rfl (u7 rfl (Rg.ja kr rfl)))
    (Rg.ax (Rg.plain rfl (Hu rfl (Rg.dw 0 kr) (Rg.yf _) rfl d1))
    (Rg.ax (Rg.plain rfl (xc rfl (Rg.dw 1 kr)))
    Rg.jc))) ?_
  intro v V4 hG4 hv hne
  clear hne
  simp only [Rg.puts, List.take_succ_cons, List.take_zero, List.drop_succ_cons, List.drop_zero, Act.put, List.setIfInBounds_toArray, List.set_cons_zero, List.set_cons_succ]
  have e2 : v 2 = .bool (true) := hv 2 (by decide)
  simp only [e2]
  have hO := hG4.1
  clear hG4
  try clear e2
  try clear hv
  replace HO := hide hO
  clear hO
  clear d1 h0
  go_upto_region 6 with fail
  refine Rg.region 3 38 (Rg.pick [ek (Rat.divInt (n * g / d) 1), ek (Rat.divInt (1) 1), ek (Rat.divInt (n * g / d + 1) 1)]) (cz w [(Ag, Rat.divInt (n * g / d) 1), (Ci, Rat.divInt (n * g) d), (w.heap.size + 1, 0), (w.heap.size, Rat.divInt n d)] V4) og [] kr kr rfl (Rg.oo.pick ⟨df _, df _, df _, trivial⟩) (cz.start (aa HO))
   (Rg.ax (Rg.plain rfl (gy rfl (Rg.ja kr rfl) (fun W h => cz.box (List.Mem.head _) h) rfl))
    (Rg.ax (Rg.plain rfl (kz Tryz.func72 kr rfl cz.step (Rg.yf _) (fun W v0 hG h0 => by cases h0; exact Gs 1 om om W)))
    (Rg.ax (Rg.plain rfl (jh Tryz.func43 kr rfl cz.step (Rg.dw 0 kr) (Rg.dw 1 kr) (fun W v0 v1 hG h0 h1 => F8 (aa RF).Bq Xc W v0 v1 h0 h1)))
    Rg.jc))) ?_
  intro v V5 zy hv hne
  clear hne
  simp only [Rg.puts, List.take_succ_cons, List.take_zero, List.drop_succ_cons, List.drop_zero, Act.put, List.setIfInBounds_toArray, List.set_cons_zero, List.set_cons_succ]
  obtain ⟨a08, a0k, azr, ay9, a07, a0j, azq, ay8, e2, f2⟩ := (show ek (Rat.divInt (n * g / d + 1) 1) V5 (v 2) from hv 2 (by decide))
  simp only [e2]
  have hO := zy.1
  obtain ⟨-, _, _, _, _, _, _, _, _, hz, -⟩ := hO.box (Ag) (Rat.divInt (n * g / d) 1) (List.Mem.head _)
  have Nr := ag hz 0
  have N8 := ah hz 0
  have Np := ag hz 1
  have Nz := ah hz 1
  have Nl := ag hz 2
  have Nw := ah hz 2
  have Nj := ag hz 3
  have Nu := ah hz 3
  have Oi := lt_of_block hz
  clear hz
  go_upto_region 7 with fail
  replace hO := Own.set (xs := []) (ys := [(Ci, Rat.divInt (n * g) d), (w.heap.size + 1, 0), (w.heap.size, Rat.divInt n d)]) hO f2
  unfold Cf at hO
  generalize (((V5.setCell ⟨Ag, 0, none⟩ (.slice a08 azr.length a0k)).setCell ⟨Ag, 1, none⟩ (.bool ay9)).setCell ⟨Ag, 2, none⟩ (.slice a07 azq.length a0j)).setCell ⟨Ag, 3, none⟩ (.bool ay8) = U5 at *
  try clear Nr N8 Np Nz Nl Nw Nj Nu zy
  try clear e2 f2 Oi
  try clear hv
  replace HO := hide hO
  clear hO
  go_upto_region 7 with fail
  refine Rg.region 4 38 (Rg.pick [ek (Rat.divInt (n * g / d + 1) 1), Rg.ji (.int .i64 g), ek (Rat.divInt (g) 1), ek (Rat.divInt (n * g / d + 1) g)]) (cz w [(Ag, Rat.divInt (n * g / d + 1) 1), (Ci, Rat.divInt (n * g) d), (w.heap.size + 1, 0), (w.heap.size, Rat.divInt n d)] U5) og [] kr kr rfl (Rg.oo.pick ⟨df _, Rg.fw _, df _, df _, trivial⟩) (cz.start (aa HO))
   (Rg.ax (Rg.plain rfl (gy rfl (Rg.ja kr rfl) (fun W h => cz.box (List.Mem.head _) h) rfl))
    (Rg.ax (Rg.plain rfl (u7 rfl (Rg.ja kr rfl)))
    (Rg.ax (Rg.plain rfl (kz Tryz.func72 kr rfl cz.step (Rg.dw 1 kr) (fun W v0 hG h0 => by cases h0; exact Gs g om om W)))
    (Rg.ax (Rg.plain rfl (jh Tryz.func47 kr rfl cz.step (Rg.dw 0 kr) (Rg.dw 2 kr) (fun W v0 v1 hG h0 h1 => Lu (aa RF).Bq1 (aa RF).Bg (by have := (aa RF).g0; omega) W v0 v1 h0 h1)))
    Rg.jc)))) ?_
  intro v V6 Cm hv hne
  clear hne
  simp only [Rg.puts, List.take_succ_cons, List.take_zero, List.drop_succ_cons, List.drop_zero, Act.put, List.setIfInBounds_toArray, List.set_cons_zero, List.set_cons_succ]
  obtain ⟨Xp, Wy, Vo, Vh, Xo, Wx, Vn, Vg, e3, f3⟩ := (show ek (Rat.divInt (n * g / d + 1) g) V6 (v 3) from hv 3 (by decide))
  simp only [e3]
  have hO := Cm.1
  obtain ⟨-, _, _, _, _, _, _, _, _, hz, -⟩ := hO.box (w.heap.size + 1) (0) (List.Mem.tail _ (List.Mem.tail _ (List.Mem.head _)))
  have iw := ag hz 0
  have uh := ah hz 0
  have iq := ag hz 1
  have ug := ah hz 1
  have il := ag hz 2
  have uf := ah hz 2
  have ik := ag hz 3
  have tu := ah hz 3
  have iy := lt_of_block hz
  clear hz
  go_wp2_with fail
  replace hO := Own.set (xs := [(Ag, Rat.divInt (n * g / d + 1) 1), (Ci, Rat.divInt (n * g) d)]) (ys := [(w.heap.size, Rat.divInt n d)]) hO f3
  unfold Cf at hO
  generalize (((V6.setCell ⟨w.heap.size + 1, 0, none⟩ (.slice Xp Vo.length Wy)).setCell ⟨w.heap.size + 1, 1, none⟩ (.bool Vh)).setCell ⟨w.heap.size + 1, 2, none⟩ (.slice Xo Vn.length Wx)).setCell ⟨w.heap.size + 1, 3, none⟩ (.bool Vg) = U6 at *
  try clear iw uh iq ug il uf ik tu Cm
  try clear e3 f3 iy
  try clear hv
  replace HO := hide hO
  clear hO
  obtain ⟨ui, ni, mo, ma, mg, mq, mi, lv, mf, dh, mh⟩ := (aa HO).box _ _ (List.Mem.tail _ (List.Mem.tail _ (List.Mem.head _)))
  have iw := ag dh 0
  have iq := ag dh 1
  have il := ag dh 2
  have ik := ag dh 3
  have iy := lt_of_block dh
  clear dh ui
  go_wp2_with fail
  exact bodyPost_ret (v := .agg #[.slice ni ma.length mo, .bool mg, .slice mq lv.length mi, .bool mf]) (by simp [results, Tryz.results59, go_sem, iw, iq, il, ik, iy]) rfl
   ⟨_, rfl, (aa HO).bel, ⟨_, _, _, _, _, _, _, _, rfl, mh⟩⟩
 ·
  by_cases h1 : ((n * g - n * g / d * d) * 2 - 1 * d) = 0
  ·
   by_cases h2 : (n * g / d).tmod 2 = 0
   ·
    have hr : rr = n * g / d := by have h9 := aa HRR; rw [h9]; unfold D8; rw [if_neg om]
    clear HRR
    subst hr
    have d1 : decide (0 < gm ((n * g - n * g / d * d) * 2 - 1 * d)) = false := Ld h0
    have d2 : (gm ((n * g - n * g / d * d) * 2 - 1 * d) == 0) = true := Ob h1
    have d3 : true = decide (((Rat.divInt (n * g / d) 1 * Rat.divInt 1 2).den : Int) = 1) := by rw [decide_eq_true]; exact Wd.ad6.2 h2
    go_upto_region 4 with fail
    refine Rg.tq 3 38 (Rg.pick [Rg.ji (.int .i64 (gm ((n * g - n * g / d * d) * 2 - 1 * d))), Rg.ji (.bool (false)), Rg.ji (.bool (false))]) (cz w [(Ag, Rat.divInt (n * g / d) 1), (Ci, Rat.divInt (n * g) d), (w.heap.size + 1, 0), (w.heap.size, Rat.divInt n d)] V3) og [] kr rfl (Rg.oo.pick ⟨Rg.fw _, Rg.fw _, Rg.fw _, trivial⟩) (cz.begin (aa HO))
     (Rg.ax (Rg.plain rfl (u7 rfl (Rg.ja kr rfl)))
      (Rg.ax (Rg.plain rfl (Hu rfl (Rg.dw 0 kr) (Rg.yf _) rfl d1))
      (Rg.ax (Rg.plain rfl (xc rfl (Rg.dw 1 kr)))
      Rg.jc))) ?_
    intro v V4 hG4 hv hne
    clear hne
    simp only [Rg.puts, List.take_succ_cons, List.take_zero, List.drop_succ_cons, List.drop_zero, Act.put, List.setIfInBounds_toArray, List.set_cons_zero, List.set_cons_succ]
    have e2 : v 2 = .bool (false) := hv 2 (by decide)
    simp only [e2]
    have hO := hG4.1
    clear hG4
    try clear e2
    try clear hv
    replace HO := hide hO
    clear hO
    go_upto_region 5 with fail
    refine Rg.region 10 38 (Rg.pick [Rg.ji (.int .i64 (gm ((n * g - n * g / d * d) * 2 - 1 * d))), Rg.ji (.bool (true)), Rg.ji (.bool (true)), ek (Rat.divInt (n * g / d) 1), ek (Rat.divInt 1 2), ek (Rat.divInt (n * g / d) 1 * Rat.divInt 1 2), Rg.ji (.bool true), Rg.ji (.bool (false)), Rg.ji (.bool false), Rg.ji (.bool false)]) (cz w [(Ag, Rat.divInt (n * g / d) 1), (Ci, Rat.divInt (n * g) d), (w.heap.size + 1, 0), (w.heap.size, Rat.divInt n d)] V4) og [] kr kr rfl (Rg.oo.pick ⟨Rg.fw _, Rg.fw _, Rg.fw _, df _, df _, df _, Rg.fw _, Rg.fw _, Rg.fw _, Rg.fw _, trivial⟩) (cz.start (aa HO))
     (Rg.ax (Rg.plain rfl (u7 rfl (Rg.ja kr rfl)))
      (Rg.ax (Rg.plain rfl (Jv rfl (Rg.dw 0 kr) (Rg.yf _) rfl d2))
      (Rg.ax (Rg.plain rfl (u7 rfl (Rg.dw 1 kr)))
      (Rg.ax (Rg.Di (d := 24) rfl kr rfl (gy rfl (Rg.ja kr rfl) (fun W h => cz.box (List.Mem.head _) h) rfl))
      (Rg.ax (Rg.Di (d := 24) rfl kr rfl (jh Tryz.func110 kr rfl cz.step (Rg.yf _) (Rg.yf _) (fun W v0 v1 hG h0 h1 => by cases h0; cases h1; exact aef 1 2 om om om om om W)))
      (Rg.ax (Rg.Di (d := 24) rfl kr rfl (jh Tryz.func45 kr rfl cz.step (Rg.dw 3 kr) (Rg.dw 4 kr) (fun W v0 v1 hG h0 h1 => aa1 (K := 4) (aa RF).Bq.Lj (Xc.Li bd2 om) om W v0 v1 h0 h1)))
      (Rg.ax (Rg.Di (d := 24) rfl kr rfl (kz Tryz.func109 kr rfl cz.step (Rg.dw 5 kr) (fun W v0 hG h0 => agb d3 W v0 h0)))
      (Rg.ax (Rg.Di (d := 24) rfl kr rfl (aqf rfl (Rg.dw 6 kr) rfl rfl))
      (Rg.ax (Rg.plain rfl (acs rfl (Rg.dw 2 kr) (Rg.dw 7 kr)))
      (Rg.ax (Rg.plain rfl (xc rfl (Rg.dw 8 kr)))
      Rg.jc)))))))))) ?_
    intro v V5 zy hv hne
    clear hne
    simp only [Rg.puts, List.take_succ_cons, List.take_zero, List.drop_succ_cons, List.drop_zero, Act.put, List.setIfInBounds_toArray, List.set_cons_zero, List.set_cons_succ]
    have e9 : v 9 = .bool false := hv 9 (by decide)
    simp only [e9]
    have hO := zy.1
    clear zy
    try clear e9
    try clear hv
    replace HO := hide hO
    clear hO
    clear d1 d2 d3 h0 h1 h2
    go_upto_region 7 with fail
    refine Rg.region 4 38 (Rg.pick [ek (Rat.divInt (n * g / d) 1), Rg.ji (.int .i64 g), ek (Rat.divInt (g) 1), ek (Rat.divInt (n * g / d) g)]) (cz w [(Ag, Rat.divInt (n * g / d) 1), (Ci, Rat.divInt (n * g) d), (w.heap.size + 1, 0), (w.heap.size, Rat.divInt n d)] V5) og [] kr kr rfl (Rg.oo.pick ⟨df _, Rg.fw _, df _, df _, trivial⟩) (cz.start (aa HO))
     (Rg.ax (Rg.plain rfl (gy rfl (Rg.ja kr rfl) (fun W h => cz.box (List.Mem.head _) h) rfl))
      (Rg.ax (Rg.plain rfl (u7 rfl (Rg.ja kr rfl)))
      (Rg.ax (Rg.plain rfl (kz Tryz.func72 kr rfl cz.step (Rg.dw 1 kr) (fun W v0 hG h0 => by cases h0; exact Gs g om om W)))
      (Rg.ax (Rg.plain rfl (jh Tryz.func47 kr rfl cz.step (Rg.dw 0 kr) (Rg.dw 2 kr) (fun W v0 v1 hG h0 h1 => Lu (aa RF).Bq (aa RF).Bg (by have := (aa RF).g0; omega) W v0 v1 h0 h1)))
      Rg.jc)))) ?_
    intro v V6 Cm hv hne
    clear hne
    simp only [Rg.puts, List.take_succ_cons, List.take_zero, List.drop_succ_cons, List.drop_zero, Act.put, List.setIfInBounds_toArray, List.set_cons_zero, List.set_cons_succ]
    obtain ⟨Xp, Wy, Vo, Vh, Xo, Wx, Vn, Vg, e3, f3⟩ := (show ek (Rat.divInt (n * g / d) g) V6 (v 3) from hv 3 (by decide))
    simp only [e3]
    have hO := Cm.1
    obtain ⟨-, _, _, _, _, _, _, _, _, hz, -⟩ := hO.box (w.heap.size + 1) (0) (List.Mem.tail _ (List.Mem.tail _ (List.Mem.head _)))
    have iw := ag hz 0
    have uh := ah hz 0
    have iq := ag hz 1
    have ug := ah hz 1
    have il := ag hz 2
    have uf := ah hz 2
    have ik := ag hz 3
    have tu := ah hz 3
    have iy := lt_of_block hz
    clear hz
    go_wp2_with fail
    replace hO := Own.set (xs := [(Ag, Rat.divInt (n * g / d) 1), (Ci, Rat.divInt (n * g) d)]) (ys := [(w.heap.size, Rat.divInt n d)]) hO f3
    unfold Cf at hO
    generalize (((V6.setCell ⟨w.heap.size + 1, 0, none⟩ (.slice Xp Vo.length Wy)).setCell ⟨w.heap.size + 1, 1, none⟩ (.bool Vh)).setCell ⟨w.heap.size + 1, 2, none⟩ (.slice Xo Vn.length Wx)).setCell ⟨w.heap.size + 1, 3, none⟩ (.bool Vg) = U6 at *
    try clear iw uh iq ug il uf ik tu Cm
    try clear e3 f3 iy
    try clear hv
    replace HO := hide hO
    clear hO
    obtain ⟨ui, ni, mo, ma, mg, mq, mi, lv, mf, dh, mh⟩ := (aa HO).box _ _ (List.Mem.tail _ (List.Mem.tail _ (List.Mem.head _)))
    have iw := ag dh 0
    have iq := ag dh 1
    have il := ag dh 2
    have ik := ag dh 3
    have iy := lt_of_block dh
    clear dh ui
    go_wp2_with fail
    exact bodyPost_ret (v := .agg #[.slice ni ma.length mo, .bool mg, .slice mq lv.length mi, .bool mf]) (by simp [results, Tryz.results59, go_sem, iw, iq, il, ik, iy]) rfl
     ⟨_, rfl, (aa HO).bel, ⟨_, _, _, _, _, _, _, _, rfl, mh⟩⟩
   ·
    have hr : rr = n * g / d + 1 := by have h9 := aa HRR; rw [h9]; unfold D8; rw [if_pos om]
    clear HRR
    subst hr
    have d1 : decide (0 < gm ((n * g - n * g / d * d) * 2 - 1 * d)) = false := Ld h0
    have d2 : (gm ((n * g - n * g / d * d) * 2 - 1 * d) == 0) = true := Ob h1
    have d3 : false = decide (((Rat.divInt (n * g / d) 1 * Rat.divInt 1 2).den : Int) = 1) := by rw [decide_eq_false]; exact fun h => h2 (Wd.ad6.1 h)
    go_upto_region 4 with fail
    refine Rg.tq 3 38 (Rg.pick [Rg.ji (.int .i64 (gm ((n * g - n * g / d * d) * 2 - 1 * d))), Rg.ji (.bool (false)), Rg.ji (.bool (false))]) (cz w [(Ag, Rat.divInt (n * g / d) 1), (Ci, Rat.divInt (n * g) d), (w.heap.size + 1, 0), (w.heap.size, Rat.divInt n d)] V3) og [] kr rfl (Rg.oo.pick ⟨Rg.fw _, Rg.fw _, Rg.fw _, trivial⟩) (cz.begin (aa HO))
     (Rg.ax (Rg.plain rfl (u7 rfl (Rg.ja kr rfl)))
      (Rg.ax (Rg.plain rfl (Hu rfl (Rg.dw 0 kr) (Rg.yf _) rfl d1))
      (Rg.ax (Rg.plain rfl (xc rfl (Rg.dw 1 kr)))
      Rg.jc))) ?_
    intro v V4 hG4 hv hne
    clear hne
    simp only [Rg.puts, List.take_succ_cons, List.take_zero, List.drop_succ_cons, List.drop_zero, Act.put, List.setIfInBounds_toArray, List.set_cons_zero, List.set_cons_succ]
    have e2 : v 2 = .bool (false) := hv 2 (by decide)
    simp only [e2]
    have hO := hG4.1
    clear hG4
    try clear e2
    try clear hv
    replace HO := hide hO
    clear hO
    go_upto_region 5 with fail
    refine Rg.region 10 38 (Rg.pick [Rg.ji (.int .i64 (gm ((n * g - n * g / d * d) * 2 - 1 * d))), Rg.ji (.bool (true)), Rg.ji (.bool (true)), ek (Rat.divInt (n * g / d) 1), ek (Rat.divInt 1 2), ek (Rat.divInt (n * g / d) 1 * Rat.divInt 1 2), Rg.ji (.bool false), Rg.ji (.bool (true)), Rg.ji (.bool true), Rg.ji (.bool true)]) (cz w [(Ag, Rat.divInt (n * g / d) 1), (Ci, Rat.divInt (n * g) d), (w.heap.size + 1, 0), (w.heap.size, Rat.divInt n d)] V4) og [] kr kr rfl (Rg.oo.pick ⟨Rg.fw _, Rg.fw _, Rg.fw _, df _, df _, df _, Rg.fw _, Rg.fw _, Rg.fw _, Rg.fw _, trivial⟩) (cz.start (aa HO))
     (Rg.ax (Rg.plain rfl (u7 rfl (Rg.ja kr rfl)))
      (Rg.ax (Rg.plain rfl (Jv rfl (Rg.dw 0 kr) (Rg.yf _) rfl d2))
      (Rg.ax (Rg.plain rfl (u7 rfl (Rg.dw 1 kr)))
      (Rg.ax (Rg.Di (d := 24) rfl kr rfl (gy rfl (Rg.ja kr rfl) (fun W h => cz.box (List.Mem.head _) h) rfl))
      (Rg.ax (Rg.Di (d := 24) rfl kr rfl (jh Tryz.func110 kr rfl cz.step (Rg.yf _) (Rg.yf _) (fun W v0 v1 hG h0 h1 => by cases h0; cases h1; exact aef 1 2 om om om om om W)))
      (Rg.ax (Rg.Di (d := 24) rfl kr rfl (jh Tryz.func45 kr rfl cz.step (Rg.dw 3 kr) (Rg.dw 4 kr) (fun W v0 v1 hG h0 h1 => aa1 (K := 4) (aa RF).Bq.Lj (Xc.Li bd2 om) om W v0 v1 h0 h1)))
      (Rg.ax (Rg.Di (d := 24) rfl kr rfl (kz Tryz.func109 kr rfl cz.step (Rg.dw 5 kr) (fun W v0 hG h0 => agb d3 W v0 h0)))
      (Rg.ax (Rg.Di (d := 24) rfl kr rfl (aqf rfl (Rg.dw 6 kr) rfl rfl))
      (Rg.ax (Rg.plain rfl (acs rfl (Rg.dw 2 kr) (Rg.dw 7 kr)))
      (Rg.ax (Rg.plain rfl (xc rfl (Rg.dw 8 kr)))
      Rg.jc)))))))))) ?_
    intro v V5 zy hv hne
    clear hne
    simp only [Rg.puts, List.take_succ_cons, List.take_zero, List.drop_succ_cons, List.drop_zero, Act.put, List.setIfInBounds_toArray, List.set_cons_zero, List.set_cons_succ]
    have e9 : v 9 = .bool true := hv 9 (by decide)
    simp only [e9]
    have hO := zy.1
    clear zy
    try clear e9
    try clear hv
    replace HO := hide hO
    clear hO
    clear d1 d2 d3 h0 h1 h2
    go_upto_region 6 with fail
    refine Rg.region 3 38 (Rg.pick [ek (Rat.divInt (n * g / d) 1), ek (Rat.divInt (1) 1), ek (Rat.divInt (n * g / d + 1) 1)]) (cz w [(Ag, Rat.divInt (n * g / d) 1), (Ci, Rat.divInt (n * g) d), (w.heap.size + 1, 0), (w.heap.size, Rat.divInt n d)] V5) og [] kr kr rfl (Rg.oo.pick ⟨df _, df _, df _, trivial⟩) (cz.start (aa HO))
     (Rg.ax (Rg.plain rfl (gy rfl (Rg.ja kr rfl) (fun W h => cz.box (List.Mem.head _) h) rfl))
      (Rg.ax (Rg.plain rfl (kz Tryz.func72 kr rfl cz.step (Rg.yf _) (fun W v0 hG h0 => by cases h0; exact Gs 1 om om W)))
      (Rg.ax (Rg.plain rfl (jh Tryz.func43 kr rfl cz.step (Rg.dw 0 kr) (Rg.dw 1 kr) (fun W v0 v1 hG h0 h1 => F8 (aa RF).Bq Xc W v0 v1 h0 h1)))
      Rg.jc))) ?_
    intro v V6 Cm hv hne
    clear hne
    simp only [Rg.puts, List.take_succ_cons, List.take_zero, List.drop_succ_cons, List.drop_zero, Act.put, List.setIfInBounds_toArray, List.set_cons_zero, List.set_cons_succ]
    obtain ⟨a06, a0i, azp, ay7, a05, a0h, azo, ay6, e2, f2⟩ := (show ek (Rat.divInt (n * g / d + 1) 1) V6 (v 2) from hv 2 (by decide))
    simp only [e2]
    have hO := Cm.1
    obtain ⟨-, _, _, _, _, _, _, _, _, hz, -⟩ := hO.box (Ag) (Rat.divInt (n * g / d) 1) (List.Mem.head _)
    have Nr := ag hz 0
    have N8 := ah hz 0
    have Np := ag hz 1
    have Nz := ah hz 1
    have Nl := ag hz 2
    have Nw := ah hz 2
    have Nj := ag hz 3
    have Nu := ah hz 3
    have Oi := lt_of_block hz
    clear hz
    go_upto_region 7 with fail
    replace hO := Own.set (xs := []) (ys := [(Ci, Rat.divInt (n * g) d), (w.heap.size + 1, 0), (w.heap.size, Rat.divInt n d)]) hO f2
    unfold Cf at hO
    generalize (((V6.setCell ⟨Ag, 0, none⟩ (.slice a06 azp.length a0i)).setCell ⟨Ag, 1, none⟩ (.bool ay7)).setCell ⟨Ag, 2, none⟩ (.slice a05 azo.length a0h)).setCell ⟨Ag, 3, none⟩ (.bool ay6) = U6 at *
    try clear Nr N8 Np Nz Nl Nw Nj Nu Cm
    try clear e2 f2 Oi
    try clear hv
    replace HO := hide hO
    clear hO
    go_upto_region 7 with fail
    refine Rg.region 4 38 (Rg.pick [ek (Rat.divInt (n * g / d + 1) 1), Rg.ji (.int .i64 g), ek (Rat.divInt (g) 1), ek (Rat.divInt (n * g / d + 1) g)]) (cz w [(Ag, Rat.divInt (n * g / d + 1) 1), (Ci, Rat.divInt (n * g) d), (w.heap.size + 1, 0), (w.heap.size, Rat.divInt n d)] U6) og [] kr kr rfl (Rg.oo.pick ⟨df _, Rg.fw _, df _, df _, trivial⟩) (cz.start (aa HO))
     (Rg.ax (Rg.plain rfl (gy rfl (Rg.ja kr rfl) (fun W h => cz.box (List.Mem.head _) h) rfl))
      (Rg.ax (Rg.plain rfl (u7 rfl (Rg.ja kr rfl)))
      (Rg.ax (Rg.plain rfl (kz Tryz.func72 kr rfl cz.step (Rg.dw 1 kr) (fun W v0 hG h0 => by cases h0; exact Gs g om om W)))
      (Rg.ax (Rg.plain rfl (jh Tryz.func47 kr rfl cz.step (Rg.dw 0 kr) (Rg.dw 2 kr) (fun W v0 v1 hG h0 h1 => Lu (aa RF).Bq1 (aa RF).Bg (by have := (aa RF).g0; omega) W v0 v1 h0 h1)))
      Rg.jc)))) ?_
    intro v V7 hG7 hv hne
    clear hne
    simp only [Rg.puts, List.take_succ_cons, List.take_zero, List.drop_succ_cons, List.drop_zero, Act.put, List.setIfInBounds_toArray, List.set_cons_zero, List.set_cons_succ]
    obtain ⟨a02, a0e, azl, ay3, a01, a0d, azk, ay2, e3, f3⟩ := (show ek (Rat.divInt (n * g / d + 1) g) V7 (v 3) from hv 3 (by decide))
    simp only [e3]
    have hO := hG7.1
    obtain ⟨-, _, _, _, _, _, _, _, _, hz, -⟩ := hO.box (w.heap.size + 1) (0) (List.Mem.tail _ (List.Mem.tail _ (List.Mem.head _)))
    have iw := ag hz 0
    have uh := ah hz 0
    have iq := ag hz 1
    have ug := ah hz 1
    have il := ag hz 2
    have uf := ah hz 2
    have ik := ag hz 3
    have tu := ah hz 3
    have iy := lt_of_block hz
    clear hz
    go_wp2_with fail
    replace hO := Own.set (xs := [(Ag, Rat.divInt (n * g / d + 1) 1), (Ci, Rat.divInt (n * g) d)]) (ys := [(w.heap.size, Rat.divInt n d)]) hO f3
    unfold Cf at hO
    generalize (((V7.setCell ⟨w.heap.size + 1, 0, none⟩ (.slice a02 azl.length a0e)).setCell ⟨w.heap.size + 1, 1, none⟩ (.bool ay3)).setCell ⟨w.heap.size + 1, 2, none⟩ (.slice a01 azk.length a0d)).setCell ⟨w.heap.size + 1, 3, none⟩ (.bool ay2) = U7 at *
    try clear iw uh iq ug il uf ik tu hG7
    try clear e3 f3 iy
    try clear hv
    replace HO := hide hO
    clear hO
    obtain ⟨ui, ni, mo, ma, mg, mq, mi, lv, mf, dh, mh⟩ := (aa HO).box _ _ (List.Mem.tail _ (List.Mem.tail _ (List.Mem.head _)))
    have iw := ag dh 0
    have iq := ag dh 1
    have il := ag dh 2
    have ik := ag dh 3
    have iy := lt_of_block dh
    clear dh ui
    go_wp2_with fail
    exact bodyPost_ret (v := .agg #[.slice ni ma.length mo, .bool mg, .slice mq lv.length mi, .bool mf]) (by simp [results, Tryz.results59, go_sem, iw, iq, il, ik, iy]) rfl
     ⟨_, rfl, (aa HO).bel, ⟨_, _, _, _, _, _, _, _, rfl, mh⟩⟩
  ·
   have hr : rr = n * g / d := by have h9 := aa HRR; rw [h9]; unfold D8; rw [if_neg om]
   clear HRR
   subst hr
   have d1 : decide (0 < gm ((n * g - n * g / d * d) * 2 - 1 * d)) = false := Ld h0
   have d2 : (gm ((n * g - n * g / d * d) * 2 - 1 * d) == 0) = false := Oa h1
   go_upto_region 4 with fail
   refine Rg.tq 3 38 (Rg.pick [Rg.ji (.int .i64 (gm ((n * g - n * g / d * d) * 2 - 1 * d))), Rg.ji (.bool (false)), Rg.ji (.bool (false))]) (cz w [(Ag, Rat.divInt (n * g / d) 1), (Ci, Rat.divInt (n * g) d), (w.heap.size + 1, 0), (w.heap.size, Rat.divInt n d)] V3) og [] kr rfl (Rg.oo.pick ⟨Rg.fw _, Rg.fw _, Rg.fw _, trivial⟩) (cz.begin (aa HO))
    (Rg.ax (Rg.plain rfl (u7 rfl (Rg.ja kr rfl)))
     (Rg.ax (Rg.plain rfl (Hu rfl (Rg.dw 0 kr) (Rg.yf _) rfl d1))
     (Rg.ax (Rg.plain rfl (xc rfl (Rg.dw 1 kr)))
     Rg.jc))) ?_
   intro v V4 hG4 hv hne
   clear hne
   simp only [Rg.puts, List.take_succ_cons, List.take_zero, List.drop_succ_cons, List.drop_zero, Act.put, List.setIfInBounds_toArray, List.set_cons_zero, List.set_cons_succ]
   have e2 : v 2 = .bool (false) := hv 2 (by decide)
   simp only [e2]
   have hO := hG4.1
   clear hG4
   try clear e2
   try clear hv
   replace HO := hide hO
   clear hO
   go_upto_region 5 with fail
   refine Rg.region 10 38 (Rg.pick [Rg.ji (.int .i64 (gm ((n * g - n * g / d * d) * 2 - 1 * d))), Rg.ji (.bool (false)), Rg.ji (.bool (false)), Rg.ji undef, Rg.ji undef, Rg.ji undef, Rg.ji undef, Rg.ji undef, Rg.ji (.bool false), Rg.ji (.bool false)]) (cz w [(Ag, Rat.divInt (n * g / d) 1), (Ci, Rat.divInt (n * g) d), (w.heap.size + 1, 0), (w.heap.size, Rat.divInt n d)] V4) og [] kr kr rfl (Rg.oo.pick ⟨Rg.fw _, Rg.fw _, Rg.fw _, Rg.fw _, Rg.fw _, Rg.fw _, Rg.fw _, Rg.fw _, Rg.fw _, Rg.fw _, trivial⟩) (cz.start (aa HO))
    (Rg.ax (Rg.plain rfl (u7 rfl (Rg.ja kr rfl)))
     (Rg.ax (Rg.plain rfl (Jv rfl (Rg.dw 0 kr) (Rg.yf _) rfl d2))
     (Rg.ax (Rg.plain rfl (u7 rfl (Rg.dw 1 kr)))
     (Rg.ax (Rg.Me (d := 24) rfl kr rfl rfl Mi rfl rfl)
     (Rg.ax (Rg.Me (d := 24) rfl kr rfl rfl Mi rfl rfl)
     (Rg.ax (Rg.Me (d := 24) rfl kr rfl rfl Mi rfl rfl)
     (Rg.ax (Rg.Me (d := 24) rfl kr rfl rfl Mi rfl rfl)
     (Rg.ax (Rg.Me (d := 24) rfl kr rfl rfl Mi rfl rfl)
     (Rg.ax (Rg.plain rfl (an2 rfl (Rg.dw 2 kr) (Rg.yf _)))
     (Rg.ax (Rg.plain rfl (xc rfl (Rg.dw 8 kr)))
     Rg.jc)))))))))) ?_
   intro v V5 zy hv hne
   clear hne
   simp only [Rg.puts, List.take_succ_cons, List.take_zero, List.drop_succ_cons, List.drop_zero, Act.put, List.setIfInBounds_toArray, List.set_cons_zero, List.set_cons_succ]
   have e9 : v 9 = .bool false := hv 9 (by decide)
   simp only [e9]
   have hO := zy.1
   clear zy
   try clear e9
   try clear hv
   replace HO := hide hO
   clear hO
   clear d1 d2 h0 h1
   go_upto_region 7 with fail
   refine Rg.region 4 38 (Rg.pick [ek (Rat.divInt (n * g / d) 1), Rg.ji (.int .i64 g), ek (Rat.divInt (g) 1), ek (Rat.divInt (n * g / d) g)]) (cz w [(Ag, Rat.divInt (n * g / d) 1), (Ci, Rat.divInt (n * g) d), (w.heap.size + 1, 0), (w.heap.size, Rat.divInt n d)] V5) og [] kr kr rfl (Rg.oo.pick ⟨df _, Rg.fw _, df _, df _, trivial⟩) (cz.start (aa HO))
    (Rg.ax (Rg.plain rfl (gy rfl (Rg.ja kr rfl) (fun W h => cz.box (List.Mem.head _) h) rfl))
     (Rg.ax (Rg.plain rfl (u7 rfl (Rg.ja kr rfl)))
     (Rg.ax (Rg.plain rfl (kz Tryz.func72 kr rfl cz.step (Rg.dw 1 kr) (fun W v0 hG h0 => by cases h0; exact Gs g om om W)))
     (Rg.ax (Rg.plain rfl (jh Tryz.func47 kr rfl cz.step (Rg.dw 0 kr) (Rg.dw 2 kr) (fun W v0 v1 hG h0 h1 => Lu (aa RF).Bq (aa RF).Bg (by have := (aa RF).g0; omega) W v0 v1 h0 h1)))
     Rg.jc)))) ?_
   intro v V6 Cm hv hne
   clear hne
   simp only [Rg.puts, List.take_succ_cons, List.take_zero, List.drop_succ_cons, List.drop_zero, Act.put, List.setIfInBounds_toArray, List.set_cons_zero, List.set_cons_succ]
   obtain ⟨Xp, Wy, Vo, Vh, Xo, Wx, Vn, Vg, e3, f3⟩ := (show ek (Rat.divInt (n * g / d) g) V6 (v 3) from hv 3 (by decide))
   simp only [e3]
   have hO := Cm.1
   obtain ⟨-, _, _, _, _, _, _, _, _, hz, -⟩ := hO.box (w.heap.size + 1) (0) (List.Mem.tail _ (List.Mem.tail _ (List.Mem.head _)))
   have iw := ag hz 0
   have uh := ah hz 0
   have iq := ag hz 1
   have ug := ah hz 1
   have il := ag hz 2
   have uf := ah hz 2
   have ik := ag hz 3
   have tu := ah hz 3
   have iy := lt_of_block hz
   clear hz
   go_wp2_with fail
   replace hO := Own.set (xs := [(Ag, Rat.divInt (n * g / d) 1), (Ci, Rat.divInt (n * g) d)]) (ys := [(w.heap.size, Rat.divInt n d)]) hO f3
   unfold Cf at hO
   generalize (((V6.setCell ⟨w.heap.size + 1, 0, none⟩ (.slice Xp Vo.length Wy)).setCell ⟨w.heap.size + 1, 1, none⟩ (.bool Vh)).setCell ⟨w.heap.size + 1, 2, none⟩ (.slice Xo Vn.length Wx)).setCell ⟨w.heap.size + 1, 3, none⟩ (.bool Vg) = U6 at *
   try clear iw uh iq ug il uf ik tu Cm
   try clear e3 f3 iy
   try clear hv
   replace HO := hide hO
   clear hO
   obtain ⟨ui, ni, mo, ma, mg, mq, mi, lv, mf, dh, mh⟩ := (aa HO).box _ _ (List.Mem.tail _ (List.Mem.tail _ (List.Mem.head _)))
   have iw := ag dh 0
   have iq := ag dh 1
   have il := ag dh 2
   have ik := ag dh 3
   have iy := lt_of_block dh
   clear dh ui
   go_wp2_with fail
   exact bodyPost_ret (v := .agg #[.slice ni ma.length mo, .bool mg, .slice mq lv.length mi, .bool mf]) (by simp [results, Tryz.results59, go_sem, iw, iq, il, ik, iy]) rfl
    ⟨_, rfl, (aa HO).bel, ⟨_, _, _, _, _, _, _, _, rfl, mh⟩⟩
set_option maxHeartbeats 2000000 in
theorem Zv (g : Int) (b : Bool) (hb : b = decide (1 ≤ g ∧ g ≤ 1000000)) (w : World) : Calls Tryz.prog 58 #[.int .i64 g] w fun e w' => e = .returned (.bool b) ∧ w' = w := by
 by_cases h1 : 1 ≤ g
 ·
  by_cases h2 : g ≤ 1000000
  ·
   obtain rfl : b = true := by rw [hb]; exact decide_eq_true ⟨h1, h2⟩
   have d1 : decide (1 ≤ g) = true := decide_eq_true h1
   have d2 : decide (g ≤ 1000000) = true := decide_eq_true h2
   clear hb h1 h2
   go_enter Tryz.func58, Tryz.ntmps58
   go_wp2
   all_goals first | go_ret | skip
   all_goals exact ⟨rfl, rfl⟩
  ·
   obtain rfl : b = false := by rw [hb]; exact decide_eq_false om
   have d1 : decide (1 ≤ g) = true := decide_eq_true h1
   have d2 : decide (g ≤ 1000000) = false := decide_eq_false h2
   clear hb h1 h2
   go_enter Tryz.func58, Tryz.ntmps58
   go_wp2
   all_goals first | go_ret | skip
   all_goals exact ⟨rfl, rfl⟩
 ·
  obtain rfl : b = false := by rw [hb]; exact decide_eq_false om
  have d1 : decide (1 ≤ g) = false := decide_eq_false h1
  clear hb h1
  go_enter Tryz.func58, Tryz.ntmps58
  go_wp2
  all_goals first | go_ret | skip
  all_goals exact ⟨rfl, rfl⟩
set_option maxHeartbeats 16000000 in
theorem agz (n d g : Int) (w : World) (ok : ¬ Wd.nk n d) :
  Calls Tryz.prog 17 #[.agg #[.int .i64 n, .int .i64 d], .int .i64 g] w fun e w' => Am w (⟨0, 0, 1⟩) e w' := by
 have HV := hide (fun W (hW : Below w.heap.size w W) => Aq n d W)
 rw [decide_eq_false ok] at HV
 clear ok
 go_enter Tryz.func17, Tryz.ntmps17
 go_upto_region 1 with fail
 obtain ⟨np, n0, hsz, hw0⟩ := jm w (.cells #[.int .i64 n, .int .i64 d] 23) (.cells #[.int .i64 0, .int .i64 0] 23)
 generalize ((w.alloc (.cells #[.int .i64 n, .int .i64 d] 23)).alloc (.cells #[.int .i64 0, .int .i64 0] 23)) = W0 at *
 have p0 : W0.cell? ⟨w.heap.size, 0, none⟩ = some (.int .i64 n) := ag np 0
 have p1 : W0.cell? ⟨w.heap.size, 1, none⟩ = some (.int .i64 d) := ag np 1
 have r0 : W0.cell? ⟨w.heap.size + 1, 0, none⟩ = some (.int .i64 0) := ag n0 0
 have r1 : W0.cell? ⟨w.heap.size + 1, 1, none⟩ = some (.int .i64 0) := ag n0 1
 have f0 := ah n0 0; have f1 := ah n0 1
 have qp := lt_of_block np
 have q0 := lt_of_block n0
 clear np n0 hsz
 go_wp2_with fail
 refine ((aa HV) _ (by first | exact hw0 | exact hw0.drew)).mono ?_
 rintro e W1 ⟨rfl, hb⟩
 obtain ⟨hc, hfz⟩ := az hb
 replace p0 := (hc _ _ qp).trans p0
 replace p1 := (hc _ _ qp).trans p1
 replace r0 := (hc _ _ q0).trans r0
 replace r1 := (hc _ _ q0).trans r1
 replace f0 := (hfz _ _ q0).trans f0
 replace f1 := (hfz _ _ q0).trans f1
 replace qp := Nat.lt_of_lt_of_le qp hb.size
 replace q0 := Nat.lt_of_lt_of_le q0 hb.size
 replace hw0 := au hw0 hb
 clear hc hfz
 clear hb
 go_wp2_with fail
 exact bodyPost_ret (v := .tuple #[.agg #[.int .i64 0, .int .i64 0], .int .i64 1]) (by simp [results, Tryz.results17, go_sem, r0, r1, q0]) rfl
  ⟨rfl, hw0.grown (fq _ _ _ _) hw0.size (fun k hk => by injection hk with hk; omega)⟩
set_option maxHeartbeats 16000000 in
theorem agy (n d g : Int) (w : World) (ok : Wd.nk n d) (hg : ¬ (1 ≤ g ∧ g ≤ 1000000)) :
  Calls Tryz.prog 17 #[.agg #[.int .i64 n, .int .i64 d], .int .i64 g] w fun e w' => Am w (⟨0, 0, 1⟩) e w' := by
 have HV := hide (fun W (hW : Below w.heap.size w W) => Aq n d W)
 rw [decide_eq_true ok] at HV
 have HG := hide (fun W => Zv g false (decide_eq_false hg).symm W)
 clear ok hg
 go_enter Tryz.func17, Tryz.ntmps17
 go_upto_region 1 with fail
 obtain ⟨np, n0, hsz, hw0⟩ := jm w (.cells #[.int .i64 n, .int .i64 d] 23) (.cells #[.int .i64 0, .int .i64 0] 23)
 generalize ((w.alloc (.cells #[.int .i64 n, .int .i64 d] 23)).alloc (.cells #[.int .i64 0, .int .i64 0] 23)) = W0 at *
 have p0 : W0.cell? ⟨w.heap.size, 0, none⟩ = some (.int .i64 n) := ag np 0
 have p1 : W0.cell? ⟨w.heap.size, 1, none⟩ = some (.int .i64 d) := ag np 1
 have r0 : W0.cell? ⟨w.heap.size + 1, 0, none⟩ = some (.int .i64 0) := ag n0 0
 have r1 : W0.cell? ⟨w.heap.size + 1, 1, none⟩ = some (.int .i64 0) := ag n0 1
 have f0 := ah n0 0; have f1 := ah n0 1
 have qp := lt_of_block np
 have q0 := lt_of_block n0
 clear np n0 hsz
 go_wp2_with fail
 refine ((aa HV) _ (by first | exact hw0 | exact hw0.drew)).mono ?_
 rintro e W1 ⟨rfl, hb⟩
 obtain ⟨hc, hfz⟩ := az hb
 replace p0 := (hc _ _ qp).trans p0
 replace p1 := (hc _ _ qp).trans p1
 replace r0 := (hc _ _ q0).trans r0
 replace r1 := (hc _ _ q0).trans r1
 replace f0 := (hfz _ _ q0).trans f0
 replace f1 := (hfz _ _ q0).trans f1
 replace qp := Nat.lt_of_lt_of_le qp hb.size
 replace q0 := Nat.lt_of_lt_of_le q0 hb.size
 replace hw0 := au hw0 hb
 clear hc hfz
 clear hb
 go_wp2_with fail
 refine ((aa HG) _).mono ?_
 rintro e W2 ⟨rfl, Dp⟩
 replace Dp := Dp.symm
 subst Dp
 go_wp2_with fail
 exact bodyPost_ret (v := .tuple #[.agg #[.int .i64 0, .int .i64 0], .int .i64 1]) (by simp [results, Tryz.results17, go_sem, r0, r1, q0]) rfl
  ⟨rfl, hw0.grown (fq _ _ _ _) hw0.size (fun k hk => by injection hk with hk; omega)⟩
set_option maxHeartbeats 16000000 in
theorem ajq (n d g : Int) (w : World) (ok : Wd.nk n d) (g1 : 1 ≤ g) (g2 : g ≤ 1000000) :
  Calls Tryz.prog 17 #[.agg #[.int .i64 n, .int .i64 d], .int .i64 g] w fun e w' => Am w (Z0 (D8 n d g) g) e w' := by
 have HV := hide (fun W (hW : Below w.heap.size w W) => Aq n d W)
 rw [decide_eq_true ok] at HV
 have HG := hide (fun W => Zv g true (decide_eq_true ⟨g1, g2⟩).symm W)
 have Fw := hide (fun W => Ve ok W)
 have HR : Hid (∀ A1 c1 l1 m1 A2 c2 l2 m2 W, QV W A1 c1 l1 m1 A2 c2 l2 m2 (Rat.divInt n d) → Calls Tryz.prog 59 #[(Value.agg #[.slice A1 l1.length c1, .bool m1, .slice A2 l2.length c2, .bool m2]), .int .i64 g] W fun e w' => qh (ek (Rat.divInt (D8 n d g) g)) W e w') :=
  hide (fun A1 c1 l1 m1 A2 c2 l2 m2 W h => afb n d g ok g1 g2 W _ ⟨_, _, _, _, _, _, _, _, rfl, h⟩)
 have hE : Z0 (D8 n d g) g = Wd.told (Rat.divInt (D8 n d g) g) := if_neg om
 rw [hE]
 obtain ⟨y, hy⟩ : ∃ y, y = Rat.divInt (D8 n d g) g := ⟨_, rfl⟩
 rw [← hy] at HR ⊢
 clear ok g1 g2 hE hy
 go_enter Tryz.func17, Tryz.ntmps17
 go_upto_region 1 with fail
 obtain ⟨np, n0, hsz, hw0⟩ := jm w (.cells #[.int .i64 n, .int .i64 d] 23) (.cells #[.int .i64 0, .int .i64 0] 23)
 generalize ((w.alloc (.cells #[.int .i64 n, .int .i64 d] 23)).alloc (.cells #[.int .i64 0, .int .i64 0] 23)) = W0 at *
 have p0 : W0.cell? ⟨w.heap.size, 0, none⟩ = some (.int .i64 n) := ag np 0
 have p1 : W0.cell? ⟨w.heap.size, 1, none⟩ = some (.int .i64 d) := ag np 1
 have r0 : W0.cell? ⟨w.heap.size + 1, 0, none⟩ = some (.int .i64 0) := ag n0 0
 have r1 : W0.cell? ⟨w.heap.size + 1, 1, none⟩ = some (.int .i64 0) := ag n0 1
 have f0 := ah n0 0; have f1 := ah n0 1
 have qp := lt_of_block np
 have q0 := lt_of_block n0
 clear np n0 hsz
 go_wp2_with fail
 refine ((aa HV) _ (by first | exact hw0 | exact hw0.drew)).mono ?_
 rintro e W1 ⟨rfl, hb⟩
 obtain ⟨hc, hfz⟩ := az hb
 replace p0 := (hc _ _ qp).trans p0
 replace p1 := (hc _ _ qp).trans p1
 replace r0 := (hc _ _ q0).trans r0
 replace r1 := (hc _ _ q0).trans r1
 replace f0 := (hfz _ _ q0).trans f0
 replace f1 := (hfz _ _ q0).trans f1
 replace qp := Nat.lt_of_lt_of_le qp hb.size
 replace q0 := Nat.lt_of_lt_of_le q0 hb.size
 replace hw0 := au hw0 hb
 clear hc hfz
 clear hb
 go_wp2_with fail
 refine ((aa HG) _).mono ?_
 rintro e W2 ⟨rfl, Dp⟩
 replace Dp := Dp.symm
 subst Dp
 go_wp2_with fail
 refine ((aa Fw) _).mono ?_
 rintro e W3 ⟨A1, c1, l1, m1, A2, c2, l2, m2, rfl, g1, g2, hb⟩
 obtain ⟨hc, hfz⟩ := az hb
 replace p0 := (hc _ _ qp).trans p0
 replace p1 := (hc _ _ qp).trans p1
 replace r0 := (hc _ _ q0).trans r0
 replace r1 := (hc _ _ q0).trans r1
 replace f0 := (hfz _ _ q0).trans f0
 replace f1 := (hfz _ _ q0).trans f1
 replace qp := Nat.lt_of_lt_of_le qp hb.size
 replace q0 := Nat.lt_of_lt_of_le q0 hb.size
 replace hw0 := au hw0 hb
 clear hc hfz
 have I1 := hide (QV.of g1 g2)
 clear hb g1 g2 Fw
 go_wp2_with fail
 refine ((aa HR) A1 c1 l1 m1 A2 c2 l2 m2 _ (by first | exact aa I1 | exact (aa I1).below (Below.refl _ _).drew)).mono ?_
 rintro e W4 ⟨u, rfl, hb, A3, c3, l3, m3, A4, c4, l4, m4, rfl, g3⟩
 have Da := hide (E8 A3 c3 l3 m3 A4 c4 l4 m4 y W4 g3)
 obtain ⟨hc, hfz⟩ := az hb
 replace p0 := (hc _ _ qp).trans p0
 replace p1 := (hc _ _ qp).trans p1
 replace r0 := (hc _ _ q0).trans r0
 replace r1 := (hc _ _ q0).trans r1
 replace f0 := (hfz _ _ q0).trans f0
 replace f1 := (hfz _ _ q0).trans f1
 replace qp := Nat.lt_of_lt_of_le qp hb.size
 replace q0 := Nat.lt_of_lt_of_le q0 hb.size
 replace hw0 := au hw0 hb
 clear hc hfz
 clear hb g3 HR I1
 go_wp2_with fail
 refine (aa Da).mono ?_
 rintro e W5 ⟨rfl, hb⟩
 obtain ⟨hc, hfz⟩ := az hb
 replace p0 := (hc _ _ qp).trans p0
 replace p1 := (hc _ _ qp).trans p1
 replace r0 := (hc _ _ q0).trans r0
 replace r1 := (hc _ _ q0).trans r1
 replace f0 := (hfz _ _ q0).trans f0
 replace f1 := (hfz _ _ q0).trans f1
 replace qp := Nat.lt_of_lt_of_le qp hb.size
 replace q0 := Nat.lt_of_lt_of_le q0 hb.size
 replace hw0 := au hw0 hb
 clear hc hfz
 clear hb
 go_wp2_with fail
 exact bodyPost_ret (v := .tuple #[.agg #[.int .i64 (Wd.told y).n, .int .i64 (Wd.told y).d], .int .i64 (Wd.told y).e]) (by simp [results, Tryz.results17, go_sem, r0, r1, q0]) rfl
  ⟨rfl, hw0.grown (fq _ _ _ _) hw0.size (fun k hk => by injection hk with hk; omega)⟩
theorem ag0 (n d g : Int) (w : World) : Calls Tryz.prog 17 #[.agg #[.int .i64 n, .int .i64 d], .int .i64 g] w fun e w' => Am w (U0 n d g) e w' := by
 unfold U0
 by_cases ok : Wd.nk n d
 ·
  by_cases h : 1 ≤ g ∧ g ≤ 1000000
  ·
   rw [if_pos ⟨ok, h.1, h.2⟩]; exact ajq n d g w ok h.1 h.2
  ·
   rw [if_neg (fun g => h g.2)]; exact agy n d g w ok h
 ·
  rw [if_neg (fun g => ok g.1)]; exact agz n d g w ok

end Go.Proofs.YtpjgoogeokbaaaaGreatDoor
namespace Go.Proofs.YtpjgoogeokbaaaaGreatDoor
open Go.RowKit

namespace Wd
theorem M5 {a b c e : Int} (h : b * c - a * e = 1) : c.natAbs.gcd e.natAbs = 1 := by
 have := Eo (a := -c) (b := e) (c := -a) (e := b) (by rw [Int.mul_neg, Int.neg_mul, Int.mul_comm e a, Int.mul_comm c b]; omega)
 rwa [Int.natAbs_neg] at this
theorem O0 {x y : Int} (hx : x.natAbs ≤ 1000000000000) (hy : y.natAbs ≤ 1000000000000) : Bd (x * y) := by
 have h := Nat.mul_le_mul hx hy
 rw [← Int.natAbs_mul] at h
 unfold Bd; omega
structure RdF (N D m a b c e : Int) : Prop where
 b0 : 0 < b
 e0 : 0 < e
 ga : a.natAbs.gcd b.natAbs = 1
 gc : c.natAbs.gcd e.natAbs = 1
 Ba : Bd a
 Bb : Bd b
 Bc : Bd c
 Be : Bd e
 BN : Bd N
 BD : Bd D
 D0 : 0 < D
 gx : N.natAbs.gcd D.natAbs = 1
 BNb : Bd (N * b)
 BNe : Bd (N * e)
 BL : Bd (N * b - a * D)
 BH : Bd (c * D - N * e)
 Bs : Bd (b + e)
 Bm : Bd m
theorem Es.rd {N D m a b c e : Int} (h : Es N D m a b c e) (ok : nk N D) (hm : m ≤ 1000000000000) : RdF N D m a b c e := by
 obtain ⟨o1, o2, o3, o4, o5⟩ := ok
 have h1 := h.b1; have h2 := h.bm; have h3 := h.e1; have h4 := h.em; have h5 := h.la; have h6 := h.ua; have h7 := h.lb; have h8 := h.ub
 have h9 := h.lo; have h10 := h.hi; have h11 := h.leD
 have B : ∀ z : Int, -1000000000000 ≤ z → z ≤ 1000000000000 → Bd z := fun z g1 g2 => by unfold Bd; omega
 exact ⟨by omega, by omega, Eo h.Ff, M5 h.Ff, by unfold Bd; omega, B b om om, by unfold Bd; omega, B e om om, B N om om, B D om om, by omega, o5,
  O0 om om, O0 om om, B _ om om, B _ om om, by unfold Bd; omega, B m om om⟩
structure RkF (N D m a b c e k : Int) : Prop where
 k0 : 0 ≤ k
 Bk : Bd k
 Bkc : Bd (k * c)
 Bke : Bd (k * e)
 Ba : Bd (a + k * c)
 Bb : Bd (b + k * e)
 b0 : 0 < b + k * e
 bm : b + k * e ≤ m
 gb : b + k ≤ b + k * e
 ga : (a + k * c).natAbs.gcd (b + k * e).natAbs = 1
 st : N * (b + k * e) - (a + k * c) * D ≠ 0 → Es N D m (a + k * c) (b + k * e) c e
 en : N * (b + k * e) - (a + k * c) * D = 0 → a + k * c = N ∧ b + k * e = D
theorem Es.rk {N D m a b c e : Int} (h : Es N D m a b c e) (ok : nk N D) (hm : m ≤ 1000000000000) {k : Int} (hk : k = Gf (N * b - a * D) (c * D - N * e) m b e) : RkF N D m a b c e k := by
 obtain ⟨o1, o2, o3, o4, o5⟩ := ok
 have h1 := h.b1; have h2 := h.bm; have h3 := h.e1; have h4 := h.em; have h5 := h.la; have h6 := h.ua
 obtain ⟨c1, c2, c3⟩ := h.aik
 rw [← hk] at c1 c2 c3
 have q1 : k * -(1000000000001 * e) ≤ k * c := Int.mul_le_mul_of_nonneg_left h.lb c1
 have q2 : k * c ≤ k * (1000000000001 * e) := Int.mul_le_mul_of_nonneg_left h.ub c1
 rw [Int.mul_neg, Int.mul_left_comm] at q1
 rw [Int.mul_left_comm k] at q2
 have q3 : k * 1 ≤ k * e := Int.mul_le_mul_of_nonneg_left h3 c1
 have hd := acj (a := a) (b := b) (c := c) (e := e) (k := k)
 rw [h.Ff] at hd
 exact ⟨c1, by unfold Bd; omega, by unfold Bd; omega, by unfold Bd; omega, by unfold Bd; omega, by unfold Bd; omega, by omega, by omega, by omega, Eo hd,
  fun h0 => h.step c1 c2 c3 h0, fun h0 => af5 om om o5 hd h0⟩
theorem nk.neg {N D : Int} (ok : nk N D) : nk (-N) D := by
 obtain ⟨o1, o2, o3, o4, o5⟩ := ok
 exact ⟨o1, o2, by omega, by omega, by rw [Int.natAbs_neg]; exact o5⟩
structure RjF (N D m a b c e k : Int) : Prop where
 k0 : 0 ≤ k
 Bk : Bd k
 Bkc : Bd (k * a)
 Bke : Bd (k * b)
 Ba : Bd (c + k * a)
 Bb : Bd (e + k * b)
 b0 : 0 < e + k * b
 bm : e + k * b ≤ m
 gb : e + k ≤ e + k * b
 ga : (c + k * a).natAbs.gcd (e + k * b).natAbs = 1
 st : (c + k * a) * D - N * (e + k * b) ≠ 0 → Es N D m a b (c + k * a) (e + k * b)
 en : (c + k * a) * D - N * (e + k * b) = 0 → c + k * a = N ∧ e + k * b = D
theorem Es.rj {N D m a b c e : Int} (h : Es N D m a b c e) (ok : nk N D) (hm : m ≤ 1000000000000) {k : Int} (hk : k = Gf (c * D - N * e) (N * b - a * D) m e b) : RjF N D m a b c e k := by
 have e1 : -N * e - -c * D = c * D - N * e := by rw [Int.neg_mul, Int.neg_mul]; omega
 have e2 : -a * D - -N * b = N * b - a * D := by rw [Int.neg_mul, Int.neg_mul]; omega
 have f := h.turn.rk ok.neg hm (k := k) (by rw [e1, e2]; exact hk)
 have e3 : -c + k * -a = -(c + k * a) := by rw [Int.mul_neg]; omega
 have e4 : -N * (e + k * b) - -(c + k * a) * D = (c + k * a) * D - N * (e + k * b) := by rw [Int.neg_mul, Int.neg_mul]; omega
 have B : ∀ z : Int, Bd (-z) → Bd z := fun z g => by unfold Bd at g ⊢; omega
 have f3 := f.Ba; have f4 := f.ga; have f5 := f.st; have f6 := f.en; have f7 := f.Bkc
 rw [e3] at f3 f4 f5 f6
 rw [e4] at f5 f6
 rw [Int.natAbs_neg] at f4
 rw [Int.mul_neg] at f7
 exact ⟨f.k0, f.Bk, B _ f7, f.Bke, B _ f3, f.Bb, f.b0, f.bm, f.gb, f4, fun h0 => by
  have g := (f5 h0).turn
  rwa [Int.neg_neg, Int.neg_neg, Int.neg_neg] at g, fun h0 => by
  obtain ⟨g1, g2⟩ := f6 h0
  exact ⟨by omega, g2⟩⟩
theorem Es.goes {N D m a b c e : Int} (h : Es N D m a b c e) (hs : b + e ≤ m) {k : Int} (hk : k = Gf (N * b - a * D) (c * D - N * e) m b e) (hk0 : ¬ 0 < k) {j : Int} (hj : j = Gf (c * D - N * e) (N * b - a * D) m e b) : 1 ≤ j := by
 have h3 := h.e1; have h1 := h.b1
 have hlt : ¬ c * D - N * e ≤ N * b - a * D := fun g => by
  have := Oy (L := N * b - a * D) (H := c * D - N * e) (m := m) (b := b) (e := e) h.hi h3 hs g
  omega
 rw [hj]
 exact Oy h.lo h1 om om
end Wd

end Go.Proofs.YtpjgoogeokbaaaaGreatDoor
