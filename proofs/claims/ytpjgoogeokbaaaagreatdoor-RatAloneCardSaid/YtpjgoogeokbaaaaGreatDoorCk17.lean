/- Texts beneath a law of layer 1. -/
import Derived.Test.YtpjgoogeokbaaaaGreatDoorCk16
set_option maxRecDepth 100000
namespace Go.Proofs.YtpjgoogeokbaaaaGreatDoor
open Go.RowKit

set_option maxHeartbeats 16000000 in
theorem apl (x : Rat) (o : Int) (b : Bool) (w : World) (u1 : Value) (h1 : ek x w u1) (hb : (o == 0) = b)
  (hden : ∀ (W : World) (v0 : Value), ek (x) W v0 → Calls Tryz.prog 95 #[v0] W (qz (Ce (x.den)) W))
  (hone : ∀ (W : World) , Calls Tryz.prog 107 #[] W (qz (Ce (1)) W))
  (hc : ∀ (W : World) (v0 v1 : Value), Ce (x.den) W v0 → Ce (1) W v1 → Calls Tryz.prog 117 #[v0, v1] W (qz (Rg.ji (.int .i64 o)) W)) :
  Calls Tryz.prog 109 #[u1] w (qz (Rg.ji (.bool b)) w) := by
 obtain ⟨A1, c1, l1, m1, A2, c2, l2, m2, rfl, hq1⟩ := h1
 have ara := hide hden
 have abh := hide hone
 have HHC := hide hc
 have HHB := hide hb
 clear hden hone hc hb
 go_enter Tryz.func109, Tryz.ntmps109
 go_upto_region 1 with fail
 have hO := (Own.push (Own.nil w) (hq1.below (Below.refl _ _)) (w.heap.size) rfl)
 generalize w.alloc (.cells #[.slice A1 l1.length c1, .bool m1, .slice A2 l2.length c2, .bool m2] 52) = W0 at *
 have HO := hide hO
 clear hO
 go_upto_region 1 with fail
 refine Rg.uu 6 8 (Rg.pick [ek (x), Ce (x.den : Int), Ce 1, Rg.ji (.int .i64 o), Rg.ji (.bool (b)), Rg.ji (.bool (b))]) (cz w [(w.heap.size, x)] W0) oh [] kr rfl (Rg.oq.pick ⟨df _, Ew _, Ew _, Rg.fw _, Rg.fw _, Rg.fw _, trivial⟩) (cz.begin (aa HO))
  (Rg.ax (Rg.plain rfl (gy rfl (Rg.ja kr rfl) (fun W h => cz.box (List.Mem.head _) h) rfl))
   (Rg.ax (Rg.plain rfl (lg Tryz.func95 kr rfl cz.step (Rg.dw 0 kr) (fun W v0 hG h0 => aa ara W v0 h0)))
   (Rg.ax (Rg.plain rfl (ade Tryz.func107 kr rfl cz.step  (fun W  hG  => aa abh W)))
   (Rg.ax (Rg.plain rfl (jh Tryz.func117 kr rfl cz.step (Rg.dw 1 kr) (Rg.dw 2 kr) (fun W v0 v1 hG h0 h1 => aa HHC W v0 v1 h0 h1)))
   (Rg.ax (Rg.plain rfl (Ls rfl (Rg.dw 3 kr) (Rg.zg _) rfl (aa HHB)))
   (Rg.ax (Rg.plain rfl (xz rfl (Rg.dw 4 kr)))
   Rg.jc)))))) ?_
 intro v V1 hG1 hv hne
 clear hne
 simp only [Rg.puts, List.take_succ_cons, List.take_zero, List.drop_succ_cons, List.drop_zero, Act.put, List.setIfInBounds_toArray, List.set_cons_zero, List.set_cons_succ]
 have e5 : v 5 = .bool (b) := hv 5 (by decide)
 simp only [e5]
 have hO := hG1.1
 clear hG1
 try clear e5
 try clear hv
 replace HO := hide hO
 clear hO
 have HB := hide (aa HO).bel
 clear HO
 go_wp2_with fail
 all_goals first | go_ret | skip
 exact ⟨_, rfl, aa HB, rfl⟩
theorem anf {x : Rat} {b : Bool} (hb : b = decide ((x.den : Int) = 1)) (W : World) (v : Value) (h : ek x W v) : Calls Tryz.prog 109 #[v] W (qz (Rg.ji (.bool b)) W) :=
 apl x _ b W v h (by
  rw [hb]
  by_cases g : (x.den : Int) = 1
  ·
   rw [decide_eq_true g, g]; rfl
  ·
   rw [decide_eq_false g]; exact Qy om) (fun W v h => aap x W v h) aqk (fun W v0 v1 h0 h1 => awc W v0 v1 h0 h1)
structure RoF (n d g : Int) : Prop where
 BN : Bd n
 BD : Bd d
 D0 : 0 < d
 Bg : Bd g
 g0 : 0 < g
 Bp : Bd (n * g)
 Bq : Bd (n * g / d)
 Bq1 : Bd (n * g / d + 1)
 Bs : Bd (n * g - n * g / d * d)
theorem bd2 : Bd 2 := by unfold Bd; omega
theorem roF {n d g : Int} (ok : Wd.nu n d) (g1 : 1 ≤ g) (g2 : g ≤ 1000000) : RoF n d g := by
 have hb := aeq ok g1 g2
 obtain ⟨q1, q2, q3, q4⟩ := aam ok.1 hb
 obtain ⟨o1, o2, o3, o4, o5⟩ := ok
 exact ⟨by unfold Bd; omega, by unfold Bd; omega, by omega, by unfold Bd; omega, by omega, by unfold Bd; omega, by unfold Bd; omega, by unfold Bd; omega, by unfold Bd; omega⟩
set_option maxHeartbeats 16000000 in
theorem alr (n d g : Int) (ok : Wd.nu n d) (g1 : 1 ≤ g) (g2 : g ≤ 1000000) (w : World) (u1 : Value) (h1 : ek (Rat.divInt n d) w u1) :
  Calls Tryz.prog 59 #[u1, .int .i64 g] w (qz (ek (Rat.divInt (Fa n d g) g)) w) := by
 obtain ⟨A1, c1, l1, m1, A2, c2, l2, m2, rfl, hq1⟩ := h1
 have RF := hide (roF ok g1 g2)
 clear ok
 obtain ⟨rr, hrr⟩ : ∃ z, z = Fa n d g := ⟨_, rfl⟩
 rw [← hrr]
 have HRR := hide hrr
 clear hrr
 go_enter Tryz.func59, Tryz.ntmps59
 go_upto_region 1 with fail
 have hO := (Own.Vk (Own.push (Own.nil w) (hq1.below (Below.refl _ _)) (w.heap.size) rfl) (w.heap.size + 1) (by simp only [World.size_alloc]))
 generalize (w.alloc (.cells #[.slice A1 l1.length c1, .bool m1, .slice A2 l2.length c2, .bool m2] 52)).alloc (.cells #[.slice none 0 0, .bool false, .slice none 0 0, .bool false] 52) = W0 at *
 have HO := hide hO
 clear hO
 go_upto_region 1 with fail
 refine Rg.region 5 38 (Rg.pick [ek (Rat.divInt n d), Rg.ji (.int .i64 g), ek (Rat.divInt (g) 1), ek (Rat.divInt (n * g) d), Dq W0.heap.size]) (cz w [(w.heap.size + 1, 0), (w.heap.size, Rat.divInt n d)] W0) oh [4] kr kr rfl (Rg.oq.pick ⟨df _, Rg.fw _, df _, df _, Dn _, trivial⟩) (cz.start (aa HO))
  (Rg.ax (Rg.plain rfl (gy rfl (Rg.ja kr rfl) (fun W h => cz.box (List.Mem.tail _ (List.Mem.head _)) h) rfl))
   (Rg.ax (Rg.plain rfl (xe rfl (Rg.ja kr rfl)))
   (Rg.ax (Rg.plain rfl (lg Tryz.func72 kr rfl cz.step (Rg.dw 1 kr) (fun W v0 hG h0 => by cases h0; exact Il g om om W)))
   (Rg.ax (Rg.plain rfl (jh Tryz.func45 kr rfl cz.step (Rg.dw 0 kr) (Rg.dw 2 kr) (fun W v0 v1 hG h0 h1 => Ui (aa RF).BN (aa RF).BD (by have := (aa RF).D0; omega) (aa RF).Bg W v0 v1 h0 h1)))
   (Rg.ax (Rg.plain rfl (Ho cz.step cz.size rfl (Fy (by intro j hj; simp at hj; (repeat' (first | (rcases hj with rfl | hj))) <;> first | (subst hj; rfl) | rfl))))
   Rg.jc))))) ?_
 intro v V1 hG1 hv hne
 clear hne
 simp only [Rg.puts, List.take_succ_cons, List.take_zero, List.drop_succ_cons, List.drop_zero, Act.put, List.setIfInBounds_toArray, List.set_cons_zero, List.set_cons_succ]
 obtain ⟨abn, aat, Zt, Zl, abm, aas, Zr, Zk, e3, f3⟩ := (show ek (Rat.divInt (n * g) d) V1 (v 3) from hv 3 (by decide))
 obtain ⟨De, e4, hge4, hz4⟩ := (show Dq W0.heap.size V1 (v 4) from hv 4 (by decide))
 simp only [e3, e4]
 have hO := hG1.1
 replace hO := Own.add (aa HO) hG1.2 hge4 hz4
 obtain ⟨-, _, _, _, _, _, _, _, _, hz, -⟩ := hO.box (De) (0) (List.Mem.head _)
 have ben := ag hz 0
 have bfj := ah hz 0
 have beg := ag hz 1
 have bfe := ah hz 1
 have bea := ag hz 2
 have bez := ah hz 2
 have bdv := ag hz 3
 have beu := ah hz 3
 have bhb := lt_of_block hz
 clear hz
 go_upto_region 2 with fail
 replace hO := Own.set (xs := []) (ys := [(w.heap.size + 1, 0), (w.heap.size, Rat.divInt n d)]) hO f3
 unfold Da at hO
 generalize (((V1.setCell ⟨De, 0, none⟩ (.slice abn Zt.length aat)).setCell ⟨De, 1, none⟩ (.bool Zl)).setCell ⟨De, 2, none⟩ (.slice abm Zr.length aas)).setCell ⟨De, 3, none⟩ (.bool Zk) = U1 at *
 try clear ben bfj beg bfe bea bez bdv beu hG1
 try clear e3 e4 f3 hge4 hz4 bhb
 try clear hv
 replace HO := hide hO
 clear hO
 go_upto_region 2 with fail
 refine Rg.uu 3 38 (Rg.pick [ek (Rat.divInt (n * g) d), ek (Rat.divInt (n * g / d) 1), Dq U1.heap.size]) (cz w [(De, Rat.divInt (n * g) d), (w.heap.size + 1, 0), (w.heap.size, Rat.divInt n d)] U1) oh [2] kr rfl (Rg.oq.pick ⟨df _, df _, Dn _, trivial⟩) (cz.begin (aa HO))
  (Rg.ax (Rg.plain rfl (gy rfl (Rg.ja kr rfl) (fun W h => cz.box (List.Mem.head _) h) rfl))
   (Rg.ax (Rg.plain rfl (lg Tryz.func56 kr rfl cz.step (Rg.dw 0 kr) (fun W v0 hG h0 => Rl (aa RF).Bp (aa RF).BD (aa RF).D0 W v0 h0)))
   (Rg.ax (Rg.plain rfl (Ho cz.step cz.size rfl (Fy (by intro j hj; simp at hj; (repeat' (first | (rcases hj with rfl | hj))) <;> first | (subst hj; rfl) | rfl))))
   Rg.jc))) ?_
 intro v V2 hG2 hv hne
 clear hne
 simp only [Rg.puts, List.take_succ_cons, List.take_zero, List.drop_succ_cons, List.drop_zero, Act.put, List.setIfInBounds_toArray, List.set_cons_zero, List.set_cons_succ]
 obtain ⟨bqq, bps, bon, bnu, bqp, bpr, bom, bnt, e1, f1⟩ := (show ek (Rat.divInt (n * g / d) 1) V2 (v 1) from hv 1 (by decide))
 obtain ⟨Bn, e2, adn, hz2⟩ := (show Dq U1.heap.size V2 (v 2) from hv 2 (by decide))
 simp only [e1, e2]
 have hO := hG2.1
 replace hO := Own.add (aa HO) hG2.2 adn hz2
 obtain ⟨-, _, _, _, _, _, _, _, _, hz, -⟩ := hO.box (Bn) (0) (List.Mem.head _)
 have Qn := ag hz 0
 have Qw := ah hz 0
 have Ql := ag hz 1
 have Qu := ah hz 1
 have Qj := ag hz 2
 have Qs := ah hz 2
 have Qh := ag hz 3
 have Qq := ah hz 3
 have Rh := lt_of_block hz
 clear hz
 go_upto_region 3 with fail
 replace hO := Own.set (xs := []) (ys := [(De, Rat.divInt (n * g) d), (w.heap.size + 1, 0), (w.heap.size, Rat.divInt n d)]) hO f1
 unfold Da at hO
 generalize (((V2.setCell ⟨Bn, 0, none⟩ (.slice bqq bon.length bps)).setCell ⟨Bn, 1, none⟩ (.bool bnu)).setCell ⟨Bn, 2, none⟩ (.slice bqp bom.length bpr)).setCell ⟨Bn, 3, none⟩ (.bool bnt) = U2 at *
 try clear Qn Qw Ql Qu Qj Qs Qh Qq hG2
 try clear e1 e2 f1 adn hz2 Rh
 try clear hv
 replace HO := hide hO
 clear hO
 go_upto_region 3 with fail
 refine Rg.uu 6 38 (Rg.pick [ek (Rat.divInt (n * g) d), ek (Rat.divInt (n * g / d) 1), ek (Rat.divInt (n * g - n * g / d * d) d), ek (Rat.divInt 1 2), Rg.ji (.int .i64 (gm ((n * g - n * g / d * d) * 2 - 1 * d))), Rg.ji (.int .i64 (gm ((n * g - n * g / d * d) * 2 - 1 * d)))]) (cz w [(Bn, Rat.divInt (n * g / d) 1), (De, Rat.divInt (n * g) d), (w.heap.size + 1, 0), (w.heap.size, Rat.divInt n d)] U2) oh [] kr rfl (Rg.oq.pick ⟨df _, df _, df _, df _, Rg.fw _, Rg.fw _, trivial⟩) (cz.begin (aa HO))
  (Rg.ax (Rg.plain rfl (gy rfl (Rg.ja kr rfl) (fun W h => cz.box (List.Mem.tail _ (List.Mem.head _)) h) rfl))
   (Rg.ax (Rg.plain rfl (gy rfl (Rg.ja kr rfl) (fun W h => cz.box (List.Mem.head _) h) rfl))
   (Rg.ax (Rg.plain rfl (jh Tryz.func44 kr rfl cz.step (Rg.dw 0 kr) (Rg.dw 1 kr) (fun W v0 v1 hG h0 h1 => ajg (aa RF).Bp (aa RF).BD (by have := (aa RF).D0; omega) (aa RF).Bq W v0 v1 h0 h1)))
   (Rg.ax (Rg.plain rfl (jh Tryz.func110 kr rfl cz.step (Rg.zg _) (Rg.zg _) (fun W v0 v1 hG h0 h1 => by cases h0; cases h1; exact akk 1 2 om om om om om W)))
   (Rg.ax (Rg.plain rfl (jh Tryz.func64 kr rfl cz.step (Rg.dw 2 kr) (Rg.dw 3 kr) (fun W v0 v1 hG h0 h1 => Uj (aa RF).Bs (aa RF).BD bd1 bd2 (aa RF).D0 om W v0 v1 h0 h1)))
   (Rg.ax (Rg.plain rfl (xz rfl (Rg.dw 4 kr)))
   Rg.jc)))))) ?_
 intro v V3 hG3 hv hne
 clear hne
 simp only [Rg.puts, List.take_succ_cons, List.take_zero, List.drop_succ_cons, List.drop_zero, Act.put, List.setIfInBounds_toArray, List.set_cons_zero, List.set_cons_succ]
 have e5 : v 5 = .int .i64 (gm ((n * g - n * g / d * d) * 2 - 1 * d)) := hv 5 (by decide)
 simp only [e5]
 have hO := hG3.1
 clear hG3
 try clear e5
 try clear hv
 replace HO := hide hO
 clear hO
 by_cases h0 : 0 < ((n * g - n * g / d * d) * 2 - 1 * d)
 ·
  have hr : rr = n * g / d + 1 := by have h9 := aa HRR; rw [h9]; unfold Fa; rw [if_pos om]
  clear HRR
  subst hr
  have d1 : decide (0 < gm ((n * g - n * g / d * d) * 2 - 1 * d)) = true := Yw h0
  go_upto_region 4 with fail
  refine Rg.uu 3 38 (Rg.pick [Rg.ji (.int .i64 (gm ((n * g - n * g / d * d) * 2 - 1 * d))), Rg.ji (.bool (true)), Rg.ji (.bool (true))]) (cz w [(Bn, Rat.divInt (n * g / d) 1), (De, Rat.divInt (n * g) d), (w.heap.size + 1, 0), (w.heap.size, Rat.divInt n d)] V3) oh [] kr rfl (Rg.oq.pick ⟨Rg.fw _, Rg.fw _, Rg.fw _, trivial⟩) (cz.begin (aa HO))
   (Rg.ax (Rg.plain rfl (xe rfl (Rg.ja kr rfl)))
    (Rg.ax (Rg.plain rfl (Jl rfl (Rg.dw 0 kr) (Rg.zg _) rfl d1))
    (Rg.ax (Rg.plain rfl (xz rfl (Rg.dw 1 kr)))
    Rg.jc))) ?_
  intro v V4 hG4 hv hne
  clear hne
  simp only [Rg.puts, List.take_succ_cons, List.take_zero, List.drop_succ_cons, List.drop_zero, Act.put, List.setIfInBounds_toArray, List.set_cons_zero, List.set_cons_succ]
  have e2 : v 2 = .bool (true) := hv 2 (by decide)
  simp only [e2]
  have hO := hG4.1
  clear hG4
  try clear e2
  try clear hv
  replace HO := hide hO
  clear hO
  clear d1 h0
  go_upto_region 6 with fail
  refine Rg.region 3 38 (Rg.pick [ek (Rat.divInt (n * g / d) 1), ek (Rat.divInt (1) 1), ek (Rat.divInt (n * g / d + 1) 1)]) (cz w [(Bn, Rat.divInt (n * g / d) 1), (De, Rat.divInt (n * g) d), (w.heap.size + 1, 0), (w.heap.size, Rat.divInt n d)] V4) oh [] kr kr rfl (Rg.oq.pick ⟨df _, df _, df _, trivial⟩) (cz.start (aa HO))
   (Rg.ax (Rg.plain rfl (gy rfl (Rg.ja kr rfl) (fun W h => cz.box (List.Mem.head _) h) rfl))
    (Rg.ax (Rg.plain rfl (lg Tryz.func72 kr rfl cz.step (Rg.zg _) (fun W v0 hG h0 => by cases h0; exact Il 1 om om W)))
    (Rg.ax (Rg.plain rfl (jh Tryz.func43 kr rfl cz.step (Rg.dw 0 kr) (Rg.dw 1 kr) (fun W v0 v1 hG h0 h1 => Hq (aa RF).Bq bd1 W v0 v1 h0 h1)))
    Rg.jc))) ?_
  intro v V5 Aw hv hne
  clear hne
  simp only [Rg.puts, List.take_succ_cons, List.take_zero, List.drop_succ_cons, List.drop_zero, Act.put, List.setIfInBounds_toArray, List.set_cons_zero, List.set_cons_succ]
  obtain ⟨bqk, bpm, bog, bno, bqj, bpl, bof, bnn, e2, f2⟩ := (show ek (Rat.divInt (n * g / d + 1) 1) V5 (v 2) from hv 2 (by decide))
  simp only [e2]
  have hO := Aw.1
  obtain ⟨-, _, _, _, _, _, _, _, _, hz, -⟩ := hO.box (Bn) (Rat.divInt (n * g / d) 1) (List.Mem.head _)
  have Qn := ag hz 0
  have Qw := ah hz 0
  have Ql := ag hz 1
  have Qu := ah hz 1
  have Qj := ag hz 2
  have Qs := ah hz 2
  have Qh := ag hz 3
  have Qq := ah hz 3
  have Rh := lt_of_block hz
  clear hz
  go_upto_region 7 with fail
  replace hO := Own.set (xs := []) (ys := [(De, Rat.divInt (n * g) d), (w.heap.size + 1, 0), (w.heap.size, Rat.divInt n d)]) hO f2
  unfold Da at hO
  generalize (((V5.setCell ⟨Bn, 0, none⟩ (.slice bqk bog.length bpm)).setCell ⟨Bn, 1, none⟩ (.bool bno)).setCell ⟨Bn, 2, none⟩ (.slice bqj bof.length bpl)).setCell ⟨Bn, 3, none⟩ (.bool bnn) = U5 at *
  try clear Qn Qw Ql Qu Qj Qs Qh Qq Aw
  try clear e2 f2 Rh
  try clear hv
  replace HO := hide hO
  clear hO
  go_upto_region 7 with fail
  refine Rg.region 4 38 (Rg.pick [ek (Rat.divInt (n * g / d + 1) 1), Rg.ji (.int .i64 g), ek (Rat.divInt (g) 1), ek (Rat.divInt (n * g / d + 1) g)]) (cz w [(Bn, Rat.divInt (n * g / d + 1) 1), (De, Rat.divInt (n * g) d), (w.heap.size + 1, 0), (w.heap.size, Rat.divInt n d)] U5) oh [] kr kr rfl (Rg.oq.pick ⟨df _, Rg.fw _, df _, df _, trivial⟩) (cz.start (aa HO))
   (Rg.ax (Rg.plain rfl (gy rfl (Rg.ja kr rfl) (fun W h => cz.box (List.Mem.head _) h) rfl))
    (Rg.ax (Rg.plain rfl (xe rfl (Rg.ja kr rfl)))
    (Rg.ax (Rg.plain rfl (lg Tryz.func72 kr rfl cz.step (Rg.dw 1 kr) (fun W v0 hG h0 => by cases h0; exact Il g om om W)))
    (Rg.ax (Rg.plain rfl (jh Tryz.func47 kr rfl cz.step (Rg.dw 0 kr) (Rg.dw 2 kr) (fun W v0 v1 hG h0 h1 => Oe (aa RF).Bq1 (aa RF).Bg (by have := (aa RF).g0; omega) W v0 v1 h0 h1)))
    Rg.jc)))) ?_
  intro v V6 Dh hv hne
  clear hne
  simp only [Rg.puts, List.take_succ_cons, List.take_zero, List.drop_succ_cons, List.drop_zero, Act.put, List.setIfInBounds_toArray, List.set_cons_zero, List.set_cons_succ]
  obtain ⟨abl, aar, Zq, Zj, abk, aaq, Zp, Zi, e3, f3⟩ := (show ek (Rat.divInt (n * g / d + 1) g) V6 (v 3) from hv 3 (by decide))
  simp only [e3]
  have hO := Dh.1
  obtain ⟨-, _, _, _, _, _, _, _, _, hz, -⟩ := hO.box (w.heap.size + 1) (0) (List.Mem.tail _ (List.Mem.tail _ (List.Mem.head _)))
  have iw := ag hz 0
  have vg := ah hz 0
  have iq := ag hz 1
  have ve := ah hz 1
  have il := ag hz 2
  have uy := ah hz 2
  have ik := ag hz 3
  have uw := ah hz 3
  have iy := lt_of_block hz
  clear hz
  go_wp2_with fail
  replace hO := Own.set (xs := [(Bn, Rat.divInt (n * g / d + 1) 1), (De, Rat.divInt (n * g) d)]) (ys := [(w.heap.size, Rat.divInt n d)]) hO f3
  unfold Da at hO
  generalize (((V6.setCell ⟨w.heap.size + 1, 0, none⟩ (.slice abl Zq.length aar)).setCell ⟨w.heap.size + 1, 1, none⟩ (.bool Zj)).setCell ⟨w.heap.size + 1, 2, none⟩ (.slice abk Zp.length aaq)).setCell ⟨w.heap.size + 1, 3, none⟩ (.bool Zi) = U6 at *
  try clear iw vg iq ve il uy ik uw Dh
  try clear e3 f3 iy
  try clear hv
  replace HO := hide hO
  clear hO
  obtain ⟨vk, nk, mq, mf, mh, ni, mo, ma, mg, dh, mi⟩ := (aa HO).box _ _ (List.Mem.tail _ (List.Mem.tail _ (List.Mem.head _)))
  have iw := ag dh 0
  have iq := ag dh 1
  have il := ag dh 2
  have ik := ag dh 3
  have iy := lt_of_block dh
  clear dh vk
  go_wp2_with fail
  exact bodyPost_ret (v := .agg #[.slice nk mf.length mq, .bool mh, .slice ni ma.length mo, .bool mg]) (by simp [results, Tryz.results59, go_sem, iw, iq, il, ik, iy]) rfl
   ⟨_, rfl, (aa HO).bel, ⟨_, _, _, _, _, _, _, _, rfl, mi⟩⟩
 ·
  by_cases h1 : ((n * g - n * g / d * d) * 2 - 1 * d) = 0
  ·
   by_cases h2 : (n * g / d).tmod 2 = 0
   ·
    have hr : rr = n * g / d := by have h9 := aa HRR; rw [h9]; unfold Fa; rw [if_neg om]
    clear HRR
    subst hr
    have d1 : decide (0 < gm ((n * g - n * g / d * d) * 2 - 1 * d)) = false := Nq h0
    have d2 : (gm ((n * g - n * g / d * d) * 2 - 1 * d) == 0) = true := Qz h1
    have d3 : true = decide (((Rat.divInt (n * g / d) 1 * Rat.divInt 1 2).den : Int) = 1) := by rw [decide_eq_true]; exact Wd.akb.2 h2
    go_upto_region 4 with fail
    refine Rg.uu 3 38 (Rg.pick [Rg.ji (.int .i64 (gm ((n * g - n * g / d * d) * 2 - 1 * d))), Rg.ji (.bool (false)), Rg.ji (.bool (false))]) (cz w [(Bn, Rat.divInt (n * g / d) 1), (De, Rat.divInt (n * g) d), (w.heap.size + 1, 0), (w.heap.size, Rat.divInt n d)] V3) oh [] kr rfl (Rg.oq.pick ⟨Rg.fw _, Rg.fw _, Rg.fw _, trivial⟩) (cz.begin (aa HO))
     (Rg.ax (Rg.plain rfl (xe rfl (Rg.ja kr rfl)))
      (Rg.ax (Rg.plain rfl (Jl rfl (Rg.dw 0 kr) (Rg.zg _) rfl d1))
      (Rg.ax (Rg.plain rfl (xz rfl (Rg.dw 1 kr)))
      Rg.jc))) ?_
    intro v V4 hG4 hv hne
    clear hne
    simp only [Rg.puts, List.take_succ_cons, List.take_zero, List.drop_succ_cons, List.drop_zero, Act.put, List.setIfInBounds_toArray, List.set_cons_zero, List.set_cons_succ]
    have e2 : v 2 = .bool (false) := hv 2 (by decide)
    simp only [e2]
    have hO := hG4.1
    clear hG4
    try clear e2
    try clear hv
    replace HO := hide hO
    clear hO
    go_upto_region 5 with fail
    refine Rg.region 10 38 (Rg.pick [Rg.ji (.int .i64 (gm ((n * g - n * g / d * d) * 2 - 1 * d))), Rg.ji (.bool (true)), Rg.ji (.bool (true)), ek (Rat.divInt (n * g / d) 1), ek (Rat.divInt 1 2), ek (Rat.divInt (n * g / d) 1 * Rat.divInt 1 2), Rg.ji (.bool true), Rg.ji (.bool (false)), Rg.ji (.bool false), Rg.ji (.bool false)]) (cz w [(Bn, Rat.divInt (n * g / d) 1), (De, Rat.divInt (n * g) d), (w.heap.size + 1, 0), (w.heap.size, Rat.divInt n d)] V4) oh [] kr kr rfl (Rg.oq.pick ⟨Rg.fw _, Rg.fw _, Rg.fw _, df _, df _, df _, Rg.fw _, Rg.fw _, Rg.fw _, Rg.fw _, trivial⟩) (cz.start (aa HO))
     (Rg.ax (Rg.plain rfl (xe rfl (Rg.ja kr rfl)))
      (Rg.ax (Rg.plain rfl (Ls rfl (Rg.dw 0 kr) (Rg.zg _) rfl d2))
      (Rg.ax (Rg.plain rfl (xe rfl (Rg.dw 1 kr)))
      (Rg.ax (Rg.Ef (d := 24) rfl kr rfl (gy rfl (Rg.ja kr rfl) (fun W h => cz.box (List.Mem.head _) h) rfl))
      (Rg.ax (Rg.Ef (d := 24) rfl kr rfl (jh Tryz.func110 kr rfl cz.step (Rg.zg _) (Rg.zg _) (fun W v0 v1 hG h0 h1 => by cases h0; cases h1; exact akk 1 2 om om om om om W)))
      (Rg.ax (Rg.Ef (d := 24) rfl kr rfl (jh Tryz.func45 kr rfl cz.step (Rg.dw 3 kr) (Rg.dw 4 kr) (fun W v0 v1 hG h0 h1 => afz (K := 4) (aa RF).Bq.Nw (bd1.Nv bd2 om) om W v0 v1 h0 h1)))
      (Rg.ax (Rg.Ef (d := 24) rfl kr rfl (lg Tryz.func109 kr rfl cz.step (Rg.dw 5 kr) (fun W v0 hG h0 => anf d3 W v0 h0)))
      (Rg.ax (Rg.Ef (d := 24) rfl kr rfl (bbo rfl (Rg.dw 6 kr) rfl rfl))
      (Rg.ax (Rg.plain rfl (aih rfl (Rg.dw 2 kr) (Rg.dw 7 kr)))
      (Rg.ax (Rg.plain rfl (xz rfl (Rg.dw 8 kr)))
      Rg.jc)))))))))) ?_
    intro v V5 Aw hv hne
    clear hne
    simp only [Rg.puts, List.take_succ_cons, List.take_zero, List.drop_succ_cons, List.drop_zero, Act.put, List.setIfInBounds_toArray, List.set_cons_zero, List.set_cons_succ]
    have e9 : v 9 = .bool false := hv 9 (by decide)
    simp only [e9]
    have hO := Aw.1
    clear Aw
    try clear e9
    try clear hv
    replace HO := hide hO
    clear hO
    clear d1 d2 d3 h0 h1 h2
    go_upto_region 7 with fail
    refine Rg.region 4 38 (Rg.pick [ek (Rat.divInt (n * g / d) 1), Rg.ji (.int .i64 g), ek (Rat.divInt (g) 1), ek (Rat.divInt (n * g / d) g)]) (cz w [(Bn, Rat.divInt (n * g / d) 1), (De, Rat.divInt (n * g) d), (w.heap.size + 1, 0), (w.heap.size, Rat.divInt n d)] V5) oh [] kr kr rfl (Rg.oq.pick ⟨df _, Rg.fw _, df _, df _, trivial⟩) (cz.start (aa HO))
     (Rg.ax (Rg.plain rfl (gy rfl (Rg.ja kr rfl) (fun W h => cz.box (List.Mem.head _) h) rfl))
      (Rg.ax (Rg.plain rfl (xe rfl (Rg.ja kr rfl)))
      (Rg.ax (Rg.plain rfl (lg Tryz.func72 kr rfl cz.step (Rg.dw 1 kr) (fun W v0 hG h0 => by cases h0; exact Il g om om W)))
      (Rg.ax (Rg.plain rfl (jh Tryz.func47 kr rfl cz.step (Rg.dw 0 kr) (Rg.dw 2 kr) (fun W v0 v1 hG h0 h1 => Oe (aa RF).Bq (aa RF).Bg (by have := (aa RF).g0; omega) W v0 v1 h0 h1)))
      Rg.jc)))) ?_
    intro v V6 Dh hv hne
    clear hne
    simp only [Rg.puts, List.take_succ_cons, List.take_zero, List.drop_succ_cons, List.drop_zero, Act.put, List.setIfInBounds_toArray, List.set_cons_zero, List.set_cons_succ]
    obtain ⟨abl, aar, Zq, Zj, abk, aaq, Zp, Zi, e3, f3⟩ := (show ek (Rat.divInt (n * g / d) g) V6 (v 3) from hv 3 (by decide))
    simp only [e3]
    have hO := Dh.1
    obtain ⟨-, _, _, _, _, _, _, _, _, hz, -⟩ := hO.box (w.heap.size + 1) (0) (List.Mem.tail _ (List.Mem.tail _ (List.Mem.head _)))
    have iw := ag hz 0
    have vg := ah hz 0
    have iq := ag hz 1
    have ve := ah hz 1
    have il := ag hz 2
    have uy := ah hz 2
    have ik := ag hz 3
    have uw := ah hz 3
    have iy := lt_of_block hz
    clear hz
    go_wp2_with fail
    replace hO := Own.set (xs := [(Bn, Rat.divInt (n * g / d) 1), (De, Rat.divInt (n * g) d)]) (ys := [(w.heap.size, Rat.divInt n d)]) hO f3
    unfold Da at hO
    generalize (((V6.setCell ⟨w.heap.size + 1, 0, none⟩ (.slice abl Zq.length aar)).setCell ⟨w.heap.size + 1, 1, none⟩ (.bool Zj)).setCell ⟨w.heap.size + 1, 2, none⟩ (.slice abk Zp.length aaq)).setCell ⟨w.heap.size + 1, 3, none⟩ (.bool Zi) = U6 at *
    try clear iw vg iq ve il uy ik uw Dh
    try clear e3 f3 iy
    try clear hv
    replace HO := hide hO
    clear hO
    obtain ⟨vk, nk, mq, mf, mh, ni, mo, ma, mg, dh, mi⟩ := (aa HO).box _ _ (List.Mem.tail _ (List.Mem.tail _ (List.Mem.head _)))
    have iw := ag dh 0
    have iq := ag dh 1
    have il := ag dh 2
    have ik := ag dh 3
    have iy := lt_of_block dh
    clear dh vk
    go_wp2_with fail
    exact bodyPost_ret (v := .agg #[.slice nk mf.length mq, .bool mh, .slice ni ma.length mo, .bool mg]) (by simp [results, Tryz.results59, go_sem, iw, iq, il, ik, iy]) rfl
     ⟨_, rfl, (aa HO).bel, ⟨_, _, _, _, _, _, _, _, rfl, mi⟩⟩
   ·
    have hr : rr = n * g / d + 1 := by have h9 := aa HRR; rw [h9]; unfold Fa; rw [if_pos om]
    clear HRR
    subst hr
    have d1 : decide (0 < gm ((n * g - n * g / d * d) * 2 - 1 * d)) = false := Nq h0
    have d2 : (gm ((n * g - n * g / d * d) * 2 - 1 * d) == 0) = true := Qz h1
    have d3 : false = decide (((Rat.divInt (n * g / d) 1 * Rat.divInt 1 2).den : Int) = 1) := by rw [decide_eq_false]; exact fun h => h2 (Wd.akb.1 h)
    go_upto_region 4 with fail
    refine Rg.uu 3 38 (Rg.pick [Rg.ji (.int .i64 (gm ((n * g - n * g / d * d) * 2 - 1 * d))), Rg.ji (.bool (false)), Rg.ji (.bool (false))]) (cz w [(Bn, Rat.divInt (n * g / d) 1), (De, Rat.divInt (n * g) d), (w.heap.size + 1, 0), (w.heap.size, Rat.divInt n d)] V3) oh [] kr rfl (Rg.oq.pick ⟨Rg.fw _, Rg.fw _, Rg.fw _, trivial⟩) (cz.begin (aa HO))
     (Rg.ax (Rg.plain rfl (xe rfl (Rg.ja kr rfl)))
      (Rg.ax (Rg.plain rfl (Jl rfl (Rg.dw 0 kr) (Rg.zg _) rfl d1))
      (Rg.ax (Rg.plain rfl (xz rfl (Rg.dw 1 kr)))
      Rg.jc))) ?_
    intro v V4 hG4 hv hne
    clear hne
    simp only [Rg.puts, List.take_succ_cons, List.take_zero, List.drop_succ_cons, List.drop_zero, Act.put, List.setIfInBounds_toArray, List.set_cons_zero, List.set_cons_succ]
    have e2 : v 2 = .bool (false) := hv 2 (by decide)
    simp only [e2]
    have hO := hG4.1
    clear hG4
    try clear e2
    try clear hv
    replace HO := hide hO
    clear hO
    go_upto_region 5 with fail
    refine Rg.region 10 38 (Rg.pick [Rg.ji (.int .i64 (gm ((n * g - n * g / d * d) * 2 - 1 * d))), Rg.ji (.bool (true)), Rg.ji (.bool (true)), ek (Rat.divInt (n * g / d) 1), ek (Rat.divInt 1 2), ek (Rat.divInt (n * g / d) 1 * Rat.divInt 1 2), Rg.ji (.bool false), Rg.ji (.bool (true)), Rg.ji (.bool true), Rg.ji (.bool true)]) (cz w [(Bn, Rat.divInt (n * g / d) 1), (De, Rat.divInt (n * g) d), (w.heap.size + 1, 0), (w.heap.size, Rat.divInt n d)] V4) oh [] kr kr rfl (Rg.oq.pick ⟨Rg.fw _, Rg.fw _, Rg.fw _, df _, df _, df _, Rg.fw _, Rg.fw _, Rg.fw _, Rg.fw _, trivial⟩) (cz.start (aa HO))
     (Rg.ax (Rg.plain rfl (xe rfl (Rg.ja kr rfl)))
      (Rg.ax (Rg.plain rfl (Ls rfl (Rg.dw 0 kr) (Rg.zg _) rfl d2))
      (Rg.ax (Rg.plain rfl (xe rfl (Rg.dw 1 kr)))
      (Rg.ax (Rg.Ef (d := 24) rfl kr rfl (gy rfl (Rg.ja kr rfl) (fun W h => cz.box (List.Mem.head _) h) rfl))
      (Rg.ax (Rg.Ef (d := 24) rfl kr rfl (jh Tryz.func110 kr rfl cz.step (Rg.zg _) (Rg.zg _) (fun W v0 v1 hG h0 h1 => by cases h0; cases h1; exact akk 1 2 om om om om om W)))
      (Rg.ax (Rg.Ef (d := 24) rfl kr rfl (jh Tryz.func45 kr rfl cz.step (Rg.dw 3 kr) (Rg.dw 4 kr) (fun W v0 v1 hG h0 h1 => afz (K := 4) (aa RF).Bq.Nw (bd1.Nv bd2 om) om W v0 v1 h0 h1)))
      (Rg.ax (Rg.Ef (d := 24) rfl kr rfl (lg Tryz.func109 kr rfl cz.step (Rg.dw 5 kr) (fun W v0 hG h0 => anf d3 W v0 h0)))
      (Rg.ax (Rg.Ef (d := 24) rfl kr rfl (bbo rfl (Rg.dw 6 kr) rfl rfl))
      (Rg.ax (Rg.plain rfl (aih rfl (Rg.dw 2 kr) (Rg.dw 7 kr)))
      (Rg.ax (Rg.plain rfl (xz rfl (Rg.dw 8 kr)))
      Rg.jc)))))))))) ?_
    intro v V5 Aw hv hne
    clear hne
    simp only [Rg.puts, List.take_succ_cons, List.take_zero, List.drop_succ_cons, List.drop_zero, Act.put, List.setIfInBounds_toArray, List.set_cons_zero, List.set_cons_succ]
    have e9 : v 9 = .bool true := hv 9 (by decide)
    simp only [e9]
    have hO := Aw.1
    clear Aw
    try clear e9
    try clear hv
    replace HO := hide hO
    clear hO
    clear d1 d2 d3 h0 h1 h2
    go_upto_region 6 with fail
    refine Rg.region 3 38 (Rg.pick [ek (Rat.divInt (n * g / d) 1), ek (Rat.divInt (1) 1), ek (Rat.divInt (n * g / d + 1) 1)]) (cz w [(Bn, Rat.divInt (n * g / d) 1), (De, Rat.divInt (n * g) d), (w.heap.size + 1, 0), (w.heap.size, Rat.divInt n d)] V5) oh [] kr kr rfl (Rg.oq.pick ⟨df _, df _, df _, trivial⟩) (cz.start (aa HO))
     (Rg.ax (Rg.plain rfl (gy rfl (Rg.ja kr rfl) (fun W h => cz.box (List.Mem.head _) h) rfl))
      (Rg.ax (Rg.plain rfl (lg Tryz.func72 kr rfl cz.step (Rg.zg _) (fun W v0 hG h0 => by cases h0; exact Il 1 om om W)))
      (Rg.ax (Rg.plain rfl (jh Tryz.func43 kr rfl cz.step (Rg.dw 0 kr) (Rg.dw 1 kr) (fun W v0 v1 hG h0 h1 => Hq (aa RF).Bq bd1 W v0 v1 h0 h1)))
      Rg.jc))) ?_
    intro v V6 Dh hv hne
    clear hne
    simp only [Rg.puts, List.take_succ_cons, List.take_zero, List.drop_succ_cons, List.drop_zero, Act.put, List.setIfInBounds_toArray, List.set_cons_zero, List.set_cons_succ]
    obtain ⟨bqi, bpk, boe, bnm, bqh, bpj, bod, bnl, e2, f2⟩ := (show ek (Rat.divInt (n * g / d + 1) 1) V6 (v 2) from hv 2 (by decide))
    simp only [e2]
    have hO := Dh.1
    obtain ⟨-, _, _, _, _, _, _, _, _, hz, -⟩ := hO.box (Bn) (Rat.divInt (n * g / d) 1) (List.Mem.head _)
    have Qn := ag hz 0
    have Qw := ah hz 0
    have Ql := ag hz 1
    have Qu := ah hz 1
    have Qj := ag hz 2
    have Qs := ah hz 2
    have Qh := ag hz 3
    have Qq := ah hz 3
    have Rh := lt_of_block hz
    clear hz
    go_upto_region 7 with fail
    replace hO := Own.set (xs := []) (ys := [(De, Rat.divInt (n * g) d), (w.heap.size + 1, 0), (w.heap.size, Rat.divInt n d)]) hO f2
    unfold Da at hO
    generalize (((V6.setCell ⟨Bn, 0, none⟩ (.slice bqi boe.length bpk)).setCell ⟨Bn, 1, none⟩ (.bool bnm)).setCell ⟨Bn, 2, none⟩ (.slice bqh bod.length bpj)).setCell ⟨Bn, 3, none⟩ (.bool bnl) = U6 at *
    try clear Qn Qw Ql Qu Qj Qs Qh Qq Dh
    try clear e2 f2 Rh
    try clear hv
    replace HO := hide hO
    clear hO
    go_upto_region 7 with fail
    refine Rg.region 4 38 (Rg.pick [ek (Rat.divInt (n * g / d + 1) 1), Rg.ji (.int .i64 g), ek (Rat.divInt (g) 1), ek (Rat.divInt (n * g / d + 1) g)]) (cz w [(Bn, Rat.divInt (n * g / d + 1) 1), (De, Rat.divInt (n * g) d), (w.heap.size + 1, 0), (w.heap.size, Rat.divInt n d)] U6) oh [] kr kr rfl (Rg.oq.pick ⟨df _, Rg.fw _, df _, df _, trivial⟩) (cz.start (aa HO))
     (Rg.ax (Rg.plain rfl (gy rfl (Rg.ja kr rfl) (fun W h => cz.box (List.Mem.head _) h) rfl))
      (Rg.ax (Rg.plain rfl (xe rfl (Rg.ja kr rfl)))
      (Rg.ax (Rg.plain rfl (lg Tryz.func72 kr rfl cz.step (Rg.dw 1 kr) (fun W v0 hG h0 => by cases h0; exact Il g om om W)))
      (Rg.ax (Rg.plain rfl (jh Tryz.func47 kr rfl cz.step (Rg.dw 0 kr) (Rg.dw 2 kr) (fun W v0 v1 hG h0 h1 => Oe (aa RF).Bq1 (aa RF).Bg (by have := (aa RF).g0; omega) W v0 v1 h0 h1)))
      Rg.jc)))) ?_
    intro v V7 hG7 hv hne
    clear hne
    simp only [Rg.puts, List.take_succ_cons, List.take_zero, List.drop_succ_cons, List.drop_zero, Act.put, List.setIfInBounds_toArray, List.set_cons_zero, List.set_cons_succ]
    obtain ⟨bqe, bpg, boa, bni, bqd, bpf, bnz, bnh, e3, f3⟩ := (show ek (Rat.divInt (n * g / d + 1) g) V7 (v 3) from hv 3 (by decide))
    simp only [e3]
    have hO := hG7.1
    obtain ⟨-, _, _, _, _, _, _, _, _, hz, -⟩ := hO.box (w.heap.size + 1) (0) (List.Mem.tail _ (List.Mem.tail _ (List.Mem.head _)))
    have iw := ag hz 0
    have vg := ah hz 0
    have iq := ag hz 1
    have ve := ah hz 1
    have il := ag hz 2
    have uy := ah hz 2
    have ik := ag hz 3
    have uw := ah hz 3
    have iy := lt_of_block hz
    clear hz
    go_wp2_with fail
    replace hO := Own.set (xs := [(Bn, Rat.divInt (n * g / d + 1) 1), (De, Rat.divInt (n * g) d)]) (ys := [(w.heap.size, Rat.divInt n d)]) hO f3
    unfold Da at hO
    generalize (((V7.setCell ⟨w.heap.size + 1, 0, none⟩ (.slice bqe boa.length bpg)).setCell ⟨w.heap.size + 1, 1, none⟩ (.bool bni)).setCell ⟨w.heap.size + 1, 2, none⟩ (.slice bqd bnz.length bpf)).setCell ⟨w.heap.size + 1, 3, none⟩ (.bool bnh) = U7 at *
    try clear iw vg iq ve il uy ik uw hG7
    try clear e3 f3 iy
    try clear hv
    replace HO := hide hO
    clear hO
    obtain ⟨vk, nk, mq, mf, mh, ni, mo, ma, mg, dh, mi⟩ := (aa HO).box _ _ (List.Mem.tail _ (List.Mem.tail _ (List.Mem.head _)))
    have iw := ag dh 0
    have iq := ag dh 1
    have il := ag dh 2
    have ik := ag dh 3
    have iy := lt_of_block dh
    clear dh vk
    go_wp2_with fail
    exact bodyPost_ret (v := .agg #[.slice nk mf.length mq, .bool mh, .slice ni ma.length mo, .bool mg]) (by simp [results, Tryz.results59, go_sem, iw, iq, il, ik, iy]) rfl
     ⟨_, rfl, (aa HO).bel, ⟨_, _, _, _, _, _, _, _, rfl, mi⟩⟩
  ·
   have hr : rr = n * g / d := by have h9 := aa HRR; rw [h9]; unfold Fa; rw [if_neg om]
   clear HRR
   subst hr
   have d1 : decide (0 < gm ((n * g - n * g / d * d) * 2 - 1 * d)) = false := Nq h0
   have d2 : (gm ((n * g - n * g / d * d) * 2 - 1 * d) == 0) = false := Qy h1
   go_upto_region 4 with fail
   refine Rg.uu 3 38 (Rg.pick [Rg.ji (.int .i64 (gm ((n * g - n * g / d * d) * 2 - 1 * d))), Rg.ji (.bool (false)), Rg.ji (.bool (false))]) (cz w [(Bn, Rat.divInt (n * g / d) 1), (De, Rat.divInt (n * g) d), (w.heap.size + 1, 0), (w.heap.size, Rat.divInt n d)] V3) oh [] kr rfl (Rg.oq.pick ⟨Rg.fw _, Rg.fw _, Rg.fw _, trivial⟩) (cz.begin (aa HO))
    (Rg.ax (Rg.plain rfl (xe rfl (Rg.ja kr rfl)))
     (Rg.ax (Rg.plain rfl (Jl rfl (Rg.dw 0 kr) (Rg.zg _) rfl d1))
     (Rg.ax (Rg.plain rfl (xz rfl (Rg.dw 1 kr)))
     Rg.jc))) ?_
   intro v V4 hG4 hv hne
   clear hne
   simp only [Rg.puts, List.take_succ_cons, List.take_zero, List.drop_succ_cons, List.drop_zero, Act.put, List.setIfInBounds_toArray, List.set_cons_zero, List.set_cons_succ]
   have e2 : v 2 = .bool (false) := hv 2 (by decide)
   simp only [e2]
   have hO := hG4.1
   clear hG4
   try clear e2
   try clear hv
   replace HO := hide hO
   clear hO
   go_upto_region 5 with fail
   refine Rg.region 10 38 (Rg.pick [Rg.ji (.int .i64 (gm ((n * g - n * g / d * d) * 2 - 1 * d))), Rg.ji (.bool (false)), Rg.ji (.bool (false)), Rg.ji undef, Rg.ji undef, Rg.ji undef, Rg.ji undef, Rg.ji undef, Rg.ji (.bool false), Rg.ji (.bool false)]) (cz w [(Bn, Rat.divInt (n * g / d) 1), (De, Rat.divInt (n * g) d), (w.heap.size + 1, 0), (w.heap.size, Rat.divInt n d)] V4) oh [] kr kr rfl (Rg.oq.pick ⟨Rg.fw _, Rg.fw _, Rg.fw _, Rg.fw _, Rg.fw _, Rg.fw _, Rg.fw _, Rg.fw _, Rg.fw _, Rg.fw _, trivial⟩) (cz.start (aa HO))
    (Rg.ax (Rg.plain rfl (xe rfl (Rg.ja kr rfl)))
     (Rg.ax (Rg.plain rfl (Ls rfl (Rg.dw 0 kr) (Rg.zg _) rfl d2))
     (Rg.ax (Rg.plain rfl (xe rfl (Rg.dw 1 kr)))
     (Rg.ax (Rg.Ot (d := 24) rfl kr rfl rfl Ox rfl rfl)
     (Rg.ax (Rg.Ot (d := 24) rfl kr rfl rfl Ox rfl rfl)
     (Rg.ax (Rg.Ot (d := 24) rfl kr rfl rfl Ox rfl rfl)
     (Rg.ax (Rg.Ot (d := 24) rfl kr rfl rfl Ox rfl rfl)
     (Rg.ax (Rg.Ot (d := 24) rfl kr rfl rfl Ox rfl rfl)
     (Rg.ax (Rg.plain rfl (ayf rfl (Rg.dw 2 kr) (Rg.zg _)))
     (Rg.ax (Rg.plain rfl (xz rfl (Rg.dw 8 kr)))
     Rg.jc)))))))))) ?_
   intro v V5 Aw hv hne
   clear hne
   simp only [Rg.puts, List.take_succ_cons, List.take_zero, List.drop_succ_cons, List.drop_zero, Act.put, List.setIfInBounds_toArray, List.set_cons_zero, List.set_cons_succ]
   have e9 : v 9 = .bool false := hv 9 (by decide)
   simp only [e9]
   have hO := Aw.1
   clear Aw
   try clear e9
   try clear hv
   replace HO := hide hO
   clear hO
   clear d1 d2 h0 h1
   go_upto_region 7 with fail
   refine Rg.region 4 38 (Rg.pick [ek (Rat.divInt (n * g / d) 1), Rg.ji (.int .i64 g), ek (Rat.divInt (g) 1), ek (Rat.divInt (n * g / d) g)]) (cz w [(Bn, Rat.divInt (n * g / d) 1), (De, Rat.divInt (n * g) d), (w.heap.size + 1, 0), (w.heap.size, Rat.divInt n d)] V5) oh [] kr kr rfl (Rg.oq.pick ⟨df _, Rg.fw _, df _, df _, trivial⟩) (cz.start (aa HO))
    (Rg.ax (Rg.plain rfl (gy rfl (Rg.ja kr rfl) (fun W h => cz.box (List.Mem.head _) h) rfl))
     (Rg.ax (Rg.plain rfl (xe rfl (Rg.ja kr rfl)))
     (Rg.ax (Rg.plain rfl (lg Tryz.func72 kr rfl cz.step (Rg.dw 1 kr) (fun W v0 hG h0 => by cases h0; exact Il g om om W)))
     (Rg.ax (Rg.plain rfl (jh Tryz.func47 kr rfl cz.step (Rg.dw 0 kr) (Rg.dw 2 kr) (fun W v0 v1 hG h0 h1 => Oe (aa RF).Bq (aa RF).Bg (by have := (aa RF).g0; omega) W v0 v1 h0 h1)))
     Rg.jc)))) ?_
   intro v V6 Dh hv hne
   clear hne
   simp only [Rg.puts, List.take_succ_cons, List.take_zero, List.drop_succ_cons, List.drop_zero, Act.put, List.setIfInBounds_toArray, List.set_cons_zero, List.set_cons_succ]
   obtain ⟨abl, aar, Zq, Zj, abk, aaq, Zp, Zi, e3, f3⟩ := (show ek (Rat.divInt (n * g / d) g) V6 (v 3) from hv 3 (by decide))
   simp only [e3]
   have hO := Dh.1
   obtain ⟨-, _, _, _, _, _, _, _, _, hz, -⟩ := hO.box (w.heap.size + 1) (0) (List.Mem.tail _ (List.Mem.tail _ (List.Mem.head _)))
   have iw := ag hz 0
   have vg := ah hz 0
   have iq := ag hz 1
   have ve := ah hz 1
   have il := ag hz 2
   have uy := ah hz 2
   have ik := ag hz 3
   have uw := ah hz 3
   have iy := lt_of_block hz
   clear hz
   go_wp2_with fail
   replace hO := Own.set (xs := [(Bn, Rat.divInt (n * g / d) 1), (De, Rat.divInt (n * g) d)]) (ys := [(w.heap.size, Rat.divInt n d)]) hO f3
   unfold Da at hO
   generalize (((V6.setCell ⟨w.heap.size + 1, 0, none⟩ (.slice abl Zq.length aar)).setCell ⟨w.heap.size + 1, 1, none⟩ (.bool Zj)).setCell ⟨w.heap.size + 1, 2, none⟩ (.slice abk Zp.length aaq)).setCell ⟨w.heap.size + 1, 3, none⟩ (.bool Zi) = U6 at *
   try clear iw vg iq ve il uy ik uw Dh
   try clear e3 f3 iy
   try clear hv
   replace HO := hide hO
   clear hO
   obtain ⟨vk, nk, mq, mf, mh, ni, mo, ma, mg, dh, mi⟩ := (aa HO).box _ _ (List.Mem.tail _ (List.Mem.tail _ (List.Mem.head _)))
   have iw := ag dh 0
   have iq := ag dh 1
   have il := ag dh 2
   have ik := ag dh 3
   have iy := lt_of_block dh
   clear dh vk
   go_wp2_with fail
   exact bodyPost_ret (v := .agg #[.slice nk mf.length mq, .bool mh, .slice ni ma.length mo, .bool mg]) (by simp [results, Tryz.results59, go_sem, iw, iq, il, ik, iy]) rfl
    ⟨_, rfl, (aa HO).bel, ⟨_, _, _, _, _, _, _, _, rfl, mi⟩⟩
set_option maxHeartbeats 2000000 in
theorem aem (g : Int) (b : Bool) (hb : b = decide (1 ≤ g ∧ g ≤ 1000000)) (w : World) : Calls Tryz.prog 58 #[.int .i64 g] w fun e w' => e = .returned (.bool b) ∧ w' = w := by
 by_cases h1 : 1 ≤ g
 ·
  by_cases h2 : g ≤ 1000000
  ·
   obtain rfl : b = true := by rw [hb]; exact decide_eq_true ⟨h1, h2⟩
   have d1 : decide (1 ≤ g) = true := decide_eq_true h1
   have d2 : decide (g ≤ 1000000) = true := decide_eq_true h2
   clear hb h1 h2
   go_enter Tryz.func58, Tryz.ntmps58
   go_wp2
   all_goals first | go_ret | skip
   all_goals exact ⟨rfl, rfl⟩
  ·
   obtain rfl : b = false := by rw [hb]; exact decide_eq_false om
   have d1 : decide (1 ≤ g) = true := decide_eq_true h1
   have d2 : decide (g ≤ 1000000) = false := decide_eq_false h2
   clear hb h1 h2
   go_enter Tryz.func58, Tryz.ntmps58
   go_wp2
   all_goals first | go_ret | skip
   all_goals exact ⟨rfl, rfl⟩
 ·
  obtain rfl : b = false := by rw [hb]; exact decide_eq_false om
  have d1 : decide (1 ≤ g) = false := decide_eq_false h1
  clear hb h1
  go_enter Tryz.func58, Tryz.ntmps58
  go_wp2
  all_goals first | go_ret | skip
  all_goals exact ⟨rfl, rfl⟩
set_option maxHeartbeats 16000000 in
theorem aod (n d g : Int) (w : World) (ok : ¬ Wd.nu n d) :
  Calls Tryz.prog 17 #[.agg #[.int .i64 n, .int .i64 d], .int .i64 g] w fun e w' => Bz w (⟨0, 0, 1⟩) e w' := by
 have HV := hide (fun W (hW : Below w.heap.size w W) => Cc n d W)
 rw [decide_eq_false ok] at HV
 clear ok
 go_enter Tryz.func17, Tryz.ntmps17
 go_upto_region 1 with fail
 obtain ⟨np, n0, hsz, hw0⟩ := jm w (.cells #[.int .i64 n, .int .i64 d] 23) (.cells #[.int .i64 0, .int .i64 0] 23)
 generalize ((w.alloc (.cells #[.int .i64 n, .int .i64 d] 23)).alloc (.cells #[.int .i64 0, .int .i64 0] 23)) = W0 at *
 have p0 : W0.cell? ⟨w.heap.size, 0, none⟩ = some (.int .i64 n) := ag np 0
 have p1 : W0.cell? ⟨w.heap.size, 1, none⟩ = some (.int .i64 d) := ag np 1
 have r0 : W0.cell? ⟨w.heap.size + 1, 0, none⟩ = some (.int .i64 0) := ag n0 0
 have r1 : W0.cell? ⟨w.heap.size + 1, 1, none⟩ = some (.int .i64 0) := ag n0 1
 have f0 := ah n0 0; have f1 := ah n0 1
 have qp := lt_of_block np
 have q0 := lt_of_block n0
 clear np n0 hsz
 go_wp2_with fail
 refine ((aa HV) _ (by first | exact hw0 | exact hw0.drew)).mono ?_
 rintro e W1 ⟨rfl, hb⟩
 obtain ⟨hc, hfz⟩ := az hb
 replace p0 := (hc _ _ qp).trans p0
 replace p1 := (hc _ _ qp).trans p1
 replace r0 := (hc _ _ q0).trans r0
 replace r1 := (hc _ _ q0).trans r1
 replace f0 := (hfz _ _ q0).trans f0
 replace f1 := (hfz _ _ q0).trans f1
 replace qp := Nat.lt_of_lt_of_le qp hb.size
 replace q0 := Nat.lt_of_lt_of_le q0 hb.size
 replace hw0 := au hw0 hb
 clear hc hfz
 clear hb
 go_wp2_with fail
 exact bodyPost_ret (v := .tuple #[.agg #[.int .i64 0, .int .i64 0], .int .i64 1]) (by simp [results, Tryz.results17, go_sem, r0, r1, q0]) rfl
  ⟨rfl, hw0.grown (fq _ _ _ _) hw0.size (fun k hk => by injection hk with hk; omega)⟩
set_option maxHeartbeats 16000000 in
theorem aoc (n d g : Int) (w : World) (ok : Wd.nu n d) (hg : ¬ (1 ≤ g ∧ g ≤ 1000000)) :
  Calls Tryz.prog 17 #[.agg #[.int .i64 n, .int .i64 d], .int .i64 g] w fun e w' => Bz w (⟨0, 0, 1⟩) e w' := by
 have HV := hide (fun W (hW : Below w.heap.size w W) => Cc n d W)
 rw [decide_eq_true ok] at HV
 have HG := hide (fun W => aem g false (decide_eq_false hg).symm W)
 clear ok hg
 go_enter Tryz.func17, Tryz.ntmps17
 go_upto_region 1 with fail
 obtain ⟨np, n0, hsz, hw0⟩ := jm w (.cells #[.int .i64 n, .int .i64 d] 23) (.cells #[.int .i64 0, .int .i64 0] 23)
 generalize ((w.alloc (.cells #[.int .i64 n, .int .i64 d] 23)).alloc (.cells #[.int .i64 0, .int .i64 0] 23)) = W0 at *
 have p0 : W0.cell? ⟨w.heap.size, 0, none⟩ = some (.int .i64 n) := ag np 0
 have p1 : W0.cell? ⟨w.heap.size, 1, none⟩ = some (.int .i64 d) := ag np 1
 have r0 : W0.cell? ⟨w.heap.size + 1, 0, none⟩ = some (.int .i64 0) := ag n0 0
 have r1 : W0.cell? ⟨w.heap.size + 1, 1, none⟩ = some (.int .i64 0) := ag n0 1
 have f0 := ah n0 0; have f1 := ah n0 1
 have qp := lt_of_block np
 have q0 := lt_of_block n0
 clear np n0 hsz
 go_wp2_with fail
 refine ((aa HV) _ (by first | exact hw0 | exact hw0.drew)).mono ?_
 rintro e W1 ⟨rfl, hb⟩
 obtain ⟨hc, hfz⟩ := az hb
 replace p0 := (hc _ _ qp).trans p0
 replace p1 := (hc _ _ qp).trans p1
 replace r0 := (hc _ _ q0).trans r0
 replace r1 := (hc _ _ q0).trans r1
 replace f0 := (hfz _ _ q0).trans f0
 replace f1 := (hfz _ _ q0).trans f1
 replace qp := Nat.lt_of_lt_of_le qp hb.size
 replace q0 := Nat.lt_of_lt_of_le q0 hb.size
 replace hw0 := au hw0 hb
 clear hc hfz
 clear hb
 go_wp2_with fail
 refine ((aa HG) _).mono ?_
 rintro e W2 ⟨rfl, Em⟩
 replace Em := Em.symm
 subst Em
 go_wp2_with fail
 exact bodyPost_ret (v := .tuple #[.agg #[.int .i64 0, .int .i64 0], .int .i64 1]) (by simp [results, Tryz.results17, go_sem, r0, r1, q0]) rfl
  ⟨rfl, hw0.grown (fq _ _ _ _) hw0.size (fun k hk => by injection hk with hk; omega)⟩
set_option maxHeartbeats 16000000 in
theorem ase (n d g : Int) (w : World) (ok : Wd.nu n d) (g1 : 1 ≤ g) (g2 : g ≤ 1000000) :
  Calls Tryz.prog 17 #[.agg #[.int .i64 n, .int .i64 d], .int .i64 g] w fun e w' => Bz w (mkE (Fa n d g) g) e w' := by
 have HV := hide (fun W (hW : Below w.heap.size w W) => Cc n d W)
 rw [decide_eq_true ok] at HV
 have HG := hide (fun W => aem g true (decide_eq_true ⟨g1, g2⟩).symm W)
 have He := hide (fun W => Zg ok W)
 have HR : Hid (∀ A1 c1 l1 m1 A2 c2 l2 m2 W, QV W A1 c1 l1 m1 A2 c2 l2 m2 (Rat.divInt n d) → Calls Tryz.prog 59 #[(Value.agg #[.slice A1 l1.length c1, .bool m1, .slice A2 l2.length c2, .bool m2]), .int .i64 g] W fun e w' => qz (ek (Rat.divInt (Fa n d g) g)) W e w') :=
  hide (fun A1 c1 l1 m1 A2 c2 l2 m2 W h => alr n d g ok g1 g2 W _ ⟨_, _, _, _, _, _, _, _, rfl, h⟩)
 have hE : mkE (Fa n d g) g = Wd.told (Rat.divInt (Fa n d g) g) := if_neg om
 rw [hE]
 obtain ⟨y, hy⟩ : ∃ y, y = Rat.divInt (Fa n d g) g := ⟨_, rfl⟩
 rw [← hy] at HR ⊢
 clear ok g1 g2 hE hy
 go_enter Tryz.func17, Tryz.ntmps17
 go_upto_region 1 with fail
 obtain ⟨np, n0, hsz, hw0⟩ := jm w (.cells #[.int .i64 n, .int .i64 d] 23) (.cells #[.int .i64 0, .int .i64 0] 23)
 generalize ((w.alloc (.cells #[.int .i64 n, .int .i64 d] 23)).alloc (.cells #[.int .i64 0, .int .i64 0] 23)) = W0 at *
 have p0 : W0.cell? ⟨w.heap.size, 0, none⟩ = some (.int .i64 n) := ag np 0
 have p1 : W0.cell? ⟨w.heap.size, 1, none⟩ = some (.int .i64 d) := ag np 1
 have r0 : W0.cell? ⟨w.heap.size + 1, 0, none⟩ = some (.int .i64 0) := ag n0 0
 have r1 : W0.cell? ⟨w.heap.size + 1, 1, none⟩ = some (.int .i64 0) := ag n0 1
 have f0 := ah n0 0; have f1 := ah n0 1
 have qp := lt_of_block np
 have q0 := lt_of_block n0
 clear np n0 hsz
 go_wp2_with fail
 refine ((aa HV) _ (by first | exact hw0 | exact hw0.drew)).mono ?_
 rintro e W1 ⟨rfl, hb⟩
 obtain ⟨hc, hfz⟩ := az hb
 replace p0 := (hc _ _ qp).trans p0
 replace p1 := (hc _ _ qp).trans p1
 replace r0 := (hc _ _ q0).trans r0
 replace r1 := (hc _ _ q0).trans r1
 replace f0 := (hfz _ _ q0).trans f0
 replace f1 := (hfz _ _ q0).trans f1
 replace qp := Nat.lt_of_lt_of_le qp hb.size
 replace q0 := Nat.lt_of_lt_of_le q0 hb.size
 replace hw0 := au hw0 hb
 clear hc hfz
 clear hb
 go_wp2_with fail
 refine ((aa HG) _).mono ?_
 rintro e W2 ⟨rfl, Em⟩
 replace Em := Em.symm
 subst Em
 go_wp2_with fail
 refine ((aa He) _).mono ?_
 rintro e W3 ⟨A1, c1, l1, m1, A2, c2, l2, m2, rfl, g1, g2, hb⟩
 obtain ⟨hc, hfz⟩ := az hb
 replace p0 := (hc _ _ qp).trans p0
 replace p1 := (hc _ _ qp).trans p1
 replace r0 := (hc _ _ q0).trans r0
 replace r1 := (hc _ _ q0).trans r1
 replace f0 := (hfz _ _ q0).trans f0
 replace f1 := (hfz _ _ q0).trans f1
 replace qp := Nat.lt_of_lt_of_le qp hb.size
 replace q0 := Nat.lt_of_lt_of_le q0 hb.size
 replace hw0 := au hw0 hb
 clear hc hfz
 have I1 := hide (QV.of g1 g2)
 clear hb g1 g2 He
 go_wp2_with fail
 refine ((aa HR) A1 c1 l1 m1 A2 c2 l2 m2 _ (by first | exact aa I1 | exact (aa I1).below (Below.refl _ _).drew)).mono ?_
 rintro e W4 ⟨u, rfl, hb, A3, c3, l3, m3, A4, c4, l4, m4, rfl, g3⟩
 have Dy := hide (Gn A3 c3 l3 m3 A4 c4 l4 m4 y W4 g3)
 obtain ⟨hc, hfz⟩ := az hb
 replace p0 := (hc _ _ qp).trans p0
 replace p1 := (hc _ _ qp).trans p1
 replace r0 := (hc _ _ q0).trans r0
 replace r1 := (hc _ _ q0).trans r1
 replace f0 := (hfz _ _ q0).trans f0
 replace f1 := (hfz _ _ q0).trans f1
 replace qp := Nat.lt_of_lt_of_le qp hb.size
 replace q0 := Nat.lt_of_lt_of_le q0 hb.size
 replace hw0 := au hw0 hb
 clear hc hfz
 clear hb g3 HR I1
 go_wp2_with fail
 refine (aa Dy).mono ?_
 rintro e W5 ⟨rfl, hb⟩
 obtain ⟨hc, hfz⟩ := az hb
 replace p0 := (hc _ _ qp).trans p0
 replace p1 := (hc _ _ qp).trans p1
 replace r0 := (hc _ _ q0).trans r0
 replace r1 := (hc _ _ q0).trans r1
 replace f0 := (hfz _ _ q0).trans f0
 replace f1 := (hfz _ _ q0).trans f1
 replace qp := Nat.lt_of_lt_of_le qp hb.size
 replace q0 := Nat.lt_of_lt_of_le q0 hb.size
 replace hw0 := au hw0 hb
 clear hc hfz
 clear hb
 go_wp2_with fail
 exact bodyPost_ret (v := .tuple #[.agg #[.int .i64 (Wd.told y).n, .int .i64 (Wd.told y).d], .int .i64 (Wd.told y).e]) (by simp [results, Tryz.results17, go_sem, r0, r1, q0]) rfl
  ⟨rfl, hw0.grown (fq _ _ _ _) hw0.size (fun k hk => by injection hk with hk; omega)⟩
theorem aoe (n d g : Int) (w : World) : Calls Tryz.prog 17 #[.agg #[.int .i64 n, .int .i64 d], .int .i64 g] w fun e w' => Bz w (Za n d g) e w' := by
 unfold Za
 by_cases ok : Wd.nu n d
 ·
  by_cases h : 1 ≤ g ∧ g ≤ 1000000
  ·
   rw [if_pos ⟨ok, h.1, h.2⟩]; exact ase n d g w ok h.1 h.2
  ·
   rw [if_neg (fun g => h g.2)]; exact aoc n d g w ok h
 ·
  rw [if_neg (fun g => ok g.1)]; exact aod n d g w ok

end Go.Proofs.YtpjgoogeokbaaaaGreatDoor
namespace Go.Proofs.YtpjgoogeokbaaaaGreatDoor
open Go.RowKit

namespace Wd
theorem Pv {a b c e : Int} (h : b * c - a * e = 1) : c.natAbs.gcd e.natAbs = 1 := by
 have := Fz (a := -c) (b := e) (c := -a) (e := b) (by rw [Int.mul_neg, Int.neg_mul, Int.mul_comm e a, Int.mul_comm c b]; omega)
 rwa [Int.natAbs_neg] at this
theorem Rw {x y : Int} (hx : x.natAbs ≤ 1000000000000) (hy : y.natAbs ≤ 1000000000000) : Bd (x * y) := by
 have h := Nat.mul_le_mul hx hy
 rw [← Int.natAbs_mul] at h
 unfold Bd; omega
structure RdF (N D m a b c e : Int) : Prop where
 b0 : 0 < b
 e0 : 0 < e
 ga : a.natAbs.gcd b.natAbs = 1
 gc : c.natAbs.gcd e.natAbs = 1
 Ba : Bd a
 Bb : Bd b
 Bc : Bd c
 Be : Bd e
 BN : Bd N
 BD : Bd D
 D0 : 0 < D
 gx : N.natAbs.gcd D.natAbs = 1
 BNb : Bd (N * b)
 BNe : Bd (N * e)
 BL : Bd (N * b - a * D)
 BH : Bd (c * D - N * e)
 Bs : Bd (b + e)
 Bm : Bd m
theorem Gc.rd {N D m a b c e : Int} (h : Gc N D m a b c e) (ok : nu N D) (hm : m ≤ 1000000000000) : RdF N D m a b c e := by
 obtain ⟨o1, o2, o3, o4, o5⟩ := ok
 have h1 := h.b1; have h2 := h.bm; have h3 := h.e1; have h4 := h.em; have h5 := h.la; have h6 := h.ua; have h7 := h.lb; have h8 := h.ub
 have h9 := h.lo; have h10 := h.hi; have h11 := h.leD
 have B : ∀ z : Int, -1000000000000 ≤ z → z ≤ 1000000000000 → Bd z := fun z g1 g2 => by unfold Bd; omega
 exact ⟨by omega, by omega, Fz h.Gt, Pv h.Gt, by unfold Bd; omega, B b om om, by unfold Bd; omega, B e om om, B N om om, B D om om, by omega, o5,
  Rw om om, Rw om om, B _ om om, B _ om om, by unfold Bd; omega, B m om om⟩
structure RkF (N D m a b c e k : Int) : Prop where
 k0 : 0 ≤ k
 Bk : Bd k
 Bkc : Bd (k * c)
 Bke : Bd (k * e)
 Ba : Bd (a + k * c)
 Bb : Bd (b + k * e)
 b0 : 0 < b + k * e
 bm : b + k * e ≤ m
 gb : b + k ≤ b + k * e
 ga : (a + k * c).natAbs.gcd (b + k * e).natAbs = 1
 st : N * (b + k * e) - (a + k * c) * D ≠ 0 → Gc N D m (a + k * c) (b + k * e) c e
 en : N * (b + k * e) - (a + k * c) * D = 0 → a + k * c = N ∧ b + k * e = D
theorem Gc.rk {N D m a b c e : Int} (h : Gc N D m a b c e) (ok : nu N D) (hm : m ≤ 1000000000000) {k : Int} (hk : k = Hy (N * b - a * D) (c * D - N * e) m b e) : RkF N D m a b c e k := by
 obtain ⟨o1, o2, o3, o4, o5⟩ := ok
 have h1 := h.b1; have h2 := h.bm; have h3 := h.e1; have h4 := h.em; have h5 := h.la; have h6 := h.ua
 obtain ⟨c1, c2, c3⟩ := h.aqi
 rw [← hk] at c1 c2 c3
 have q1 : k * -(1000000000001 * e) ≤ k * c := Int.mul_le_mul_of_nonneg_left h.lb c1
 have q2 : k * c ≤ k * (1000000000001 * e) := Int.mul_le_mul_of_nonneg_left h.ub c1
 rw [Int.mul_neg, Int.mul_left_comm] at q1
 rw [Int.mul_left_comm k] at q2
 have q3 : k * 1 ≤ k * e := Int.mul_le_mul_of_nonneg_left h3 c1
 have hd := ahz (a := a) (b := b) (c := c) (e := e) (k := k)
 rw [h.Gt] at hd
 exact ⟨c1, by unfold Bd; omega, by unfold Bd; omega, by unfold Bd; omega, by unfold Bd; omega, by unfold Bd; omega, by omega, by omega, by omega, Fz hd,
  fun h0 => h.step c1 c2 c3 h0, fun h0 => amy om om o5 hd h0⟩
theorem nu.neg {N D : Int} (ok : nu N D) : nu (-N) D := by
 obtain ⟨o1, o2, o3, o4, o5⟩ := ok
 exact ⟨o1, o2, by omega, by omega, by rw [Int.natAbs_neg]; exact o5⟩
structure RjF (N D m a b c e k : Int) : Prop where
 k0 : 0 ≤ k
 Bk : Bd k
 Bkc : Bd (k * a)
 Bke : Bd (k * b)
 Ba : Bd (c + k * a)
 Bb : Bd (e + k * b)
 b0 : 0 < e + k * b
 bm : e + k * b ≤ m
 gb : e + k ≤ e + k * b
 ga : (c + k * a).natAbs.gcd (e + k * b).natAbs = 1
 st : (c + k * a) * D - N * (e + k * b) ≠ 0 → Gc N D m a b (c + k * a) (e + k * b)
 en : (c + k * a) * D - N * (e + k * b) = 0 → c + k * a = N ∧ e + k * b = D
theorem Gc.rj {N D m a b c e : Int} (h : Gc N D m a b c e) (ok : nu N D) (hm : m ≤ 1000000000000) {k : Int} (hk : k = Hy (c * D - N * e) (N * b - a * D) m e b) : RjF N D m a b c e k := by
 have e1 : -N * e - -c * D = c * D - N * e := by rw [Int.neg_mul, Int.neg_mul]; omega
 have e2 : -a * D - -N * b = N * b - a * D := by rw [Int.neg_mul, Int.neg_mul]; omega
 have f := h.turn.rk ok.neg hm (k := k) (by rw [e1, e2]; exact hk)
 have e3 : -c + k * -a = -(c + k * a) := by rw [Int.mul_neg]; omega
 have e4 : -N * (e + k * b) - -(c + k * a) * D = (c + k * a) * D - N * (e + k * b) := by rw [Int.neg_mul, Int.neg_mul]; omega
 have B : ∀ z : Int, Bd (-z) → Bd z := fun z g => by unfold Bd at g ⊢; omega
 have f3 := f.Ba; have f4 := f.ga; have f5 := f.st; have f6 := f.en; have f7 := f.Bkc
 rw [e3] at f3 f4 f5 f6
 rw [e4] at f5 f6
 rw [Int.natAbs_neg] at f4
 rw [Int.mul_neg] at f7
 exact ⟨f.k0, f.Bk, B _ f7, f.Bke, B _ f3, f.Bb, f.b0, f.bm, f.gb, f4, fun h0 => by
  have g := (f5 h0).turn
  rwa [Int.neg_neg, Int.neg_neg, Int.neg_neg] at g, fun h0 => by
  obtain ⟨g1, g2⟩ := f6 h0
  exact ⟨by omega, g2⟩⟩
theorem Gc.goes {N D m a b c e : Int} (h : Gc N D m a b c e) (hs : b + e ≤ m) {k : Int} (hk : k = Hy (N * b - a * D) (c * D - N * e) m b e) (hk0 : ¬ 0 < k) {j : Int} (hj : j = Hy (c * D - N * e) (N * b - a * D) m e b) : 1 ≤ j := by
 have h3 := h.e1; have h1 := h.b1
 have hlt : ¬ c * D - N * e ≤ N * b - a * D := fun g => by
  have := Ru (L := N * b - a * D) (H := c * D - N * e) (m := m) (b := b) (e := e) h.hi h3 hs g
  omega
 rw [hj]
 exact Ru h.lo h1 om om
end Wd

end Go.Proofs.YtpjgoogeokbaaaaGreatDoor
