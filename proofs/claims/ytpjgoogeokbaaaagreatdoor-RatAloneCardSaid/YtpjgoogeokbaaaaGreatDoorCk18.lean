/- Texts beneath a law of layer 1. -/
import Derived.Test.YtpjgoogeokbaaaaGreatDoorCk17
import Derived.Deep.LoopGhost
set_option maxRecDepth 100000
namespace Go.Proofs.YtpjgoogeokbaaaaGreatDoor
open Go.RowKit

def aiw (p q : Rat) : World → Value → Prop := fun W v => ∃ u1 u2, v = .tuple #[u1, u2] ∧ ek p W u1 ∧ ek q W u2
def amk (N D m : Int) : World → Value → Prop := fun W v => ∃ a b c e : Int, Wd.Q7 N D m a b c e ∧ aiw (Rat.divInt a b) (Rat.divInt c e) W v
theorem Own.tail {w W : World} {p : Nat × Rat} {bs : List (Nat × Rat)} (h : Own w (p :: bs) W) : Own w bs W := ⟨h.bel, by have := h.nd; rw [List.map_cons] at this; exact (List.nodup_cons.1 this).2, fun b q hm => h.box b q (List.mem_cons_of_mem _ hm)⟩
structure OkF (N D : Int) : Prop where
 BN : Bd N
 BD : Bd D
 BF : Bd (N / D)
 D0 : 0 < D
 gx : N.natAbs.gcd D.natAbs = 1
theorem okF {N D : Int} (ok : Wd.nk N D) : OkF N D := by
 obtain ⟨o1, o2, o3, o4, o5⟩ := ok
 have g1 : -1000000000000 ≤ N / D := by
  rw [Int.le_ediv_iff_mul_le om]; omega
 have g2 : N / D < 1000000000001 := Int.ediv_lt_of_lt_mul om om
 exact ⟨by unfold Bd; omega, by unfold Bd; omega, by unfold Bd; omega, by omega, o5⟩
theorem aog {N D : Int} (ok : Wd.nk N D) (h0 : N / D * D = N) : N / D = N ∧ 1 = D := by
 obtain ⟨o1, o2, o3, o4, o5⟩ := ok
 have : N * 1 - N / D * D = 0 := by omega
 exact Wd.af5 (N := N) (D := D) (a := N / D) (b := 1) (c := N / D + 1) (e := 1) om om o5 om this
theorem aoh {N D m : Int} (ok : Wd.nk N D) (hm : 1 ≤ m) (h0 : ¬ N / D * D = N) : Wd.Es N D m (N / D) 1 (N / D + 1) 1 := by
 obtain ⟨o1, o2, o3, o4, o5⟩ := ok
 have f1 := Int.emod_add_mul_ediv N D
 rw [Int.mul_comm] at f1
 refine Wd.an0 ?_ hm o3 o4 om
 rcases Int.lt_or_le 1 D with g | g
 ·
  exact g
 ·
  exact absurd (by have : D = 1 := by omega
                   rw [this]; omega) h0
set_option maxHeartbeats 16000000 in
theorem aka (N D m : Int) (ok : Wd.nk N D) (hm : 1 ≤ m) (hm2 : m ≤ 1000000000000) (w : World) (u1 : Value) (h1 : ek (Rat.divInt N D) w u1) :
  Calls Tryz.prog 63 #[u1, .int .i64 m] w (qh (amk N D m) w) := by
 obtain ⟨A1, c1, l1, m1, A2, c2, l2, m2, rfl, hq1⟩ := h1
 have Ml := hide ok
 have HST := hide (fun h0 => aog ok h0)
 have HB0 := hide (fun h0 => aoh ok hm h0)
 have OK := okF ok
 have Gl := hide OK
 clear ok OK
 go_enter Tryz.func63, Tryz.ntmps63
 go_upto_region 1 with fail
 have hO := (Own.Rn (Own.Rn (Own.push (Own.nil w) (hq1.below (Below.refl _ _)) (w.heap.size) rfl) (w.heap.size + 1) (by simp only [World.size_alloc])) (w.heap.size + 2) (by simp only [World.size_alloc]))
 generalize ((w.alloc (.cells #[.slice A1 l1.length c1, .bool m1, .slice A2 l2.length c2, .bool m2] 52)).alloc (.cells #[.slice none 0 0, .bool false, .slice none 0 0, .bool false] 52)).alloc (.cells #[.slice none 0 0, .bool false, .slice none 0 0, .bool false] 52) = W0 at *
 have HO := hide hO
 clear hO
 go_upto_region 1 with fail
 refine Rg.region 8 130 (Rg.pick [ek (Rat.divInt N D), ek (Rat.divInt (N / D) 1), ek (Rat.divInt N D), ek (Rat.divInt (N / D) 1), ek (Rat.divInt (1) 1), ek (Rat.divInt (N / D + 1) 1), Cv W0.heap.size, Cv W0.heap.size]) (cz w [(w.heap.size + 2, 0), (w.heap.size + 1, 0), (w.heap.size, Rat.divInt N D)] W0) og [6, 7] kr kr rfl (Rg.oo.pick ⟨df _, df _, df _, df _, df _, df _, Ct _, Ct _, trivial⟩) (cz.start (aa HO))
  (Rg.ax (Rg.plain rfl (gy rfl (Rg.ja kr rfl) (fun W h => cz.box (List.Mem.tail _ (List.Mem.tail _ (List.Mem.head _))) h) rfl))
   (Rg.ax (Rg.plain rfl (kz Tryz.func56 kr rfl cz.step (Rg.dw 0 kr) (fun W v0 hG h0 => Oo (aa Gl).BN (aa Gl).BD (aa Gl).D0 W v0 h0)))
   (Rg.ax (Rg.plain rfl (gy rfl (Rg.ja kr rfl) (fun W h => cz.box (List.Mem.tail _ (List.Mem.tail _ (List.Mem.head _))) h) rfl))
   (Rg.ax (Rg.plain rfl (kz Tryz.func56 kr rfl cz.step (Rg.dw 2 kr) (fun W v0 hG h0 => Oo (aa Gl).BN (aa Gl).BD (aa Gl).D0 W v0 h0)))
   (Rg.ax (Rg.plain rfl (kz Tryz.func72 kr rfl cz.step (Rg.yf _) (fun W v0 hG h0 => by cases h0; exact Gs 1 om om W)))
   (Rg.ax (Rg.plain rfl (jh Tryz.func43 kr rfl cz.step (Rg.dw 3 kr) (Rg.dw 4 kr) (fun W v0 v1 hG h0 h1 => F8 (aa Gl).BF Xc W v0 v1 h0 h1)))
   (Rg.ax (Rg.plain rfl (F7 cz.step cz.size rfl (En (by intro j hj; simp at hj; (repeat' (first | (rcases hj with rfl | hj))) <;> first | (subst hj; rfl) | rfl))))
   (Rg.ax (Rg.plain rfl (F7 cz.step cz.size rfl (En (by intro j hj; simp at hj; (repeat' (first | (rcases hj with rfl | hj))) <;> first | (subst hj; rfl) | rfl))))
   Rg.jc)))))))) ?_
 intro v V1 hG1 hv hne
 simp only [Rg.puts, List.take_succ_cons, List.take_zero, List.drop_succ_cons, List.drop_zero, Act.put, List.setIfInBounds_toArray, List.set_cons_zero, List.set_cons_succ]
 obtain ⟨Xu, Xb, Vs, Vl, Xt, Xa, Vr, Vk, e1, f1⟩ := (show ek (Rat.divInt (N / D) 1) V1 (v 1) from hv 1 (by decide))
 obtain ⟨a1i, a0u, az1, azj, a1h, a0t, az0, azi, e5, f5⟩ := (show ek (Rat.divInt (N / D + 1) 1) V1 (v 5) from hv 5 (by decide))
 obtain ⟨su, e6, Y4, hz6⟩ := (show Cv W0.heap.size V1 (v 6) from hv 6 (by decide))
 obtain ⟨pg, e7, P8, Z9⟩ := (show Cv W0.heap.size V1 (v 7) from hv 7 (by decide))
 simp only [e1, e5, e6, e7]
 have hO := hG1.1
 have hnn : pg ≠ su := fun h => hne 7 6 rfl rfl (by decide) (by decide) (by decide) rfl rfl (by rw [e6, e7, h])
 clear hne
 replace hO := Own.axy (aa HO) hG1.2 Y4 hz6 P8 Z9 hnn
 obtain ⟨-, _, _, _, _, _, _, _, _, hz, -⟩ := hO.box (su) (0) (List.Mem.tail _ (List.Mem.head _))
 have Xy := ag hz 0
 have Yp := ah hz 0
 have Xx := ag hz 1
 have Ym := ah hz 1
 have Xw := ag hz 2
 have Yl := ah hz 2
 have Xv := ag hz 3
 have Yk := ah hz 3
 have Y2 := lt_of_block hz
 clear hz
 obtain ⟨-, _, _, _, _, _, _, _, _, hz, -⟩ := hO.box (pg) (0) (List.Mem.head _)
 have Ns := ag hz 0
 have N9 := ah hz 0
 have Nq := ag hz 1
 have N7 := ah hz 1
 have Nn := ag hz 2
 have Ny := ah hz 2
 have Nk := ag hz 3
 have Nv := ah hz 3
 have Oj := lt_of_block hz
 clear hz
 go_upto_region 2 with fail
 have aeb := Qo (v0 := .slice Xu Vs.length Xb) (v1 := .bool Vl) (v2 := .slice Xt Vr.length Xa) (v3 := .bool Vk) (hO.box (su) (0) (List.Mem.tail _ (List.Mem.head _))).2 f5
 replace hO := Own.set (xs := [(pg, 0)]) (ys := [(w.heap.size + 2, 0), (w.heap.size + 1, 0), (w.heap.size, Rat.divInt N D)]) hO f1
 replace hO := Own.set (xs := []) (ys := [(su, Rat.divInt (N / D) 1), (w.heap.size + 2, 0), (w.heap.size + 1, 0), (w.heap.size, Rat.divInt N D)]) hO aeb
 unfold Cf at hO
 generalize (((((((V1.setCell ⟨su, 0, none⟩ (.slice Xu Vs.length Xb)).setCell ⟨su, 1, none⟩ (.bool Vl)).setCell ⟨su, 2, none⟩ (.slice Xt Vr.length Xa)).setCell ⟨su, 3, none⟩ (.bool Vk)).setCell ⟨pg, 0, none⟩ (.slice a1i az1.length a0u)).setCell ⟨pg, 1, none⟩ (.bool azj)).setCell ⟨pg, 2, none⟩ (.slice a1h az0.length a0t)).setCell ⟨pg, 3, none⟩ (.bool azi) = U1 at *
 try clear Xy Yp Xx Ym Xw Yl Xv Yk Ns N9 Nq N7 Nn Ny Nk Nv hG1
 try clear e1 e5 e6 e7 f1 f5 aeb Y4 hz6 P8 Z9 hnn Y2 Oj
 try clear hv
 replace HO := hide hO
 clear hO
 by_cases h0 : N / D * D = N
 ·
  have d1 : (gm (N / D * D - N * 1) == 0) = true := Ob om
  go_upto_region 2 with fail
  refine Rg.tq 4 130 (Rg.pick [ek (Rat.divInt (N / D) 1), ek (Rat.divInt N D), Rg.ji (.int .i64 (gm (N / D * D - N * 1))), Rg.ji (.bool (true))]) (cz w [(pg, Rat.divInt (N / D + 1) 1), (su, Rat.divInt (N / D) 1), (w.heap.size + 2, 0), (w.heap.size + 1, 0), (w.heap.size, Rat.divInt N D)] U1) og [] kr rfl (Rg.oo.pick ⟨df _, df _, Rg.fw _, Rg.fw _, trivial⟩) (cz.begin (aa HO))
   (Rg.ax (Rg.plain rfl (gy rfl (Rg.ja kr rfl) (fun W h => cz.box (List.Mem.tail _ (List.Mem.head _)) h) rfl))
    (Rg.ax (Rg.plain rfl (gy rfl (Rg.ja kr rfl) (fun W h => cz.box (List.Mem.tail _ (List.Mem.tail _ (List.Mem.tail _ (List.Mem.tail _ (List.Mem.head _))))) h) rfl))
    (Rg.ax (Rg.plain rfl (jh Tryz.func64 kr rfl cz.step (Rg.dw 0 kr) (Rg.dw 1 kr) (fun W v0 v1 hG h0 h1 => (Oq (aa Gl).BF Xc (aa Gl).BN (aa Gl).BD om (aa Gl).D0 (by simp) (aa Gl).gx) W v0 v1 h0 h1)))
    (Rg.ax (Rg.plain rfl (Jv rfl (Rg.dw 2 kr) (Rg.yf _) rfl d1))
    Rg.jc)))) ?_
  intro v V2 hG2 hv hne
  clear hne
  simp only [Rg.puts, List.take_succ_cons, List.take_zero, List.drop_succ_cons, List.drop_zero, Act.put, List.setIfInBounds_toArray, List.set_cons_zero, List.set_cons_succ]
  have e3 : v 3 = .bool (true) := hv 3 (by decide)
  simp only [e3]
  have hO := hG2.1
  clear hG2
  try clear e3
  try clear hv
  replace HO := hide hO
  clear hO
  clear d1
  go_upto_region 3 with fail
  have hO : Own w [(w.heap.size + 1, 0), (w.heap.size + 2, 0), (pg, Rat.divInt (N / D + 1) 1), (su, Rat.divInt (N / D) 1), (w.heap.size, Rat.divInt N D)] V2 := (Own.front (xs := [(w.heap.size + 2, 0), (pg, Rat.divInt (N / D + 1) 1), (su, Rat.divInt (N / D) 1)]) (ys := [(w.heap.size, Rat.divInt N D)]) (Own.front (xs := [(pg, Rat.divInt (N / D + 1) 1), (su, Rat.divInt (N / D) 1)]) (ys := [(w.heap.size + 1, 0), (w.heap.size, Rat.divInt N D)]) (aa HO)))
  refine Rg.region 4 130 (Rg.pick [ek (Rat.divInt (N / D) 1), ek (Rat.divInt (N / D) 1), fun W _ => uj W (w.heap.size + 1) (Rat.divInt (N / D) 1), fun W _ => uj W (w.heap.size + 2) (Rat.divInt (N / D) 1)]) (Fq w [(pg, Rat.divInt (N / D + 1) 1), (su, Rat.divInt (N / D) 1), (w.heap.size, Rat.divInt N D)] (w.heap.size + 1) (w.heap.size + 2)) (Qk (w.heap.size + 1) (w.heap.size + 2) (Rat.divInt (N / D) 1) (Rat.divInt (N / D) 1)) [] kr kr rfl (Rg.oo.pick ⟨Co _, Co _, Iy, Iw, trivial⟩) ⟨0, 0, Own.step _ _ hO (og.drew _)⟩
   (Rg.ax (Az (Rg.ja kr rfl) (List.Mem.tail _ (List.Mem.head _)) rfl)
    (Rg.ax (Az (Rg.ja kr rfl) (List.Mem.tail _ (List.Mem.head _)) rfl)
    (Rg.ax (Lm (Rg.ja kr rfl) (Rg.dw 0 kr) rfl)
    (Rg.ax (Ll (Rg.ja kr rfl) (Rg.dw 1 kr) rfl)
    Rg.jc)))) ?_
  clear hO HO
  intro v V3 hG hv hne
  clear hne
  simp only [Rg.puts, List.take_succ_cons, List.take_zero, List.drop_succ_cons, List.drop_zero, Act.put, List.setIfInBounds_toArray, List.set_cons_zero, List.set_cons_succ]
  have HO := hide (Fq.fin hG (hv 2 (by decide)) (hv 3 (by decide)))
  clear hG hv
  go_wp2_with fail
  obtain ⟨-, ni, mo, ma, mg, mq, mi, lv, mf, dh, mh⟩ := (aa HO).box _ _ (List.Mem.head _)
  have iw := ag dh 0
  have iq := ag dh 1
  have il := ag dh 2
  have ik := ag dh 3
  have iy := lt_of_block dh
  clear dh
  obtain ⟨-, x8, xx, xm, xq, xz, xw, xk, xn, jb, xu⟩ := (aa HO).box _ _ (List.Mem.tail _ (List.Mem.head _))
  have vw := ag jb 0
  have vv := ag jb 1
  have vo := ag jb 2
  have vk := ag jb 3
  have wu := lt_of_block jb
  clear jb
  exact bodyPost_ret (v := .tuple #[.agg #[.slice ni ma.length mo, .bool mg, .slice mq lv.length mi, .bool mf], .agg #[.slice x8 xm.length xx, .bool xq, .slice xz xk.length xw, .bool xn]]) (by simp [results, Tryz.results63, go_sem, iw, iq, il, ik, vw, vv, vo, vk, iy, wu]) rfl
   ⟨_, rfl, (aa HO).bel, ⟨N / D, 1, N / D, 1, .inl ⟨by have := ((aa HST) h0).2; omega, ((aa HST) h0).1, ((aa HST) h0).2, ((aa HST) h0).1, ((aa HST) h0).2⟩, ⟨_, _, rfl, ⟨_, _, _, _, _, _, _, _, rfl, mh⟩, ⟨_, _, _, _, _, _, _, _, rfl, xu⟩⟩⟩⟩
 ·
  have d1 : (gm (N / D * D - N * 1) == 0) = false := Oa om
  go_upto_region 2 with fail
  refine Rg.tq 4 130 (Rg.pick [ek (Rat.divInt (N / D) 1), ek (Rat.divInt N D), Rg.ji (.int .i64 (gm (N / D * D - N * 1))), Rg.ji (.bool (false))]) (cz w [(pg, Rat.divInt (N / D + 1) 1), (su, Rat.divInt (N / D) 1), (w.heap.size + 2, 0), (w.heap.size + 1, 0), (w.heap.size, Rat.divInt N D)] U1) og [] kr rfl (Rg.oo.pick ⟨df _, df _, Rg.fw _, Rg.fw _, trivial⟩) (cz.begin (aa HO))
   (Rg.ax (Rg.plain rfl (gy rfl (Rg.ja kr rfl) (fun W h => cz.box (List.Mem.tail _ (List.Mem.head _)) h) rfl))
    (Rg.ax (Rg.plain rfl (gy rfl (Rg.ja kr rfl) (fun W h => cz.box (List.Mem.tail _ (List.Mem.tail _ (List.Mem.tail _ (List.Mem.tail _ (List.Mem.head _))))) h) rfl))
    (Rg.ax (Rg.plain rfl (jh Tryz.func64 kr rfl cz.step (Rg.dw 0 kr) (Rg.dw 1 kr) (fun W v0 v1 hG h0 h1 => (Oq (aa Gl).BF Xc (aa Gl).BN (aa Gl).BD om (aa Gl).D0 (by simp) (aa Gl).gx) W v0 v1 h0 h1)))
    (Rg.ax (Rg.plain rfl (Jv rfl (Rg.dw 2 kr) (Rg.yf _) rfl d1))
    Rg.jc)))) ?_
  intro v V2 hG2 hv hne
  clear hne
  simp only [Rg.puts, List.take_succ_cons, List.take_zero, List.drop_succ_cons, List.drop_zero, Act.put, List.setIfInBounds_toArray, List.set_cons_zero, List.set_cons_succ]
  have e3 : v 3 = .bool (false) := hv 3 (by decide)
  simp only [e3]
  have hO := hG2.1
  clear hG2
  try clear e3
  try clear hv
  replace HO := hide hO
  clear hO
  clear d1
  have HB := hide ((aa HB0) h0)
  clear HB0 HST h0
  go_wp2_with fail
  go_loopg [] (m + 2).toNat (fun g wr => ∃ a b c e : Int, Wd.Es N D m a b c e ∧ Hid (m + 2 ≤ (g : Int) + (b + e)) ∧ Own w [(pg, Rat.divInt c e), (su, Rat.divInt a b), (w.heap.size + 2, 0), (w.heap.size + 1, 0), (w.heap.size, Rat.divInt N D)] wr)
  case atStart => exact ⟨N / D, 1, N / D + 1, 1, aa HB, hide om, aa HO⟩
  case round =>
   clear HO HB
   obtain ⟨a, b, c, e, hS, hgk, hO⟩ := hrel
   have HO := hide hO
   clear hO
   have RF := hide (hS.rd (aa Ml) hm2)
   have HS := hide hS
   clear hS
   by_cases hs : m < b + e
   ·
    have d1 : decide (gm (b + e - m) ≤ 0) = false := atm om
    go_upto_region 4 with fail
    refine Rg.region 9 130 (Rg.pick [ek (Rat.divInt a b), ek (Rat.divInt (b) 1), ek (Rat.divInt c e), ek (Rat.divInt (e) 1), ek (Rat.divInt (b + e) 1), Rg.ji (.int .i64 m), ek (Rat.divInt (m) 1), Rg.ji (.int .i64 (gm (b + e - m))), Rg.ji (.bool (false))]) (cz w [(pg, Rat.divInt c e), (su, Rat.divInt a b), (w.heap.size + 2, 0), (w.heap.size + 1, 0), (w.heap.size, Rat.divInt N D)] wr) og [] kr kr rfl (Rg.oo.pick ⟨df _, df _, df _, df _, df _, Rg.fw _, df _, Rg.fw _, Rg.fw _, trivial⟩) (cz.start (aa HO))
     (Rg.ax (Rg.plain rfl (gy rfl (Rg.ja kr rfl) (fun W h => cz.box (List.Mem.tail _ (List.Mem.head _)) h) rfl))
      (Rg.ax (Rg.plain rfl (kz Tryz.func65 kr rfl cz.step (Rg.dw 0 kr) (fun W v0 hG h0 => Aw (aa RF).b0 (aa RF).ga W v0 h0)))
      (Rg.ax (Rg.plain rfl (gy rfl (Rg.ja kr rfl) (fun W h => cz.box (List.Mem.head _) h) rfl))
      (Rg.ax (Rg.plain rfl (kz Tryz.func65 kr rfl cz.step (Rg.dw 2 kr) (fun W v0 hG h0 => Aw (aa RF).e0 (aa RF).gc W v0 h0)))
      (Rg.ax (Rg.plain rfl (jh Tryz.func43 kr rfl cz.step (Rg.dw 1 kr) (Rg.dw 3 kr) (fun W v0 v1 hG h0 h1 => F8 (aa RF).Bb (aa RF).Be W v0 v1 h0 h1)))
      (Rg.ax (Rg.plain rfl (u7 rfl (Rg.ja kr rfl)))
      (Rg.ax (Rg.plain rfl (kz Tryz.func72 kr rfl cz.step (Rg.dw 5 kr) (fun W v0 hG h0 => by cases h0; exact Gs m om om W)))
      (Rg.ax (Rg.plain rfl (jh Tryz.func64 kr rfl cz.step (Rg.dw 4 kr) (Rg.dw 6 kr) (fun W v0 v1 hG h0 h1 => Lv (aa RF).Bs (aa RF).Bm W v0 v1 h0 h1)))
      (Rg.ax (Rg.plain rfl (aqg rfl (Rg.dw 7 kr) (Rg.yf _) rfl d1))
      Rg.jc))))))))) ?_
    intro v V3 hG3 hv hne
    clear hne
    simp only [Rg.puts, List.take_succ_cons, List.take_zero, List.drop_succ_cons, List.drop_zero, Act.put, List.setIfInBounds_toArray, List.set_cons_zero, List.set_cons_succ]
    have e8 : v 8 = .bool (false) := hv 8 (by decide)
    simp only [e8]
    have hO := hG3.1
    clear hG3
    try clear e8
    try clear hv
    replace HO := hide hO
    clear hO
    clear d1
    go_upto_region 16 with fail
    have hO : Own w [(w.heap.size + 1, 0), (w.heap.size + 2, 0), (pg, Rat.divInt c e), (su, Rat.divInt a b), (w.heap.size, Rat.divInt N D)] V3 := (Own.front (xs := [(w.heap.size + 2, 0), (pg, Rat.divInt c e), (su, Rat.divInt a b)]) (ys := [(w.heap.size, Rat.divInt N D)]) (Own.front (xs := [(pg, Rat.divInt c e), (su, Rat.divInt a b)]) (ys := [(w.heap.size + 1, 0), (w.heap.size, Rat.divInt N D)]) (aa HO)))
    refine Rg.region 4 130 (Rg.pick [ek (Rat.divInt a b), ek (Rat.divInt c e), fun W _ => uj W (w.heap.size + 1) (Rat.divInt a b), fun W _ => uj W (w.heap.size + 2) (Rat.divInt c e)]) (Fq w [(pg, Rat.divInt c e), (su, Rat.divInt a b), (w.heap.size, Rat.divInt N D)] (w.heap.size + 1) (w.heap.size + 2)) (Qk (w.heap.size + 1) (w.heap.size + 2) (Rat.divInt a b) (Rat.divInt c e)) [] kr kr rfl (Rg.oo.pick ⟨Co _, Co _, Iy, Iw, trivial⟩) ⟨0, 0, Own.step _ _ hO (og.drew _)⟩
     (Rg.ax (Az (Rg.ja kr rfl) (List.Mem.tail _ (List.Mem.head _)) rfl)
      (Rg.ax (Az (Rg.ja kr rfl) (List.Mem.head _) rfl)
      (Rg.ax (Lm (Rg.ja kr rfl) (Rg.dw 0 kr) rfl)
      (Rg.ax (Ll (Rg.ja kr rfl) (Rg.dw 1 kr) rfl)
      Rg.jc)))) ?_
    clear hO HO
    intro v V4 hG hv hne
    clear hne
    simp only [Rg.puts, List.take_succ_cons, List.take_zero, List.drop_succ_cons, List.drop_zero, Act.put, List.setIfInBounds_toArray, List.set_cons_zero, List.set_cons_succ]
    have HO := hide (Fq.fin hG (hv 2 (by decide)) (hv 3 (by decide)))
    clear hG hv
    go_wp2_with fail
    obtain ⟨-, ni, mo, ma, mg, mq, mi, lv, mf, dh, mh⟩ := (aa HO).box _ _ (List.Mem.head _)
    have iw := ag dh 0
    have iq := ag dh 1
    have il := ag dh 2
    have ik := ag dh 3
    have iy := lt_of_block dh
    clear dh
    obtain ⟨-, x8, xx, xm, xq, xz, xw, xk, xn, jb, xu⟩ := (aa HO).box _ _ (List.Mem.tail _ (List.Mem.head _))
    have vw := ag jb 0
    have vv := ag jb 1
    have vo := ag jb 2
    have vk := ag jb 3
    have wu := lt_of_block jb
    clear jb
    exact bodyPost_ret (v := .tuple #[.agg #[.slice ni ma.length mo, .bool mg, .slice mq lv.length mi, .bool mf], .agg #[.slice x8 xm.length xx, .bool xq, .slice xz xk.length xw, .bool xn]]) (by simp [results, Tryz.results63, go_sem, iw, iq, il, ik, vw, vv, vo, vk, iy, wu]) rfl
     ⟨_, rfl, (aa HO).bel, ⟨a, b, c, e, .inr ((aa HS).sides om), ⟨_, _, rfl, ⟨_, _, _, _, _, _, _, _, rfl, mh⟩, ⟨_, _, _, _, _, _, _, _, rfl, xu⟩⟩⟩⟩
   ·
    have d1 : decide (gm (b + e - m) ≤ 0) = true := atn om
    go_upto_region 4 with fail
    refine Rg.region 9 130 (Rg.pick [ek (Rat.divInt a b), ek (Rat.divInt (b) 1), ek (Rat.divInt c e), ek (Rat.divInt (e) 1), ek (Rat.divInt (b + e) 1), Rg.ji (.int .i64 m), ek (Rat.divInt (m) 1), Rg.ji (.int .i64 (gm (b + e - m))), Rg.ji (.bool (true))]) (cz w [(pg, Rat.divInt c e), (su, Rat.divInt a b), (w.heap.size + 2, 0), (w.heap.size + 1, 0), (w.heap.size, Rat.divInt N D)] wr) og [] kr kr rfl (Rg.oo.pick ⟨df _, df _, df _, df _, df _, Rg.fw _, df _, Rg.fw _, Rg.fw _, trivial⟩) (cz.start (aa HO))
     (Rg.ax (Rg.plain rfl (gy rfl (Rg.ja kr rfl) (fun W h => cz.box (List.Mem.tail _ (List.Mem.head _)) h) rfl))
      (Rg.ax (Rg.plain rfl (kz Tryz.func65 kr rfl cz.step (Rg.dw 0 kr) (fun W v0 hG h0 => Aw (aa RF).b0 (aa RF).ga W v0 h0)))
      (Rg.ax (Rg.plain rfl (gy rfl (Rg.ja kr rfl) (fun W h => cz.box (List.Mem.head _) h) rfl))
      (Rg.ax (Rg.plain rfl (kz Tryz.func65 kr rfl cz.step (Rg.dw 2 kr) (fun W v0 hG h0 => Aw (aa RF).e0 (aa RF).gc W v0 h0)))
      (Rg.ax (Rg.plain rfl (jh Tryz.func43 kr rfl cz.step (Rg.dw 1 kr) (Rg.dw 3 kr) (fun W v0 v1 hG h0 h1 => F8 (aa RF).Bb (aa RF).Be W v0 v1 h0 h1)))
      (Rg.ax (Rg.plain rfl (u7 rfl (Rg.ja kr rfl)))
      (Rg.ax (Rg.plain rfl (kz Tryz.func72 kr rfl cz.step (Rg.dw 5 kr) (fun W v0 hG h0 => by cases h0; exact Gs m om om W)))
      (Rg.ax (Rg.plain rfl (jh Tryz.func64 kr rfl cz.step (Rg.dw 4 kr) (Rg.dw 6 kr) (fun W v0 v1 hG h0 h1 => Lv (aa RF).Bs (aa RF).Bm W v0 v1 h0 h1)))
      (Rg.ax (Rg.plain rfl (aqg rfl (Rg.dw 7 kr) (Rg.yf _) rfl d1))
      Rg.jc))))))))) ?_
    intro v V3 hG3 hv hne
    clear hne
    simp only [Rg.puts, List.take_succ_cons, List.take_zero, List.drop_succ_cons, List.drop_zero, Act.put, List.setIfInBounds_toArray, List.set_cons_zero, List.set_cons_succ]
    have e8 : v 8 = .bool (true) := hv 8 (by decide)
    simp only [e8]
    have hO := hG3.1
    clear hG3
    try clear e8
    try clear hv
    replace HO := hide hO
    clear hO
    clear d1
    obtain ⟨k, hk⟩ : ∃ k, k = Wd.Gf (N * b - a * D) (c * D - N * e) m b e := ⟨_, rfl⟩
    have KF := hide ((aa HS).rk (aa Ml) hm2 hk)
    go_upto_region 5 with fail
    refine Rg.region 21 130 (Rg.pick [ek (Rat.divInt N D), ek (Rat.divInt a b), ek (Rat.divInt (b) 1), ek (Rat.divInt (N * b) D), ek (Rat.divInt a b), ek (Rat.divInt (a) 1), ek (Rat.divInt (N * b - a * D) D), ek (Rat.divInt c e), ek (Rat.divInt (c) 1), ek (Rat.divInt N D), ek (Rat.divInt c e), ek (Rat.divInt (e) 1), ek (Rat.divInt (N * e) D), ek (Rat.divInt (c * D - N * e) D), ek (Rat.divInt a b), ek (Rat.divInt (b) 1), ek (Rat.divInt c e), ek (Rat.divInt (e) 1), Rg.ji (.int .i64 m), ek (Rat.divInt (k) 1), Cv V3.heap.size]) (cz w [(pg, Rat.divInt c e), (su, Rat.divInt a b), (w.heap.size + 2, 0), (w.heap.size + 1, 0), (w.heap.size, Rat.divInt N D)] V3) og [20] kr kr rfl (Rg.oo.pick ⟨df _, df _, df _, df _, df _, df _, df _, df _, df _, df _, df _, df _, df _, df _, df _, df _, df _, df _, Rg.fw _, df _, Ct _, trivial⟩) (cz.start (aa HO))
     (Rg.ax (Rg.plain rfl (gy rfl (Rg.ja kr rfl) (fun W h => cz.box (List.Mem.tail _ (List.Mem.tail _ (List.Mem.tail _ (List.Mem.tail _ (List.Mem.head _))))) h) rfl))
      (Rg.ax (Rg.plain rfl (gy rfl (Rg.ja kr rfl) (fun W h => cz.box (List.Mem.tail _ (List.Mem.head _)) h) rfl))
      (Rg.ax (Rg.plain rfl (kz Tryz.func65 kr rfl cz.step (Rg.dw 1 kr) (fun W v0 hG h0 => Aw (aa RF).b0 (aa RF).ga W v0 h0)))
      (Rg.ax (Rg.plain rfl (jh Tryz.func45 kr rfl cz.step (Rg.dw 0 kr) (Rg.dw 2 kr) (fun W v0 v1 hG h0 h1 => Qt (aa RF).BN (aa RF).BD (by have := (aa RF).D0; omega) (aa RF).Bb W v0 v1 h0 h1)))
      (Rg.ax (Rg.plain rfl (gy rfl (Rg.ja kr rfl) (fun W h => cz.box (List.Mem.tail _ (List.Mem.head _)) h) rfl))
      (Rg.ax (Rg.plain rfl (kz Tryz.func115 kr rfl cz.step (Rg.dw 4 kr) (fun W v0 hG h0 => Mx (aa RF).b0 (aa RF).ga W v0 h0)))
      (Rg.ax (Rg.plain rfl (jh Tryz.func44 kr rfl cz.step (Rg.dw 3 kr) (Rg.dw 5 kr) (fun W v0 v1 hG h0 h1 => adk (aa RF).BNb (aa RF).BD (by have := (aa RF).D0; omega) (aa RF).Ba W v0 v1 h0 h1)))
      (Rg.ax (Rg.plain rfl (gy rfl (Rg.ja kr rfl) (fun W h => cz.box (List.Mem.head _) h) rfl))
      (Rg.ax (Rg.plain rfl (kz Tryz.func115 kr rfl cz.step (Rg.dw 7 kr) (fun W v0 hG h0 => Mx (aa RF).e0 (aa RF).gc W v0 h0)))
      (Rg.ax (Rg.plain rfl (gy rfl (Rg.ja kr rfl) (fun W h => cz.box (List.Mem.tail _ (List.Mem.tail _ (List.Mem.tail _ (List.Mem.tail _ (List.Mem.head _))))) h) rfl))
      (Rg.ax (Rg.plain rfl (gy rfl (Rg.ja kr rfl) (fun W h => cz.box (List.Mem.head _) h) rfl))
      (Rg.ax (Rg.plain rfl (kz Tryz.func65 kr rfl cz.step (Rg.dw 10 kr) (fun W v0 hG h0 => Aw (aa RF).e0 (aa RF).gc W v0 h0)))
      (Rg.ax (Rg.plain rfl (jh Tryz.func45 kr rfl cz.step (Rg.dw 9 kr) (Rg.dw 11 kr) (fun W v0 v1 hG h0 h1 => Qt (aa RF).BN (aa RF).BD (by have := (aa RF).D0; omega) (aa RF).Be W v0 v1 h0 h1)))
      (Rg.ax (Rg.plain rfl (jh Tryz.func44 kr rfl cz.step (Rg.dw 8 kr) (Rg.dw 12 kr) (fun W v0 v1 hG h0 h1 => af2 (aa RF).BNe (aa RF).BD (by have := (aa RF).D0; omega) (aa RF).Bc W v0 v1 h0 h1)))
      (Rg.ax (Rg.plain rfl (gy rfl (Rg.ja kr rfl) (fun W h => cz.box (List.Mem.tail _ (List.Mem.head _)) h) rfl))
      (Rg.ax (Rg.plain rfl (kz Tryz.func65 kr rfl cz.step (Rg.dw 14 kr) (fun W v0 hG h0 => Aw (aa RF).b0 (aa RF).ga W v0 h0)))
      (Rg.ax (Rg.plain rfl (gy rfl (Rg.ja kr rfl) (fun W h => cz.box (List.Mem.head _) h) rfl))
      (Rg.ax (Rg.plain rfl (kz Tryz.func65 kr rfl cz.step (Rg.dw 16 kr) (fun W v0 hG h0 => Aw (aa RF).e0 (aa RF).gc W v0 h0)))
      (Rg.ax (Rg.plain rfl (u7 rfl (Rg.ja kr rfl)))
      (Rg.ax (Rg.plain rfl (afq Tryz.func114 kr rfl cz.step (Rg.dw 6 kr) (Rg.dw 13 kr) (Rg.dw 15 kr) (Rg.dw 17 kr) (Rg.dw 18 kr) (fun W v0 v1 v2 v3 v4 hG h0 h1 h2 h3 h4 => by cases h4; rw [hk]; exact aah (aa HS).lo (aa HS).hi (aa RF).D0 (aa RF).BL (aa RF).BH (aa RF).BD (aa HS).bm (aa HS).b1 (aa HS).e1 (aa HS).em hm2 W v0 v1 v2 v3 h0 h1 h2 h3)))
      (Rg.ax (Rg.plain rfl (F7 cz.step cz.size rfl (En (by intro j hj; simp at hj; (repeat' (first | (rcases hj with rfl | hj))) <;> first | (subst hj; rfl) | rfl))))
      Rg.jc))))))))))))))))))))) ?_
    intro v V4 hG4 hv hne
    clear hne
    simp only [Rg.puts, List.take_succ_cons, List.take_zero, List.drop_succ_cons, List.drop_zero, Act.put, List.setIfInBounds_toArray, List.set_cons_zero, List.set_cons_succ]
    obtain ⟨a1a, a0m, azt, azb, a09, a0l, azs, aza, e19, f19⟩ := (show ek (Rat.divInt (k) 1) V4 (v 19) from hv 19 (by decide))
    obtain ⟨xy, e20, Wl, adn⟩ := (show Cv V3.heap.size V4 (v 20) from hv 20 (by decide))
    simp only [e19, e20]
    have hO := hG4.1
    replace hO := Own.add (aa HO) hG4.2 Wl adn
    obtain ⟨-, _, _, _, _, _, _, _, _, hz, -⟩ := hO.box (xy) (0) (List.Mem.head _)
    have am8 := ag hz 0
    have anj := ah hz 0
    have am7 := ag hz 1
    have ani := ah hz 1
    have am6 := ag hz 2
    have anh := ah hz 2
    have am5 := ag hz 3
    have ang := ah hz 3
    have aou := lt_of_block hz
    clear hz
    go_upto_region 6 with fail
    replace hO := Own.set (xs := []) (ys := [(pg, Rat.divInt c e), (su, Rat.divInt a b), (w.heap.size + 2, 0), (w.heap.size + 1, 0), (w.heap.size, Rat.divInt N D)]) hO f19
    unfold Cf at hO
    generalize (((V4.setCell ⟨xy, 0, none⟩ (.slice a1a azt.length a0m)).setCell ⟨xy, 1, none⟩ (.bool azb)).setCell ⟨xy, 2, none⟩ (.slice a09 azs.length a0l)).setCell ⟨xy, 3, none⟩ (.bool aza) = U4 at *
    try clear am8 anj am7 ani am6 anh am5 ang hG4
    try clear e19 e20 f19 Wl adn aou
    try clear hv
    replace HO := hide hO
    clear hO
    go_upto_region 6 with fail
    refine Rg.tq 3 130 (Rg.pick [ek (Rat.divInt (k) 1), Rg.ji (.int .i64 (gm k)), Rg.ji (.bool (decide (0 < gm k)))]) (cz w [(xy, Rat.divInt (k) 1), (pg, Rat.divInt c e), (su, Rat.divInt a b), (w.heap.size + 2, 0), (w.heap.size + 1, 0), (w.heap.size, Rat.divInt N D)] U4) og [] kr rfl (Rg.oo.pick ⟨df _, Rg.fw _, Rg.fw _, trivial⟩) (cz.begin (aa HO))
     (Rg.ax (Rg.plain rfl (gy rfl (Rg.ja kr rfl) (fun W h => cz.box (List.Mem.head _) h) rfl))
      (Rg.ax (Rg.plain rfl (kz Tryz.func116 kr rfl cz.step (Rg.dw 0 kr) (fun W v0 hG h0 => alj W v0 h0)))
      (Rg.ax (Rg.plain rfl (Hu rfl (Rg.dw 1 kr) (Rg.yf _) rfl rfl))
      Rg.jc))) ?_
    intro v V5 zy hv hne
    clear hne
    simp only [Rg.puts, List.take_succ_cons, List.take_zero, List.drop_succ_cons, List.drop_zero, Act.put, List.setIfInBounds_toArray, List.set_cons_zero, List.set_cons_succ]
    have e2 : v 2 = .bool (decide (0 < gm k)) := hv 2 (by decide)
    simp only [e2]
    have hO := zy.1
    clear zy
    try clear e2
    try clear hv
    replace HO := hide hO
    clear hO
    go_upto_if 53 with (fail)
    go_cut [] (fun wx => Own w [(xy, Rat.divInt (k) 1), (pg, Rat.divInt c e), (su, Rat.divInt (a + k * c) (b + k * e)), (w.heap.size + 2, 0), (w.heap.size + 1, 0), (w.heap.size, Rat.divInt N D)] wx)
    case first =>
     by_cases hp : 0 < k
     ·
      have d1 : decide (0 < gm k) = true := Uw hp
      simp only [d1]
      clear d1
      go_upto_region 7 with fail
      refine Rg.region 15 130 (Rg.pick [ek (Rat.divInt a b), ek (Rat.divInt (a) 1), ek (Rat.divInt (k) 1), ek (Rat.divInt c e), ek (Rat.divInt (c) 1), ek (Rat.divInt (k * c) 1), ek (Rat.divInt (a + k * c) 1), ek (Rat.divInt a b), ek (Rat.divInt (b) 1), ek (Rat.divInt (k) 1), ek (Rat.divInt c e), ek (Rat.divInt (e) 1), ek (Rat.divInt (k * e) 1), ek (Rat.divInt (b + k * e) 1), ek (Rat.divInt (a + k * c) (b + k * e))]) (cz w [(xy, Rat.divInt (k) 1), (pg, Rat.divInt c e), (su, Rat.divInt a b), (w.heap.size + 2, 0), (w.heap.size + 1, 0), (w.heap.size, Rat.divInt N D)] V5) og [] kr kr rfl (Rg.oo.pick ⟨df _, df _, df _, df _, df _, df _, df _, df _, df _, df _, df _, df _, df _, df _, df _, trivial⟩) (cz.start (aa HO))
       (Rg.ax (Rg.plain rfl (gy rfl (Rg.ja kr rfl) (fun W h => cz.box (List.Mem.tail _ (List.Mem.tail _ (List.Mem.head _))) h) rfl))
        (Rg.ax (Rg.plain rfl (kz Tryz.func115 kr rfl cz.step (Rg.dw 0 kr) (fun W v0 hG h0 => Mx (aa RF).b0 (aa RF).ga W v0 h0)))
        (Rg.ax (Rg.plain rfl (gy rfl (Rg.ja kr rfl) (fun W h => cz.box (List.Mem.head _) h) rfl))
        (Rg.ax (Rg.plain rfl (gy rfl (Rg.ja kr rfl) (fun W h => cz.box (List.Mem.tail _ (List.Mem.head _)) h) rfl))
        (Rg.ax (Rg.plain rfl (kz Tryz.func115 kr rfl cz.step (Rg.dw 3 kr) (fun W v0 hG h0 => Mx (aa RF).e0 (aa RF).gc W v0 h0)))
        (Rg.ax (Rg.plain rfl (jh Tryz.func45 kr rfl cz.step (Rg.dw 2 kr) (Rg.dw 4 kr) (fun W v0 v1 hG h0 h1 => Vu (aa KF).Bk (aa RF).Bc W v0 v1 h0 h1)))
        (Rg.ax (Rg.plain rfl (jh Tryz.func43 kr rfl cz.step (Rg.dw 1 kr) (Rg.dw 5 kr) (fun W v0 v1 hG h0 h1 => F8 (aa RF).Ba (aa KF).Bkc W v0 v1 h0 h1)))
        (Rg.ax (Rg.plain rfl (gy rfl (Rg.ja kr rfl) (fun W h => cz.box (List.Mem.tail _ (List.Mem.tail _ (List.Mem.head _))) h) rfl))
        (Rg.ax (Rg.plain rfl (kz Tryz.func65 kr rfl cz.step (Rg.dw 7 kr) (fun W v0 hG h0 => Aw (aa RF).b0 (aa RF).ga W v0 h0)))
        (Rg.ax (Rg.plain rfl (gy rfl (Rg.ja kr rfl) (fun W h => cz.box (List.Mem.head _) h) rfl))
        (Rg.ax (Rg.plain rfl (gy rfl (Rg.ja kr rfl) (fun W h => cz.box (List.Mem.tail _ (List.Mem.head _)) h) rfl))
        (Rg.ax (Rg.plain rfl (kz Tryz.func65 kr rfl cz.step (Rg.dw 10 kr) (fun W v0 hG h0 => Aw (aa RF).e0 (aa RF).gc W v0 h0)))
        (Rg.ax (Rg.plain rfl (jh Tryz.func45 kr rfl cz.step (Rg.dw 9 kr) (Rg.dw 11 kr) (fun W v0 v1 hG h0 h1 => Vu (aa KF).Bk (aa RF).Be W v0 v1 h0 h1)))
        (Rg.ax (Rg.plain rfl (jh Tryz.func43 kr rfl cz.step (Rg.dw 8 kr) (Rg.dw 12 kr) (fun W v0 v1 hG h0 h1 => F8 (aa RF).Bb (aa KF).Bke W v0 v1 h0 h1)))
        (Rg.ax (Rg.plain rfl (jh Tryz.func47 kr rfl cz.step (Rg.dw 6 kr) (Rg.dw 13 kr) (fun W v0 v1 hG h0 h1 => Lu (aa KF).Ba (aa KF).Bb (by have := (aa KF).b0; omega) W v0 v1 h0 h1)))
        Rg.jc))))))))))))))) ?_
      intro v V6 Cm hv hne
      clear hne
      simp only [Rg.puts, List.take_succ_cons, List.take_zero, List.drop_succ_cons, List.drop_zero, Act.put, List.setIfInBounds_toArray, List.set_cons_zero, List.set_cons_succ]
      obtain ⟨a04, a0g, azn, ay5, a03, a0f, azm, ay4, e14, f14⟩ := (show ek (Rat.divInt (a + k * c) (b + k * e)) V6 (v 14) from hv 14 (by decide))
      simp only [e14]
      have hO := Cm.1
      obtain ⟨-, _, _, _, _, _, _, _, _, hz, -⟩ := hO.box (su) (Rat.divInt a b) (List.Mem.tail _ (List.Mem.tail _ (List.Mem.head _)))
      have Xy := ag hz 0
      have Yp := ah hz 0
      have Xx := ag hz 1
      have Ym := ah hz 1
      have Xw := ag hz 2
      have Yl := ah hz 2
      have Xv := ag hz 3
      have Yk := ah hz 3
      have Y2 := lt_of_block hz
      clear hz
      go_wp2_with fail
      replace hO := Own.set (xs := [(xy, Rat.divInt (k) 1), (pg, Rat.divInt c e)]) (ys := [(w.heap.size + 2, 0), (w.heap.size + 1, 0), (w.heap.size, Rat.divInt N D)]) hO f14
      unfold Cf at hO
      generalize (((V6.setCell ⟨su, 0, none⟩ (.slice a04 azn.length a0g)).setCell ⟨su, 1, none⟩ (.bool ay5)).setCell ⟨su, 2, none⟩ (.slice a03 azm.length a0f)).setCell ⟨su, 3, none⟩ (.bool ay4) = U6 at *
      try clear Xy Yp Xx Ym Xw Yl Xv Yk Cm
      try clear e14 f14 Y2
      try clear hv
      replace HO := hide hO
      clear hO
      go_meet
      exact aa HO
     ·
      have d1 : decide (0 < gm k) = false := Ld hp
      simp only [d1]
      clear d1
      go_wp2_with fail
      go_meet
      have hk0 : k = 0 := by have := (aa KF).k0; omega
      have h := aa HO
      rwa [show Rat.divInt a b = Rat.divInt (a + k * c) (b + k * e) by rw [hk0, Int.zero_mul, Int.zero_mul, Int.add_zero, Int.add_zero]] at h
    case rest =>
     revert hcut
     generalize wc = C7
     intro hcut
     clear HO
     have HO := hide hcut
     clear hcut
     obtain ⟨a1, ha1⟩ : ∃ z, z = a + k * c := ⟨_, rfl⟩
     obtain ⟨b1, hb1⟩ : ∃ z, z = b + k * e := ⟨_, rfl⟩
     have KG := aa KF
     have hgb := KG.gb
     have K1 := KG.Ba; have K2 := KG.Bb; have K3 := KG.b0; have K4 := KG.bm; have K5 := KG.ga; have K6 := KG.st; have K7 := KG.en
     rw [← hb1] at hgb K2 K3 K4 K5 K6 K7
     rw [← ha1] at K1 K5 K6 K7
     replace HO := hide (by have h := aa HO; rwa [← ha1, ← hb1] at h)
     have H2 := hide K2; have H1 := hide K1; have H3 := hide K3; have H5 := hide K5; have H6 := hide K6; have H7 := hide K7
     clear K1 K2 K3 K5 K6 K7 KG
     by_cases h0 : N * b1 - a1 * D = 0
     ·
      have d1 : (gm (a1 * D - N * b1) == 0) = true := Ob om
      go_upto_region 8 with fail
      refine Rg.tq 4 130 (Rg.pick [ek (Rat.divInt a1 b1), ek (Rat.divInt N D), Rg.ji (.int .i64 (gm (a1 * D - N * b1))), Rg.ji (.bool (true))]) (cz w [(xy, Rat.divInt (k) 1), (pg, Rat.divInt c e), (su, Rat.divInt a1 b1), (w.heap.size + 2, 0), (w.heap.size + 1, 0), (w.heap.size, Rat.divInt N D)] C7) og [] kr rfl (Rg.oo.pick ⟨df _, df _, Rg.fw _, Rg.fw _, trivial⟩) (cz.begin (aa HO))
       (Rg.ax (Rg.plain rfl (gy rfl (Rg.ja kr rfl) (fun W h => cz.box (List.Mem.tail _ (List.Mem.tail _ (List.Mem.head _))) h) rfl))
        (Rg.ax (Rg.plain rfl (gy rfl (Rg.ja kr rfl) (fun W h => cz.box (List.Mem.tail _ (List.Mem.tail _ (List.Mem.tail _ (List.Mem.tail _ (List.Mem.tail _ (List.Mem.head _)))))) h) rfl))
        (Rg.ax (Rg.plain rfl (jh Tryz.func64 kr rfl cz.step (Rg.dw 0 kr) (Rg.dw 1 kr) (fun W v0 v1 hG h0 h1 => (Oq (aa H1) (aa H2) (aa RF).BN (aa RF).BD (aa H3) (aa RF).D0 (aa H5) (aa RF).gx) W v0 v1 h0 h1)))
        (Rg.ax (Rg.plain rfl (Jv rfl (Rg.dw 2 kr) (Rg.yf _) rfl d1))
        Rg.jc)))) ?_
      intro v V8 hG8 hv hne
      clear hne
      simp only [Rg.puts, List.take_succ_cons, List.take_zero, List.drop_succ_cons, List.drop_zero, Act.put, List.setIfInBounds_toArray, List.set_cons_zero, List.set_cons_succ]
      have e3 : v 3 = .bool (true) := hv 3 (by decide)
      simp only [e3]
      have hO := hG8.1
      clear hG8
      try clear e3
      try clear hv
      replace HO := hide hO
      clear hO
      clear d1
      go_upto_region 9 with fail
      have hO : Own w [(w.heap.size + 1, 0), (w.heap.size + 2, 0), (xy, Rat.divInt (k) 1), (pg, Rat.divInt c e), (su, Rat.divInt a1 b1), (w.heap.size, Rat.divInt N D)] V8 := (Own.front (xs := [(w.heap.size + 2, 0), (xy, Rat.divInt (k) 1), (pg, Rat.divInt c e), (su, Rat.divInt a1 b1)]) (ys := [(w.heap.size, Rat.divInt N D)]) (Own.front (xs := [(xy, Rat.divInt (k) 1), (pg, Rat.divInt c e), (su, Rat.divInt a1 b1)]) (ys := [(w.heap.size + 1, 0), (w.heap.size, Rat.divInt N D)]) (aa HO)))
      refine Rg.region 4 130 (Rg.pick [ek (Rat.divInt a1 b1), ek (Rat.divInt a1 b1), fun W _ => uj W (w.heap.size + 1) (Rat.divInt a1 b1), fun W _ => uj W (w.heap.size + 2) (Rat.divInt a1 b1)]) (Fq w [(xy, Rat.divInt (k) 1), (pg, Rat.divInt c e), (su, Rat.divInt a1 b1), (w.heap.size, Rat.divInt N D)] (w.heap.size + 1) (w.heap.size + 2)) (Qk (w.heap.size + 1) (w.heap.size + 2) (Rat.divInt a1 b1) (Rat.divInt a1 b1)) [] kr kr rfl (Rg.oo.pick ⟨Co _, Co _, Iy, Iw, trivial⟩) ⟨0, 0, Own.step _ _ hO (og.drew _)⟩
       (Rg.ax (Az (Rg.ja kr rfl) (List.Mem.tail _ (List.Mem.tail _ (List.Mem.head _))) rfl)
        (Rg.ax (Az (Rg.ja kr rfl) (List.Mem.tail _ (List.Mem.tail _ (List.Mem.head _))) rfl)
        (Rg.ax (Lm (Rg.ja kr rfl) (Rg.dw 0 kr) rfl)
        (Rg.ax (Ll (Rg.ja kr rfl) (Rg.dw 1 kr) rfl)
        Rg.jc)))) ?_
      clear hO HO
      intro v V9 hG hv hne
      clear hne
      simp only [Rg.puts, List.take_succ_cons, List.take_zero, List.drop_succ_cons, List.drop_zero, Act.put, List.setIfInBounds_toArray, List.set_cons_zero, List.set_cons_succ]
      have HO := hide (Fq.fin hG (hv 2 (by decide)) (hv 3 (by decide)))
      clear hG hv
      go_wp2_with fail
      obtain ⟨-, ni, mo, ma, mg, mq, mi, lv, mf, dh, mh⟩ := (aa HO).box _ _ (List.Mem.head _)
      have iw := ag dh 0
      have iq := ag dh 1
      have il := ag dh 2
      have ik := ag dh 3
      have iy := lt_of_block dh
      clear dh
      obtain ⟨-, x8, xx, xm, xq, xz, xw, xk, xn, jb, xu⟩ := (aa HO).box _ _ (List.Mem.tail _ (List.Mem.head _))
      have vw := ag jb 0
      have vv := ag jb 1
      have vo := ag jb 2
      have vk := ag jb 3
      have wu := lt_of_block jb
      clear jb
      exact bodyPost_ret (v := .tuple #[.agg #[.slice ni ma.length mo, .bool mg, .slice mq lv.length mi, .bool mf], .agg #[.slice x8 xm.length xx, .bool xq, .slice xz xk.length xw, .bool xn]]) (by simp [results, Tryz.results63, go_sem, iw, iq, il, ik, vw, vv, vo, vk, iy, wu]) rfl
       ⟨_, rfl, (aa HO).bel, ⟨a1, b1, a1, b1, .inl ⟨by have := (aa H7) h0; omega, ((aa H7) h0).1, ((aa H7) h0).2, ((aa H7) h0).1, ((aa H7) h0).2⟩, ⟨_, _, rfl, ⟨_, _, _, _, _, _, _, _, rfl, mh⟩, ⟨_, _, _, _, _, _, _, _, rfl, xu⟩⟩⟩⟩
     ·
      have d1 : (gm (a1 * D - N * b1) == 0) = false := Oa om
      go_upto_region 8 with fail
      refine Rg.tq 4 130 (Rg.pick [ek (Rat.divInt a1 b1), ek (Rat.divInt N D), Rg.ji (.int .i64 (gm (a1 * D - N * b1))), Rg.ji (.bool (false))]) (cz w [(xy, Rat.divInt (k) 1), (pg, Rat.divInt c e), (su, Rat.divInt a1 b1), (w.heap.size + 2, 0), (w.heap.size + 1, 0), (w.heap.size, Rat.divInt N D)] C7) og [] kr rfl (Rg.oo.pick ⟨df _, df _, Rg.fw _, Rg.fw _, trivial⟩) (cz.begin (aa HO))
       (Rg.ax (Rg.plain rfl (gy rfl (Rg.ja kr rfl) (fun W h => cz.box (List.Mem.tail _ (List.Mem.tail _ (List.Mem.head _))) h) rfl))
        (Rg.ax (Rg.plain rfl (gy rfl (Rg.ja kr rfl) (fun W h => cz.box (List.Mem.tail _ (List.Mem.tail _ (List.Mem.tail _ (List.Mem.tail _ (List.Mem.tail _ (List.Mem.head _)))))) h) rfl))
        (Rg.ax (Rg.plain rfl (jh Tryz.func64 kr rfl cz.step (Rg.dw 0 kr) (Rg.dw 1 kr) (fun W v0 v1 hG h0 h1 => (Oq (aa H1) (aa H2) (aa RF).BN (aa RF).BD (aa H3) (aa RF).D0 (aa H5) (aa RF).gx) W v0 v1 h0 h1)))
        (Rg.ax (Rg.plain rfl (Jv rfl (Rg.dw 2 kr) (Rg.yf _) rfl d1))
        Rg.jc)))) ?_
      intro v V8 hG8 hv hne
      clear hne
      simp only [Rg.puts, List.take_succ_cons, List.take_zero, List.drop_succ_cons, List.drop_zero, Act.put, List.setIfInBounds_toArray, List.set_cons_zero, List.set_cons_succ]
      have e3 : v 3 = .bool (false) := hv 3 (by decide)
      simp only [e3]
      have hO := hG8.1
      clear hG8
      try clear e3
      try clear hv
      replace HO := hide hO
      clear hO
      clear d1
      have hS1 := (aa H6) h0
      have RG := hide (hS1.rd (aa Ml) hm2)
      have o7 := hide hS1
      clear hS1
      by_cases hs2 : m < b1 + e
      ·
       have d1 : decide (0 < gm (b1 + e - m)) = true := Uw om
       go_upto_region 10 with fail
       refine Rg.region 9 130 (Rg.pick [ek (Rat.divInt a1 b1), ek (Rat.divInt (b1) 1), ek (Rat.divInt c e), ek (Rat.divInt (e) 1), ek (Rat.divInt (b1 + e) 1), Rg.ji (.int .i64 m), ek (Rat.divInt (m) 1), Rg.ji (.int .i64 (gm (b1 + e - m))), Rg.ji (.bool (true))]) (cz w [(xy, Rat.divInt (k) 1), (pg, Rat.divInt c e), (su, Rat.divInt a1 b1), (w.heap.size + 2, 0), (w.heap.size + 1, 0), (w.heap.size, Rat.divInt N D)] V8) og [] kr kr rfl (Rg.oo.pick ⟨df _, df _, df _, df _, df _, Rg.fw _, df _, Rg.fw _, Rg.fw _, trivial⟩) (cz.start (aa HO))
        (Rg.ax (Rg.plain rfl (gy rfl (Rg.ja kr rfl) (fun W h => cz.box (List.Mem.tail _ (List.Mem.tail _ (List.Mem.head _))) h) rfl))
         (Rg.ax (Rg.plain rfl (kz Tryz.func65 kr rfl cz.step (Rg.dw 0 kr) (fun W v0 hG h0 => Aw (aa RG).b0 (aa RG).ga W v0 h0)))
         (Rg.ax (Rg.plain rfl (gy rfl (Rg.ja kr rfl) (fun W h => cz.box (List.Mem.tail _ (List.Mem.head _)) h) rfl))
         (Rg.ax (Rg.plain rfl (kz Tryz.func65 kr rfl cz.step (Rg.dw 2 kr) (fun W v0 hG h0 => Aw (aa RG).e0 (aa RG).gc W v0 h0)))
         (Rg.ax (Rg.plain rfl (jh Tryz.func43 kr rfl cz.step (Rg.dw 1 kr) (Rg.dw 3 kr) (fun W v0 v1 hG h0 h1 => F8 (aa RG).Bb (aa RG).Be W v0 v1 h0 h1)))
         (Rg.ax (Rg.plain rfl (u7 rfl (Rg.ja kr rfl)))
         (Rg.ax (Rg.plain rfl (kz Tryz.func72 kr rfl cz.step (Rg.dw 5 kr) (fun W v0 hG h0 => by cases h0; exact Gs m om om W)))
         (Rg.ax (Rg.plain rfl (jh Tryz.func64 kr rfl cz.step (Rg.dw 4 kr) (Rg.dw 6 kr) (fun W v0 v1 hG h0 h1 => Lv (aa RG).Bs (aa RG).Bm W v0 v1 h0 h1)))
         (Rg.ax (Rg.plain rfl (Hu rfl (Rg.dw 7 kr) (Rg.yf _) rfl d1))
         Rg.jc))))))))) ?_
       intro v V9 hG9 hv hne
       clear hne
       simp only [Rg.puts, List.take_succ_cons, List.take_zero, List.drop_succ_cons, List.drop_zero, Act.put, List.setIfInBounds_toArray, List.set_cons_zero, List.set_cons_succ]
       have e8 : v 8 = .bool (true) := hv 8 (by decide)
       simp only [e8]
       have hO := hG9.1
       clear hG9
       try clear e8
       try clear hv
       replace HO := hide hO
       clear hO
       clear d1
       go_upto_region 16 with fail
       have hO : Own w [(w.heap.size + 1, 0), (w.heap.size + 2, 0), (xy, Rat.divInt (k) 1), (pg, Rat.divInt c e), (su, Rat.divInt a1 b1), (w.heap.size, Rat.divInt N D)] V9 := (Own.front (xs := [(w.heap.size + 2, 0), (xy, Rat.divInt (k) 1), (pg, Rat.divInt c e), (su, Rat.divInt a1 b1)]) (ys := [(w.heap.size, Rat.divInt N D)]) (Own.front (xs := [(xy, Rat.divInt (k) 1), (pg, Rat.divInt c e), (su, Rat.divInt a1 b1)]) (ys := [(w.heap.size + 1, 0), (w.heap.size, Rat.divInt N D)]) (aa HO)))
       refine Rg.region 4 130 (Rg.pick [ek (Rat.divInt a1 b1), ek (Rat.divInt c e), fun W _ => uj W (w.heap.size + 1) (Rat.divInt a1 b1), fun W _ => uj W (w.heap.size + 2) (Rat.divInt c e)]) (Fq w [(xy, Rat.divInt (k) 1), (pg, Rat.divInt c e), (su, Rat.divInt a1 b1), (w.heap.size, Rat.divInt N D)] (w.heap.size + 1) (w.heap.size + 2)) (Qk (w.heap.size + 1) (w.heap.size + 2) (Rat.divInt a1 b1) (Rat.divInt c e)) [] kr kr rfl (Rg.oo.pick ⟨Co _, Co _, Iy, Iw, trivial⟩) ⟨0, 0, Own.step _ _ hO (og.drew _)⟩
        (Rg.ax (Az (Rg.ja kr rfl) (List.Mem.tail _ (List.Mem.tail _ (List.Mem.head _))) rfl)
         (Rg.ax (Az (Rg.ja kr rfl) (List.Mem.tail _ (List.Mem.head _)) rfl)
         (Rg.ax (Lm (Rg.ja kr rfl) (Rg.dw 0 kr) rfl)
         (Rg.ax (Ll (Rg.ja kr rfl) (Rg.dw 1 kr) rfl)
         Rg.jc)))) ?_
       clear hO HO
       intro v V10 hG hv hne
       clear hne
       simp only [Rg.puts, List.take_succ_cons, List.take_zero, List.drop_succ_cons, List.drop_zero, Act.put, List.setIfInBounds_toArray, List.set_cons_zero, List.set_cons_succ]
       have HO := hide (Fq.fin hG (hv 2 (by decide)) (hv 3 (by decide)))
       clear hG hv
       go_wp2_with fail
       obtain ⟨-, ni, mo, ma, mg, mq, mi, lv, mf, dh, mh⟩ := (aa HO).box _ _ (List.Mem.head _)
       have iw := ag dh 0
       have iq := ag dh 1
       have il := ag dh 2
       have ik := ag dh 3
       have iy := lt_of_block dh
       clear dh
       obtain ⟨-, x8, xx, xm, xq, xz, xw, xk, xn, jb, xu⟩ := (aa HO).box _ _ (List.Mem.tail _ (List.Mem.head _))
       have vw := ag jb 0
       have vv := ag jb 1
       have vo := ag jb 2
       have vk := ag jb 3
       have wu := lt_of_block jb
       clear jb
       exact bodyPost_ret (v := .tuple #[.agg #[.slice ni ma.length mo, .bool mg, .slice mq lv.length mi, .bool mf], .agg #[.slice x8 xm.length xx, .bool xq, .slice xz xk.length xw, .bool xn]]) (by simp [results, Tryz.results63, go_sem, iw, iq, il, ik, vw, vv, vo, vk, iy, wu]) rfl
        ⟨_, rfl, (aa HO).bel, ⟨a1, b1, c, e, .inr ((aa o7).sides om), ⟨_, _, rfl, ⟨_, _, _, _, _, _, _, _, rfl, mh⟩, ⟨_, _, _, _, _, _, _, _, rfl, xu⟩⟩⟩⟩
      ·
       have d1 : decide (0 < gm (b1 + e - m)) = false := Ld om
       go_upto_region 10 with fail
       refine Rg.region 9 130 (Rg.pick [ek (Rat.divInt a1 b1), ek (Rat.divInt (b1) 1), ek (Rat.divInt c e), ek (Rat.divInt (e) 1), ek (Rat.divInt (b1 + e) 1), Rg.ji (.int .i64 m), ek (Rat.divInt (m) 1), Rg.ji (.int .i64 (gm (b1 + e - m))), Rg.ji (.bool (false))]) (cz w [(xy, Rat.divInt (k) 1), (pg, Rat.divInt c e), (su, Rat.divInt a1 b1), (w.heap.size + 2, 0), (w.heap.size + 1, 0), (w.heap.size, Rat.divInt N D)] V8) og [] kr kr rfl (Rg.oo.pick ⟨df _, df _, df _, df _, df _, Rg.fw _, df _, Rg.fw _, Rg.fw _, trivial⟩) (cz.start (aa HO))
        (Rg.ax (Rg.plain rfl (gy rfl (Rg.ja kr rfl) (fun W h => cz.box (List.Mem.tail _ (List.Mem.tail _ (List.Mem.head _))) h) rfl))
         (Rg.ax (Rg.plain rfl (kz Tryz.func65 kr rfl cz.step (Rg.dw 0 kr) (fun W v0 hG h0 => Aw (aa RG).b0 (aa RG).ga W v0 h0)))
         (Rg.ax (Rg.plain rfl (gy rfl (Rg.ja kr rfl) (fun W h => cz.box (List.Mem.tail _ (List.Mem.head _)) h) rfl))
         (Rg.ax (Rg.plain rfl (kz Tryz.func65 kr rfl cz.step (Rg.dw 2 kr) (fun W v0 hG h0 => Aw (aa RG).e0 (aa RG).gc W v0 h0)))
         (Rg.ax (Rg.plain rfl (jh Tryz.func43 kr rfl cz.step (Rg.dw 1 kr) (Rg.dw 3 kr) (fun W v0 v1 hG h0 h1 => F8 (aa RG).Bb (aa RG).Be W v0 v1 h0 h1)))
         (Rg.ax (Rg.plain rfl (u7 rfl (Rg.ja kr rfl)))
         (Rg.ax (Rg.plain rfl (kz Tryz.func72 kr rfl cz.step (Rg.dw 5 kr) (fun W v0 hG h0 => by cases h0; exact Gs m om om W)))
         (Rg.ax (Rg.plain rfl (jh Tryz.func64 kr rfl cz.step (Rg.dw 4 kr) (Rg.dw 6 kr) (fun W v0 v1 hG h0 h1 => Lv (aa RG).Bs (aa RG).Bm W v0 v1 h0 h1)))
         (Rg.ax (Rg.plain rfl (Hu rfl (Rg.dw 7 kr) (Rg.yf _) rfl d1))
         Rg.jc))))))))) ?_
       intro v V9 hG9 hv hne
       clear hne
       simp only [Rg.puts, List.take_succ_cons, List.take_zero, List.drop_succ_cons, List.drop_zero, Act.put, List.setIfInBounds_toArray, List.set_cons_zero, List.set_cons_succ]
       have e8 : v 8 = .bool (false) := hv 8 (by decide)
       simp only [e8]
       have hO := hG9.1
       clear hG9
       try clear e8
       try clear hv
       replace HO := hide hO
       clear hO
       clear d1
       obtain ⟨j, hj⟩ : ∃ k, k = Wd.Gf (c * D - N * e) (N * b1 - a1 * D) m e b1 := ⟨_, rfl⟩
       have JF := hide ((aa o7).rj (aa Ml) hm2 hj)
       go_upto_region 11 with fail
       refine Rg.region 21 130 (Rg.pick [ek (Rat.divInt c e), ek (Rat.divInt (c) 1), ek (Rat.divInt N D), ek (Rat.divInt c e), ek (Rat.divInt (e) 1), ek (Rat.divInt (N * e) D), ek (Rat.divInt (c * D - N * e) D), ek (Rat.divInt N D), ek (Rat.divInt a1 b1), ek (Rat.divInt (b1) 1), ek (Rat.divInt (N * b1) D), ek (Rat.divInt a1 b1), ek (Rat.divInt (a1) 1), ek (Rat.divInt (N * b1 - a1 * D) D), ek (Rat.divInt c e), ek (Rat.divInt (e) 1), ek (Rat.divInt a1 b1), ek (Rat.divInt (b1) 1), Rg.ji (.int .i64 m), ek (Rat.divInt (j) 1), Cv V9.heap.size]) (cz w [(xy, Rat.divInt (k) 1), (pg, Rat.divInt c e), (su, Rat.divInt a1 b1), (w.heap.size + 2, 0), (w.heap.size + 1, 0), (w.heap.size, Rat.divInt N D)] V9) og [20] kr kr rfl (Rg.oo.pick ⟨df _, df _, df _, df _, df _, df _, df _, df _, df _, df _, df _, df _, df _, df _, df _, df _, df _, df _, Rg.fw _, df _, Ct _, trivial⟩) (cz.start (aa HO))
        (Rg.ax (Rg.plain rfl (gy rfl (Rg.ja kr rfl) (fun W h => cz.box (List.Mem.tail _ (List.Mem.head _)) h) rfl))
         (Rg.ax (Rg.plain rfl (kz Tryz.func115 kr rfl cz.step (Rg.dw 0 kr) (fun W v0 hG h0 => Mx (aa RG).e0 (aa RG).gc W v0 h0)))
         (Rg.ax (Rg.plain rfl (gy rfl (Rg.ja kr rfl) (fun W h => cz.box (List.Mem.tail _ (List.Mem.tail _ (List.Mem.tail _ (List.Mem.tail _ (List.Mem.tail _ (List.Mem.head _)))))) h) rfl))
         (Rg.ax (Rg.plain rfl (gy rfl (Rg.ja kr rfl) (fun W h => cz.box (List.Mem.tail _ (List.Mem.head _)) h) rfl))
         (Rg.ax (Rg.plain rfl (kz Tryz.func65 kr rfl cz.step (Rg.dw 3 kr) (fun W v0 hG h0 => Aw (aa RG).e0 (aa RG).gc W v0 h0)))
         (Rg.ax (Rg.plain rfl (jh Tryz.func45 kr rfl cz.step (Rg.dw 2 kr) (Rg.dw 4 kr) (fun W v0 v1 hG h0 h1 => Qt (aa RG).BN (aa RG).BD (by have := (aa RG).D0; omega) (aa RG).Be W v0 v1 h0 h1)))
         (Rg.ax (Rg.plain rfl (jh Tryz.func44 kr rfl cz.step (Rg.dw 1 kr) (Rg.dw 5 kr) (fun W v0 v1 hG h0 h1 => af2 (aa RG).BNe (aa RG).BD (by have := (aa RG).D0; omega) (aa RG).Bc W v0 v1 h0 h1)))
         (Rg.ax (Rg.plain rfl (gy rfl (Rg.ja kr rfl) (fun W h => cz.box (List.Mem.tail _ (List.Mem.tail _ (List.Mem.tail _ (List.Mem.tail _ (List.Mem.tail _ (List.Mem.head _)))))) h) rfl))
         (Rg.ax (Rg.plain rfl (gy rfl (Rg.ja kr rfl) (fun W h => cz.box (List.Mem.tail _ (List.Mem.tail _ (List.Mem.head _))) h) rfl))
         (Rg.ax (Rg.plain rfl (kz Tryz.func65 kr rfl cz.step (Rg.dw 8 kr) (fun W v0 hG h0 => Aw (aa RG).b0 (aa RG).ga W v0 h0)))
         (Rg.ax (Rg.plain rfl (jh Tryz.func45 kr rfl cz.step (Rg.dw 7 kr) (Rg.dw 9 kr) (fun W v0 v1 hG h0 h1 => Qt (aa RG).BN (aa RG).BD (by have := (aa RG).D0; omega) (aa RG).Bb W v0 v1 h0 h1)))
         (Rg.ax (Rg.plain rfl (gy rfl (Rg.ja kr rfl) (fun W h => cz.box (List.Mem.tail _ (List.Mem.tail _ (List.Mem.head _))) h) rfl))
         (Rg.ax (Rg.plain rfl (kz Tryz.func115 kr rfl cz.step (Rg.dw 11 kr) (fun W v0 hG h0 => Mx (aa RG).b0 (aa RG).ga W v0 h0)))
         (Rg.ax (Rg.plain rfl (jh Tryz.func44 kr rfl cz.step (Rg.dw 10 kr) (Rg.dw 12 kr) (fun W v0 v1 hG h0 h1 => adk (aa RG).BNb (aa RG).BD (by have := (aa RG).D0; omega) (aa RG).Ba W v0 v1 h0 h1)))
         (Rg.ax (Rg.plain rfl (gy rfl (Rg.ja kr rfl) (fun W h => cz.box (List.Mem.tail _ (List.Mem.head _)) h) rfl))
         (Rg.ax (Rg.plain rfl (kz Tryz.func65 kr rfl cz.step (Rg.dw 14 kr) (fun W v0 hG h0 => Aw (aa RG).e0 (aa RG).gc W v0 h0)))
         (Rg.ax (Rg.plain rfl (gy rfl (Rg.ja kr rfl) (fun W h => cz.box (List.Mem.tail _ (List.Mem.tail _ (List.Mem.head _))) h) rfl))
         (Rg.ax (Rg.plain rfl (kz Tryz.func65 kr rfl cz.step (Rg.dw 16 kr) (fun W v0 hG h0 => Aw (aa RG).b0 (aa RG).ga W v0 h0)))
         (Rg.ax (Rg.plain rfl (u7 rfl (Rg.ja kr rfl)))
         (Rg.ax (Rg.plain rfl (afq Tryz.func114 kr rfl cz.step (Rg.dw 6 kr) (Rg.dw 13 kr) (Rg.dw 15 kr) (Rg.dw 17 kr) (Rg.dw 18 kr) (fun W v0 v1 v2 v3 v4 hG h0 h1 h2 h3 h4 => by cases h4; rw [hj]; exact aah (aa o7).hi (aa o7).lo (aa RG).D0 (aa RG).BH (aa RG).BL (aa RG).BD (aa o7).em (aa o7).e1 (aa o7).b1 (aa o7).bm hm2 W v0 v1 v2 v3 h0 h1 h2 h3)))
         (Rg.ax (Rg.plain rfl (F7 cz.step cz.size rfl (En (by intro j hj; simp at hj; (repeat' (first | (rcases hj with rfl | hj))) <;> first | (subst hj; rfl) | rfl))))
         Rg.jc))))))))))))))))))))) ?_
       intro v V10 apw hv hne
       clear hne
       simp only [Rg.puts, List.take_succ_cons, List.take_zero, List.drop_succ_cons, List.drop_zero, Act.put, List.setIfInBounds_toArray, List.set_cons_zero, List.set_cons_succ]
       obtain ⟨ayw, axw, av4, avy, ayv, axv, av3, avx, e19, f19⟩ := (show ek (Rat.divInt (j) 1) V10 (v 19) from hv 19 (by decide))
       obtain ⟨Dt, e20, Wl, adn⟩ := (show Cv V9.heap.size V10 (v 20) from hv 20 (by decide))
       simp only [e19, e20]
       have hO := apw.1
       replace hO := Own.add (aa HO) apw.2 Wl adn
       obtain ⟨-, _, _, _, _, _, _, _, _, hz, -⟩ := hO.box (Dt) (0) (List.Mem.head _)
       have ajd := ag hz 0
       have ajn := ah hz 0
       have ajc := ag hz 1
       have ajm := ah hz 1
       have ajb := ag hz 2
       have ajl := ah hz 2
       have aja := ag hz 3
       have ajk := ah hz 3
       have alb := lt_of_block hz
       clear hz
       go_upto_region 12 with fail
       replace hO := Own.set (xs := []) (ys := [(xy, Rat.divInt (k) 1), (pg, Rat.divInt c e), (su, Rat.divInt a1 b1), (w.heap.size + 2, 0), (w.heap.size + 1, 0), (w.heap.size, Rat.divInt N D)]) hO f19
       unfold Cf at hO
       generalize (((V10.setCell ⟨Dt, 0, none⟩ (.slice ayw av4.length axw)).setCell ⟨Dt, 1, none⟩ (.bool avy)).setCell ⟨Dt, 2, none⟩ (.slice ayv av3.length axv)).setCell ⟨Dt, 3, none⟩ (.bool avx) = U10 at *
       try clear ajd ajn ajc ajm ajb ajl aja ajk apw
       try clear e19 e20 f19 Wl adn alb
       try clear hv
       replace HO := hide hO
       clear hO
       go_upto_region 12 with fail
       refine Rg.tq 3 130 (Rg.pick [ek (Rat.divInt (j) 1), Rg.ji (.int .i64 (gm j)), Rg.ji (.bool (decide (0 < gm j)))]) (cz w [(Dt, Rat.divInt (j) 1), (xy, Rat.divInt (k) 1), (pg, Rat.divInt c e), (su, Rat.divInt a1 b1), (w.heap.size + 2, 0), (w.heap.size + 1, 0), (w.heap.size, Rat.divInt N D)] U10) og [] kr rfl (Rg.oo.pick ⟨df _, Rg.fw _, Rg.fw _, trivial⟩) (cz.begin (aa HO))
        (Rg.ax (Rg.plain rfl (gy rfl (Rg.ja kr rfl) (fun W h => cz.box (List.Mem.head _) h) rfl))
         (Rg.ax (Rg.plain rfl (kz Tryz.func116 kr rfl cz.step (Rg.dw 0 kr) (fun W v0 hG h0 => alj W v0 h0)))
         (Rg.ax (Rg.plain rfl (Hu rfl (Rg.dw 1 kr) (Rg.yf _) rfl rfl))
         Rg.jc))) ?_
       intro v V11 axm hv hne
       clear hne
       simp only [Rg.puts, List.take_succ_cons, List.take_zero, List.drop_succ_cons, List.drop_zero, Act.put, List.setIfInBounds_toArray, List.set_cons_zero, List.set_cons_succ]
       have e2 : v 2 = .bool (decide (0 < gm j)) := hv 2 (by decide)
       simp only [e2]
       have hO := axm.1
       clear axm
       try clear e2
       try clear hv
       replace HO := hide hO
       clear hO
       go_upto_if 106 with (fail)
       go_cut [] (fun wx => Own w [(Dt, Rat.divInt (j) 1), (xy, Rat.divInt (k) 1), (pg, Rat.divInt (c + j * a1) (e + j * b1)), (su, Rat.divInt a1 b1), (w.heap.size + 2, 0), (w.heap.size + 1, 0), (w.heap.size, Rat.divInt N D)] wx)
       case first =>
        by_cases hq : 0 < j
        ·
         have d1 : decide (0 < gm j) = true := Uw hq
         simp only [d1]
         clear d1
         go_upto_region 13 with fail
         refine Rg.region 15 130 (Rg.pick [ek (Rat.divInt c e), ek (Rat.divInt (c) 1), ek (Rat.divInt (j) 1), ek (Rat.divInt a1 b1), ek (Rat.divInt (a1) 1), ek (Rat.divInt (j * a1) 1), ek (Rat.divInt (c + j * a1) 1), ek (Rat.divInt c e), ek (Rat.divInt (e) 1), ek (Rat.divInt (j) 1), ek (Rat.divInt a1 b1), ek (Rat.divInt (b1) 1), ek (Rat.divInt (j * b1) 1), ek (Rat.divInt (e + j * b1) 1), ek (Rat.divInt (c + j * a1) (e + j * b1))]) (cz w [(Dt, Rat.divInt (j) 1), (xy, Rat.divInt (k) 1), (pg, Rat.divInt c e), (su, Rat.divInt a1 b1), (w.heap.size + 2, 0), (w.heap.size + 1, 0), (w.heap.size, Rat.divInt N D)] V11) og [] kr kr rfl (Rg.oo.pick ⟨df _, df _, df _, df _, df _, df _, df _, df _, df _, df _, df _, df _, df _, df _, df _, trivial⟩) (cz.start (aa HO))
          (Rg.ax (Rg.plain rfl (gy rfl (Rg.ja kr rfl) (fun W h => cz.box (List.Mem.tail _ (List.Mem.tail _ (List.Mem.head _))) h) rfl))
           (Rg.ax (Rg.plain rfl (kz Tryz.func115 kr rfl cz.step (Rg.dw 0 kr) (fun W v0 hG h0 => Mx (aa RG).e0 (aa RG).gc W v0 h0)))
           (Rg.ax (Rg.plain rfl (gy rfl (Rg.ja kr rfl) (fun W h => cz.box (List.Mem.head _) h) rfl))
           (Rg.ax (Rg.plain rfl (gy rfl (Rg.ja kr rfl) (fun W h => cz.box (List.Mem.tail _ (List.Mem.tail _ (List.Mem.tail _ (List.Mem.head _)))) h) rfl))
           (Rg.ax (Rg.plain rfl (kz Tryz.func115 kr rfl cz.step (Rg.dw 3 kr) (fun W v0 hG h0 => Mx (aa RG).b0 (aa RG).ga W v0 h0)))
           (Rg.ax (Rg.plain rfl (jh Tryz.func45 kr rfl cz.step (Rg.dw 2 kr) (Rg.dw 4 kr) (fun W v0 v1 hG h0 h1 => Vu (aa JF).Bk (aa RG).Ba W v0 v1 h0 h1)))
           (Rg.ax (Rg.plain rfl (jh Tryz.func43 kr rfl cz.step (Rg.dw 1 kr) (Rg.dw 5 kr) (fun W v0 v1 hG h0 h1 => F8 (aa RG).Bc (aa JF).Bkc W v0 v1 h0 h1)))
           (Rg.ax (Rg.plain rfl (gy rfl (Rg.ja kr rfl) (fun W h => cz.box (List.Mem.tail _ (List.Mem.tail _ (List.Mem.head _))) h) rfl))
           (Rg.ax (Rg.plain rfl (kz Tryz.func65 kr rfl cz.step (Rg.dw 7 kr) (fun W v0 hG h0 => Aw (aa RG).e0 (aa RG).gc W v0 h0)))
           (Rg.ax (Rg.plain rfl (gy rfl (Rg.ja kr rfl) (fun W h => cz.box (List.Mem.head _) h) rfl))
           (Rg.ax (Rg.plain rfl (gy rfl (Rg.ja kr rfl) (fun W h => cz.box (List.Mem.tail _ (List.Mem.tail _ (List.Mem.tail _ (List.Mem.head _)))) h) rfl))
           (Rg.ax (Rg.plain rfl (kz Tryz.func65 kr rfl cz.step (Rg.dw 10 kr) (fun W v0 hG h0 => Aw (aa RG).b0 (aa RG).ga W v0 h0)))
           (Rg.ax (Rg.plain rfl (jh Tryz.func45 kr rfl cz.step (Rg.dw 9 kr) (Rg.dw 11 kr) (fun W v0 v1 hG h0 h1 => Vu (aa JF).Bk (aa RG).Bb W v0 v1 h0 h1)))
           (Rg.ax (Rg.plain rfl (jh Tryz.func43 kr rfl cz.step (Rg.dw 8 kr) (Rg.dw 12 kr) (fun W v0 v1 hG h0 h1 => F8 (aa RG).Be (aa JF).Bke W v0 v1 h0 h1)))
           (Rg.ax (Rg.plain rfl (jh Tryz.func47 kr rfl cz.step (Rg.dw 6 kr) (Rg.dw 13 kr) (fun W v0 v1 hG h0 h1 => Lu (aa JF).Ba (aa JF).Bb (by have := (aa JF).b0; omega) W v0 v1 h0 h1)))
           Rg.jc))))))))))))))) ?_
         intro v V12 axl hv hne
         clear hne
         simp only [Rg.puts, List.take_succ_cons, List.take_zero, List.drop_succ_cons, List.drop_zero, Act.put, List.setIfInBounds_toArray, List.set_cons_zero, List.set_cons_succ]
         obtain ⟨ayu, axu, av2, avw, ayt, axt, av1, avv, e14, f14⟩ := (show ek (Rat.divInt (c + j * a1) (e + j * b1)) V12 (v 14) from hv 14 (by decide))
         simp only [e14]
         have hO := axl.1
         obtain ⟨-, _, _, _, _, _, _, _, _, hz, -⟩ := hO.box (pg) (Rat.divInt c e) (List.Mem.tail _ (List.Mem.tail _ (List.Mem.head _)))
         have Ns := ag hz 0
         have N9 := ah hz 0
         have Nq := ag hz 1
         have N7 := ah hz 1
         have Nn := ag hz 2
         have Ny := ah hz 2
         have Nk := ag hz 3
         have Nv := ah hz 3
         have Oj := lt_of_block hz
         clear hz
         go_wp2_with fail
         replace hO := Own.set (xs := [(Dt, Rat.divInt (j) 1), (xy, Rat.divInt (k) 1)]) (ys := [(su, Rat.divInt a1 b1), (w.heap.size + 2, 0), (w.heap.size + 1, 0), (w.heap.size, Rat.divInt N D)]) hO f14
         unfold Cf at hO
         generalize (((V12.setCell ⟨pg, 0, none⟩ (.slice ayu av2.length axu)).setCell ⟨pg, 1, none⟩ (.bool avw)).setCell ⟨pg, 2, none⟩ (.slice ayt av1.length axt)).setCell ⟨pg, 3, none⟩ (.bool avv) = U12 at *
         try clear Ns N9 Nq N7 Nn Ny Nk Nv axl
         try clear e14 f14 Oj
         try clear hv
         replace HO := hide hO
         clear hO
         go_meet
         exact aa HO
        ·
         have d1 : decide (0 < gm j) = false := Ld hq
         simp only [d1]
         clear d1
         go_wp2_with fail
         go_meet
         have hk0 : j = 0 := by have := (aa JF).k0; omega
         have h := aa HO
         rwa [show Rat.divInt c e = Rat.divInt (c + j * a1) (e + j * b1) by rw [hk0, Int.zero_mul, Int.zero_mul, Int.add_zero, Int.add_zero]] at h
       case rest =>
        revert hcut
        generalize wc = C13
        intro hcut
        clear HO
        have HO := hide hcut
        clear hcut
        by_cases h1 : (c + j * a1) * D - N * (e + j * b1) = 0
        ·
         have d1 : (gm ((c + j * a1) * D - N * (e + j * b1)) == 0) = true := Ob h1
         go_upto_region 14 with fail
         refine Rg.tq 4 130 (Rg.pick [ek (Rat.divInt (c + j * a1) (e + j * b1)), ek (Rat.divInt N D), Rg.ji (.int .i64 (gm ((c + j * a1) * D - N * (e + j * b1)))), Rg.ji (.bool (true))]) (cz w [(Dt, Rat.divInt (j) 1), (xy, Rat.divInt (k) 1), (pg, Rat.divInt (c + j * a1) (e + j * b1)), (su, Rat.divInt a1 b1), (w.heap.size + 2, 0), (w.heap.size + 1, 0), (w.heap.size, Rat.divInt N D)] C13) og [] kr rfl (Rg.oo.pick ⟨df _, df _, Rg.fw _, Rg.fw _, trivial⟩) (cz.begin (aa HO))
          (Rg.ax (Rg.plain rfl (gy rfl (Rg.ja kr rfl) (fun W h => cz.box (List.Mem.tail _ (List.Mem.tail _ (List.Mem.head _))) h) rfl))
           (Rg.ax (Rg.plain rfl (gy rfl (Rg.ja kr rfl) (fun W h => cz.box (List.Mem.tail _ (List.Mem.tail _ (List.Mem.tail _ (List.Mem.tail _ (List.Mem.tail _ (List.Mem.tail _ (List.Mem.head _))))))) h) rfl))
           (Rg.ax (Rg.plain rfl (jh Tryz.func64 kr rfl cz.step (Rg.dw 0 kr) (Rg.dw 1 kr) (fun W v0 v1 hG h0 h1 => (Oq (aa JF).Ba (aa JF).Bb (aa RG).BN (aa RG).BD (aa JF).b0 (aa RG).D0 (aa JF).ga (aa RG).gx) W v0 v1 h0 h1)))
           (Rg.ax (Rg.plain rfl (Jv rfl (Rg.dw 2 kr) (Rg.yf _) rfl d1))
           Rg.jc)))) ?_
         intro v V14 ad9 hv hne
         clear hne
         simp only [Rg.puts, List.take_succ_cons, List.take_zero, List.drop_succ_cons, List.drop_zero, Act.put, List.setIfInBounds_toArray, List.set_cons_zero, List.set_cons_succ]
         have e3 : v 3 = .bool (true) := hv 3 (by decide)
         simp only [e3]
         have hO := ad9.1
         clear ad9
         try clear e3
         try clear hv
         replace HO := hide hO
         clear hO
         clear d1
         go_upto_region 15 with fail
         have hO : Own w [(w.heap.size + 1, 0), (w.heap.size + 2, 0), (Dt, Rat.divInt (j) 1), (xy, Rat.divInt (k) 1), (pg, Rat.divInt (c + j * a1) (e + j * b1)), (su, Rat.divInt a1 b1), (w.heap.size, Rat.divInt N D)] V14 := (Own.front (xs := [(w.heap.size + 2, 0), (Dt, Rat.divInt (j) 1), (xy, Rat.divInt (k) 1), (pg, Rat.divInt (c + j * a1) (e + j * b1)), (su, Rat.divInt a1 b1)]) (ys := [(w.heap.size, Rat.divInt N D)]) (Own.front (xs := [(Dt, Rat.divInt (j) 1), (xy, Rat.divInt (k) 1), (pg, Rat.divInt (c + j * a1) (e + j * b1)), (su, Rat.divInt a1 b1)]) (ys := [(w.heap.size + 1, 0), (w.heap.size, Rat.divInt N D)]) (aa HO)))
         refine Rg.region 4 130 (Rg.pick [ek (Rat.divInt (c + j * a1) (e + j * b1)), ek (Rat.divInt (c + j * a1) (e + j * b1)), fun W _ => uj W (w.heap.size + 1) (Rat.divInt (c + j * a1) (e + j * b1)), fun W _ => uj W (w.heap.size + 2) (Rat.divInt (c + j * a1) (e + j * b1))]) (Fq w [(Dt, Rat.divInt (j) 1), (xy, Rat.divInt (k) 1), (pg, Rat.divInt (c + j * a1) (e + j * b1)), (su, Rat.divInt a1 b1), (w.heap.size, Rat.divInt N D)] (w.heap.size + 1) (w.heap.size + 2)) (Qk (w.heap.size + 1) (w.heap.size + 2) (Rat.divInt (c + j * a1) (e + j * b1)) (Rat.divInt (c + j * a1) (e + j * b1))) [] kr kr rfl (Rg.oo.pick ⟨Co _, Co _, Iy, Iw, trivial⟩) ⟨0, 0, Own.step _ _ hO (og.drew _)⟩
          (Rg.ax (Az (Rg.ja kr rfl) (List.Mem.tail _ (List.Mem.tail _ (List.Mem.head _))) rfl)
           (Rg.ax (Az (Rg.ja kr rfl) (List.Mem.tail _ (List.Mem.tail _ (List.Mem.head _))) rfl)
           (Rg.ax (Lm (Rg.ja kr rfl) (Rg.dw 0 kr) rfl)
           (Rg.ax (Ll (Rg.ja kr rfl) (Rg.dw 1 kr) rfl)
           Rg.jc)))) ?_
         clear hO HO
         intro v V15 hG hv hne
         clear hne
         simp only [Rg.puts, List.take_succ_cons, List.take_zero, List.drop_succ_cons, List.drop_zero, Act.put, List.setIfInBounds_toArray, List.set_cons_zero, List.set_cons_succ]
         have HO := hide (Fq.fin hG (hv 2 (by decide)) (hv 3 (by decide)))
         clear hG hv
         go_wp2_with fail
         obtain ⟨-, ni, mo, ma, mg, mq, mi, lv, mf, dh, mh⟩ := (aa HO).box _ _ (List.Mem.head _)
         have iw := ag dh 0
         have iq := ag dh 1
         have il := ag dh 2
         have ik := ag dh 3
         have iy := lt_of_block dh
         clear dh
         obtain ⟨-, x8, xx, xm, xq, xz, xw, xk, xn, jb, xu⟩ := (aa HO).box _ _ (List.Mem.tail _ (List.Mem.head _))
         have vw := ag jb 0
         have vv := ag jb 1
         have vo := ag jb 2
         have vk := ag jb 3
         have wu := lt_of_block jb
         clear jb
         exact bodyPost_ret (v := .tuple #[.agg #[.slice ni ma.length mo, .bool mg, .slice mq lv.length mi, .bool mf], .agg #[.slice x8 xm.length xx, .bool xq, .slice xz xk.length xw, .bool xn]]) (by simp [results, Tryz.results63, go_sem, iw, iq, il, ik, vw, vv, vo, vk, iy, wu]) rfl
          ⟨_, rfl, (aa HO).bel, ⟨c + j * a1, e + j * b1, c + j * a1, e + j * b1, .inl ⟨by have := (aa JF).en h1; have := (aa JF).bm; omega, ((aa JF).en h1).1, ((aa JF).en h1).2, ((aa JF).en h1).1, ((aa JF).en h1).2⟩, ⟨_, _, rfl, ⟨_, _, _, _, _, _, _, _, rfl, mh⟩, ⟨_, _, _, _, _, _, _, _, rfl, xu⟩⟩⟩⟩
        ·
         have d1 : (gm ((c + j * a1) * D - N * (e + j * b1)) == 0) = false := Oa h1
         go_upto_region 14 with fail
         refine Rg.tq 4 130 (Rg.pick [ek (Rat.divInt (c + j * a1) (e + j * b1)), ek (Rat.divInt N D), Rg.ji (.int .i64 (gm ((c + j * a1) * D - N * (e + j * b1)))), Rg.ji (.bool (false))]) (cz w [(Dt, Rat.divInt (j) 1), (xy, Rat.divInt (k) 1), (pg, Rat.divInt (c + j * a1) (e + j * b1)), (su, Rat.divInt a1 b1), (w.heap.size + 2, 0), (w.heap.size + 1, 0), (w.heap.size, Rat.divInt N D)] C13) og [] kr rfl (Rg.oo.pick ⟨df _, df _, Rg.fw _, Rg.fw _, trivial⟩) (cz.begin (aa HO))
          (Rg.ax (Rg.plain rfl (gy rfl (Rg.ja kr rfl) (fun W h => cz.box (List.Mem.tail _ (List.Mem.tail _ (List.Mem.head _))) h) rfl))
           (Rg.ax (Rg.plain rfl (gy rfl (Rg.ja kr rfl) (fun W h => cz.box (List.Mem.tail _ (List.Mem.tail _ (List.Mem.tail _ (List.Mem.tail _ (List.Mem.tail _ (List.Mem.tail _ (List.Mem.head _))))))) h) rfl))
           (Rg.ax (Rg.plain rfl (jh Tryz.func64 kr rfl cz.step (Rg.dw 0 kr) (Rg.dw 1 kr) (fun W v0 v1 hG h0 h1 => (Oq (aa JF).Ba (aa JF).Bb (aa RG).BN (aa RG).BD (aa JF).b0 (aa RG).D0 (aa JF).ga (aa RG).gx) W v0 v1 h0 h1)))
           (Rg.ax (Rg.plain rfl (Jv rfl (Rg.dw 2 kr) (Rg.yf _) rfl d1))
           Rg.jc)))) ?_
         intro v V14 ad9 hv hne
         clear hne
         simp only [Rg.puts, List.take_succ_cons, List.take_zero, List.drop_succ_cons, List.drop_zero, Act.put, List.setIfInBounds_toArray, List.set_cons_zero, List.set_cons_succ]
         have e3 : v 3 = .bool (false) := hv 3 (by decide)
         simp only [e3]
         have hO := ad9.1
         clear ad9
         try clear e3
         try clear hv
         replace HO := hide hO
         clear hO
         clear d1
         have hgo : m + 2 ≤ ((gk - 1 : Nat) : Int) + (b1 + (e + j * b1)) := by
          have g1 := (aa JF).gb; have g2 := hgk.out; have g3 := (aa KF).k0; have g4 := (aa JF).k0
          by_cases hp : 0 < k
          ·
           omega
          ·
           have hb2 : b1 = b := by rw [hb1, show k = 0 by omega, Int.zero_mul, Int.add_zero]
           have ha2 : a1 = a := by rw [ha1, show k = 0 by omega, Int.zero_mul, Int.add_zero]
           have g5 := (aa HS).goes om hk hp (j := j) (by rw [hj, hb2, ha2])
           omega
         have Sk : 1 ≤ gk := by have g2 := hgk.out; omega
         have HN := hide ((aa JF).st h1); have HGO := hide hgo; have HNG := hide Sk
         clear hgo Sk h0 h1 hgb K4 hk hj ha1 hb1
         go_wp2_with fail
         go_roundg (gk - 1)
         case measure => have := aa HNG; omega
         case rel => exact ⟨a1, b1, c + j * a1, e + j * b1, aa HN, HGO, (Own.tail (Own.tail (aa HO)))⟩

end Go.Proofs.YtpjgoogeokbaaaaGreatDoor
