/- Texts beneath a law of layer 1. -/
import Derived.Test.YtpjgoogeokbaaaaGreatDoorCk17
import Derived.Deep.LoopGhost
set_option maxRecDepth 100000
namespace Go.Proofs.YtpjgoogeokbaaaaGreatDoor
open Go.RowKit

def aqv (p q : Rat) : World → Value → Prop := fun W v => ∃ u1 u2, v = .tuple #[u1, u2] ∧ ek p W u1 ∧ ek q W u2
def awh (N D m : Int) : World → Value → Prop := fun W v => ∃ a b c e : Int, Wd.Uv N D m a b c e ∧ aqv (Rat.divInt a b) (Rat.divInt c e) W v
theorem Own.tail {w W : World} {p : Nat × Rat} {bs : List (Nat × Rat)} (h : Own w (p :: bs) W) : Own w bs W := ⟨h.bel, by have := h.nd; rw [List.map_cons] at this; exact (List.nodup_cons.1 this).2, fun b q hm => h.box b q (List.mem_cons_of_mem _ hm)⟩
structure OkF (N D : Int) : Prop where
 BN : Bd N
 BD : Bd D
 BF : Bd (N / D)
 D0 : 0 < D
 gx : N.natAbs.gcd D.natAbs = 1
theorem okF {N D : Int} (ok : Wd.nu N D) : OkF N D := by
 obtain ⟨o1, o2, o3, o4, o5⟩ := ok
 have g1 : -1000000000000 ≤ N / D := by
  rw [Int.le_ediv_iff_mul_le om]; omega
 have g2 : N / D < 1000000000001 := Int.ediv_lt_of_lt_mul om om
 exact ⟨by unfold Bd; omega, by unfold Bd; omega, by unfold Bd; omega, by omega, o5⟩
theorem ayt {N D : Int} (ok : Wd.nu N D) (h0 : N / D * D = N) : N / D = N ∧ 1 = D := by
 obtain ⟨o1, o2, o3, o4, o5⟩ := ok
 have : N * 1 - N / D * D = 0 := by omega
 exact Wd.amy (N := N) (D := D) (a := N / D) (b := 1) (c := N / D + 1) (e := 1) om om o5 om this
theorem ayu {N D m : Int} (ok : Wd.nu N D) (hm : 1 ≤ m) (h0 : ¬ N / D * D = N) : Wd.Gc N D m (N / D) 1 (N / D + 1) 1 := by
 obtain ⟨o1, o2, o3, o4, o5⟩ := ok
 have f1 := Int.emod_add_mul_ediv N D
 rw [Int.mul_comm] at f1
 refine Wd.ayd ?_ hm o3 o4 om
 rcases Int.lt_or_le 1 D with g | g
 ·
  exact g
 ·
  exact absurd (by have : D = 1 := by omega
                   rw [this]; omega) h0
set_option maxHeartbeats 16000000 in
theorem atb (N D m : Int) (ok : Wd.nu N D) (hm : 1 ≤ m) (hm2 : m ≤ 1000000000000) (w : World) (u1 : Value) (h1 : ek (Rat.divInt N D) w u1) :
  Calls Tryz.prog 63 #[u1, .int .i64 m] w (qz (awh N D m) w) := by
 obtain ⟨A1, c1, l1, m1, A2, c2, l2, m2, rfl, hq1⟩ := h1
 have Pb := hide ok
 have HST := hide (fun h0 => ayt ok h0)
 have HB0 := hide (fun h0 => ayu ok hm h0)
 have OK := okF ok
 have Ie := hide OK
 clear ok OK
 go_enter Tryz.func63, Tryz.ntmps63
 go_upto_region 1 with fail
 have hO := (Own.Vk (Own.Vk (Own.push (Own.nil w) (hq1.below (Below.refl _ _)) (w.heap.size) rfl) (w.heap.size + 1) (by simp only [World.size_alloc])) (w.heap.size + 2) (by simp only [World.size_alloc]))
 generalize ((w.alloc (.cells #[.slice A1 l1.length c1, .bool m1, .slice A2 l2.length c2, .bool m2] 52)).alloc (.cells #[.slice none 0 0, .bool false, .slice none 0 0, .bool false] 52)).alloc (.cells #[.slice none 0 0, .bool false, .slice none 0 0, .bool false] 52) = W0 at *
 have HO := hide hO
 clear hO
 go_upto_region 1 with fail
 refine Rg.region 8 130 (Rg.pick [ek (Rat.divInt N D), ek (Rat.divInt (N / D) 1), ek (Rat.divInt N D), ek (Rat.divInt (N / D) 1), ek (Rat.divInt (1) 1), ek (Rat.divInt (N / D + 1) 1), Dq W0.heap.size, Dq W0.heap.size]) (cz w [(w.heap.size + 2, 0), (w.heap.size + 1, 0), (w.heap.size, Rat.divInt N D)] W0) oh [6, 7] kr kr rfl (Rg.oq.pick ⟨df _, df _, df _, df _, df _, df _, Dn _, Dn _, trivial⟩) (cz.start (aa HO))
  (Rg.ax (Rg.plain rfl (gy rfl (Rg.ja kr rfl) (fun W h => cz.box (List.Mem.tail _ (List.Mem.tail _ (List.Mem.head _))) h) rfl))
   (Rg.ax (Rg.plain rfl (lg Tryz.func56 kr rfl cz.step (Rg.dw 0 kr) (fun W v0 hG h0 => Rl (aa Ie).BN (aa Ie).BD (aa Ie).D0 W v0 h0)))
   (Rg.ax (Rg.plain rfl (gy rfl (Rg.ja kr rfl) (fun W h => cz.box (List.Mem.tail _ (List.Mem.tail _ (List.Mem.head _))) h) rfl))
   (Rg.ax (Rg.plain rfl (lg Tryz.func56 kr rfl cz.step (Rg.dw 2 kr) (fun W v0 hG h0 => Rl (aa Ie).BN (aa Ie).BD (aa Ie).D0 W v0 h0)))
   (Rg.ax (Rg.plain rfl (lg Tryz.func72 kr rfl cz.step (Rg.zg _) (fun W v0 hG h0 => by cases h0; exact Il 1 om om W)))
   (Rg.ax (Rg.plain rfl (jh Tryz.func43 kr rfl cz.step (Rg.dw 3 kr) (Rg.dw 4 kr) (fun W v0 v1 hG h0 h1 => Hq (aa Ie).BF bd1 W v0 v1 h0 h1)))
   (Rg.ax (Rg.plain rfl (Ho cz.step cz.size rfl (Fy (by intro j hj; simp at hj; (repeat' (first | (rcases hj with rfl | hj))) <;> first | (subst hj; rfl) | rfl))))
   (Rg.ax (Rg.plain rfl (Ho cz.step cz.size rfl (Fy (by intro j hj; simp at hj; (repeat' (first | (rcases hj with rfl | hj))) <;> first | (subst hj; rfl) | rfl))))
   Rg.jc)))))))) ?_
 intro v V1 hG1 hv hne
 simp only [Rg.puts, List.take_succ_cons, List.take_zero, List.drop_succ_cons, List.drop_zero, Act.put, List.setIfInBounds_toArray, List.set_cons_zero, List.set_cons_succ]
 obtain ⟨abp, aav, Zv, Zn, abo, aau, Zu, Zm, e1, f1⟩ := (show ek (Rat.divInt (N / D) 1) V1 (v 1) from hv 1 (by decide))
 obtain ⟨bqu, bpw, bor, bny, bqt, bpv, boq, bnx, e5, f5⟩ := (show ek (Rat.divInt (N / D + 1) 1) V1 (v 5) from hv 5 (by decide))
 obtain ⟨uo, e6, adm, hz6⟩ := (show Dq W0.heap.size V1 (v 6) from hv 6 (by decide))
 obtain ⟨qg, e7, Tj, hz7⟩ := (show Dq W0.heap.size V1 (v 7) from hv 7 (by decide))
 simp only [e1, e5, e6, e7]
 have hO := hG1.1
 have hnn : qg ≠ uo := fun h => hne 7 6 rfl rfl (by decide) (by decide) (by decide) rfl rfl (by rw [e6, e7, h])
 clear hne
 replace hO := Own.blq (aa HO) hG1.2 adm hz6 Tj hz7 hnn
 obtain ⟨-, _, _, _, _, _, _, _, _, hz, -⟩ := hO.box (uo) (0) (List.Mem.tail _ (List.Mem.head _))
 have abu := ag hz 0
 have acx := ah hz 0
 have abt := ag hz 1
 have acu := ah hz 1
 have abr := ag hz 2
 have acs := ah hz 2
 have abq := ag hz 3
 have acr := ah hz 3
 have adk := lt_of_block hz
 clear hz
 obtain ⟨-, _, _, _, _, _, _, _, _, hz, -⟩ := hO.box (qg) (0) (List.Mem.head _)
 have Qo := ag hz 0
 have Qx := ah hz 0
 have Qm := ag hz 1
 have Qv := ah hz 1
 have Qk := ag hz 2
 have Qt := ah hz 2
 have Qi := ag hz 3
 have Qr := ah hz 3
 have Ri := lt_of_block hz
 clear hz
 go_upto_region 2 with fail
 have akg := Ud (v0 := .slice abp Zv.length aav) (v1 := .bool Zn) (v2 := .slice abo Zu.length aau) (v3 := .bool Zm) (hO.box (uo) (0) (List.Mem.tail _ (List.Mem.head _))).2 f5
 replace hO := Own.set (xs := [(qg, 0)]) (ys := [(w.heap.size + 2, 0), (w.heap.size + 1, 0), (w.heap.size, Rat.divInt N D)]) hO f1
 replace hO := Own.set (xs := []) (ys := [(uo, Rat.divInt (N / D) 1), (w.heap.size + 2, 0), (w.heap.size + 1, 0), (w.heap.size, Rat.divInt N D)]) hO akg
 unfold Da at hO
 generalize (((((((V1.setCell ⟨uo, 0, none⟩ (.slice abp Zv.length aav)).setCell ⟨uo, 1, none⟩ (.bool Zn)).setCell ⟨uo, 2, none⟩ (.slice abo Zu.length aau)).setCell ⟨uo, 3, none⟩ (.bool Zm)).setCell ⟨qg, 0, none⟩ (.slice bqu bor.length bpw)).setCell ⟨qg, 1, none⟩ (.bool bny)).setCell ⟨qg, 2, none⟩ (.slice bqt boq.length bpv)).setCell ⟨qg, 3, none⟩ (.bool bnx) = U1 at *
 try clear abu acx abt acu abr acs abq acr Qo Qx Qm Qv Qk Qt Qi Qr hG1
 try clear e1 e5 e6 e7 f1 f5 akg adm hz6 Tj hz7 hnn adk Ri
 try clear hv
 replace HO := hide hO
 clear hO
 by_cases h0 : N / D * D = N
 ·
  have d1 : (gm (N / D * D - N * 1) == 0) = true := Qz om
  go_upto_region 2 with fail
  refine Rg.uu 4 130 (Rg.pick [ek (Rat.divInt (N / D) 1), ek (Rat.divInt N D), Rg.ji (.int .i64 (gm (N / D * D - N * 1))), Rg.ji (.bool (true))]) (cz w [(qg, Rat.divInt (N / D + 1) 1), (uo, Rat.divInt (N / D) 1), (w.heap.size + 2, 0), (w.heap.size + 1, 0), (w.heap.size, Rat.divInt N D)] U1) oh [] kr rfl (Rg.oq.pick ⟨df _, df _, Rg.fw _, Rg.fw _, trivial⟩) (cz.begin (aa HO))
   (Rg.ax (Rg.plain rfl (gy rfl (Rg.ja kr rfl) (fun W h => cz.box (List.Mem.tail _ (List.Mem.head _)) h) rfl))
    (Rg.ax (Rg.plain rfl (gy rfl (Rg.ja kr rfl) (fun W h => cz.box (List.Mem.tail _ (List.Mem.tail _ (List.Mem.tail _ (List.Mem.tail _ (List.Mem.head _))))) h) rfl))
    (Rg.ax (Rg.plain rfl (jh Tryz.func64 kr rfl cz.step (Rg.dw 0 kr) (Rg.dw 1 kr) (fun W v0 v1 hG h0 h1 => (Rm (aa Ie).BF bd1 (aa Ie).BN (aa Ie).BD om (aa Ie).D0 (by simp) (aa Ie).gx) W v0 v1 h0 h1)))
    (Rg.ax (Rg.plain rfl (Ls rfl (Rg.dw 2 kr) (Rg.zg _) rfl d1))
    Rg.jc)))) ?_
  intro v V2 hG2 hv hne
  clear hne
  simp only [Rg.puts, List.take_succ_cons, List.take_zero, List.drop_succ_cons, List.drop_zero, Act.put, List.setIfInBounds_toArray, List.set_cons_zero, List.set_cons_succ]
  have e3 : v 3 = .bool (true) := hv 3 (by decide)
  simp only [e3]
  have hO := hG2.1
  clear hG2
  try clear e3
  try clear hv
  replace HO := hide hO
  clear hO
  clear d1
  go_upto_region 3 with fail
  have hO : Own w [(w.heap.size + 1, 0), (w.heap.size + 2, 0), (qg, Rat.divInt (N / D + 1) 1), (uo, Rat.divInt (N / D) 1), (w.heap.size, Rat.divInt N D)] V2 := (Own.front (xs := [(w.heap.size + 2, 0), (qg, Rat.divInt (N / D + 1) 1), (uo, Rat.divInt (N / D) 1)]) (ys := [(w.heap.size, Rat.divInt N D)]) (Own.front (xs := [(qg, Rat.divInt (N / D + 1) 1), (uo, Rat.divInt (N / D) 1)]) (ys := [(w.heap.size + 1, 0), (w.heap.size, Rat.divInt N D)]) (aa HO)))
  refine Rg.region 4 130 (Rg.pick [ek (Rat.divInt (N / D) 1), ek (Rat.divInt (N / D) 1), fun W _ => vo W (w.heap.size + 1) (Rat.divInt (N / D) 1), fun W _ => vo W (w.heap.size + 2) (Rat.divInt (N / D) 1)]) (Gy w [(qg, Rat.divInt (N / D + 1) 1), (uo, Rat.divInt (N / D) 1), (w.heap.size, Rat.divInt N D)] (w.heap.size + 1) (w.heap.size + 2)) (Tz (w.heap.size + 1) (w.heap.size + 2) (Rat.divInt (N / D) 1) (Rat.divInt (N / D) 1)) [] kr kr rfl (Rg.oq.pick ⟨Dj _, Dj _, Kj, Ki, trivial⟩) ⟨0, 0, Own.step _ _ hO (oh.drew _)⟩
   (Rg.ax (Ch (Rg.ja kr rfl) (List.Mem.tail _ (List.Mem.head _)) rfl)
    (Rg.ax (Ch (Rg.ja kr rfl) (List.Mem.tail _ (List.Mem.head _)) rfl)
    (Rg.ax (Nz (Rg.ja kr rfl) (Rg.dw 0 kr) rfl)
    (Rg.ax (Ny (Rg.ja kr rfl) (Rg.dw 1 kr) rfl)
    Rg.jc)))) ?_
  clear hO HO
  intro v V3 hG hv hne
  clear hne
  simp only [Rg.puts, List.take_succ_cons, List.take_zero, List.drop_succ_cons, List.drop_zero, Act.put, List.setIfInBounds_toArray, List.set_cons_zero, List.set_cons_succ]
  have HO := hide (Gy.fin hG (hv 2 (by decide)) (hv 3 (by decide)))
  clear hG hv
  go_wp2_with fail
  obtain ⟨-, nk, mq, mf, mh, ni, mo, ma, mg, dh, mi⟩ := (aa HO).box _ _ (List.Mem.head _)
  have iw := ag dh 0
  have iq := ag dh 1
  have il := ag dh 2
  have ik := ag dh 3
  have iy := lt_of_block dh
  clear dh
  obtain ⟨-, zb, yx, ym, yo, za, yw, yh, yn, jb, yu⟩ := (aa HO).box _ _ (List.Mem.tail _ (List.Mem.head _))
  have xq := ag jb 0
  have xn := ag jb 1
  have xm := ag jb 2
  have xk := ag jb 3
  have xw := lt_of_block jb
  clear jb
  exact bodyPost_ret (v := .tuple #[.agg #[.slice nk mf.length mq, .bool mh, .slice ni ma.length mo, .bool mg], .agg #[.slice zb ym.length yx, .bool yo, .slice za yh.length yw, .bool yn]]) (by simp [results, Tryz.results63, go_sem, iw, iq, il, ik, xq, xn, xm, xk, iy, xw]) rfl
   ⟨_, rfl, (aa HO).bel, ⟨N / D, 1, N / D, 1, .inl ⟨by have := ((aa HST) h0).2; omega, ((aa HST) h0).1, ((aa HST) h0).2, ((aa HST) h0).1, ((aa HST) h0).2⟩, ⟨_, _, rfl, ⟨_, _, _, _, _, _, _, _, rfl, mi⟩, ⟨_, _, _, _, _, _, _, _, rfl, yu⟩⟩⟩⟩
 ·
  have d1 : (gm (N / D * D - N * 1) == 0) = false := Qy om
  go_upto_region 2 with fail
  refine Rg.uu 4 130 (Rg.pick [ek (Rat.divInt (N / D) 1), ek (Rat.divInt N D), Rg.ji (.int .i64 (gm (N / D * D - N * 1))), Rg.ji (.bool (false))]) (cz w [(qg, Rat.divInt (N / D + 1) 1), (uo, Rat.divInt (N / D) 1), (w.heap.size + 2, 0), (w.heap.size + 1, 0), (w.heap.size, Rat.divInt N D)] U1) oh [] kr rfl (Rg.oq.pick ⟨df _, df _, Rg.fw _, Rg.fw _, trivial⟩) (cz.begin (aa HO))
   (Rg.ax (Rg.plain rfl (gy rfl (Rg.ja kr rfl) (fun W h => cz.box (List.Mem.tail _ (List.Mem.head _)) h) rfl))
    (Rg.ax (Rg.plain rfl (gy rfl (Rg.ja kr rfl) (fun W h => cz.box (List.Mem.tail _ (List.Mem.tail _ (List.Mem.tail _ (List.Mem.tail _ (List.Mem.head _))))) h) rfl))
    (Rg.ax (Rg.plain rfl (jh Tryz.func64 kr rfl cz.step (Rg.dw 0 kr) (Rg.dw 1 kr) (fun W v0 v1 hG h0 h1 => (Rm (aa Ie).BF bd1 (aa Ie).BN (aa Ie).BD om (aa Ie).D0 (by simp) (aa Ie).gx) W v0 v1 h0 h1)))
    (Rg.ax (Rg.plain rfl (Ls rfl (Rg.dw 2 kr) (Rg.zg _) rfl d1))
    Rg.jc)))) ?_
  intro v V2 hG2 hv hne
  clear hne
  simp only [Rg.puts, List.take_succ_cons, List.take_zero, List.drop_succ_cons, List.drop_zero, Act.put, List.setIfInBounds_toArray, List.set_cons_zero, List.set_cons_succ]
  have e3 : v 3 = .bool (false) := hv 3 (by decide)
  simp only [e3]
  have hO := hG2.1
  clear hG2
  try clear e3
  try clear hv
  replace HO := hide hO
  clear hO
  clear d1
  have HB := hide ((aa HB0) h0)
  clear HB0 HST h0
  go_wp2_with fail
  go_loopg [] (m + 2).toNat (fun g wr => ∃ a b c e : Int, Wd.Gc N D m a b c e ∧ Hid (m + 2 ≤ (g : Int) + (b + e)) ∧ Own w [(qg, Rat.divInt c e), (uo, Rat.divInt a b), (w.heap.size + 2, 0), (w.heap.size + 1, 0), (w.heap.size, Rat.divInt N D)] wr)
  case atStart => exact ⟨N / D, 1, N / D + 1, 1, aa HB, hide om, aa HO⟩
  case round =>
   clear HO HB
   obtain ⟨a, b, c, e, hS, hgk, hO⟩ := hrel
   have HO := hide hO
   clear hO
   have RF := hide (hS.rd (aa Pb) hm2)
   have HS := hide hS
   clear hS
   by_cases hs : m < b + e
   ·
    have d1 : decide (gm (b + e - m) ≤ 0) = false := bfu om
    go_upto_region 4 with fail
    refine Rg.region 9 130 (Rg.pick [ek (Rat.divInt a b), ek (Rat.divInt (b) 1), ek (Rat.divInt c e), ek (Rat.divInt (e) 1), ek (Rat.divInt (b + e) 1), Rg.ji (.int .i64 m), ek (Rat.divInt (m) 1), Rg.ji (.int .i64 (gm (b + e - m))), Rg.ji (.bool (false))]) (cz w [(qg, Rat.divInt c e), (uo, Rat.divInt a b), (w.heap.size + 2, 0), (w.heap.size + 1, 0), (w.heap.size, Rat.divInt N D)] wr) oh [] kr kr rfl (Rg.oq.pick ⟨df _, df _, df _, df _, df _, Rg.fw _, df _, Rg.fw _, Rg.fw _, trivial⟩) (cz.start (aa HO))
     (Rg.ax (Rg.plain rfl (gy rfl (Rg.ja kr rfl) (fun W h => cz.box (List.Mem.tail _ (List.Mem.head _)) h) rfl))
      (Rg.ax (Rg.plain rfl (lg Tryz.func65 kr rfl cz.step (Rg.dw 0 kr) (fun W v0 hG h0 => Cg (aa RF).b0 (aa RF).ga W v0 h0)))
      (Rg.ax (Rg.plain rfl (gy rfl (Rg.ja kr rfl) (fun W h => cz.box (List.Mem.head _) h) rfl))
      (Rg.ax (Rg.plain rfl (lg Tryz.func65 kr rfl cz.step (Rg.dw 2 kr) (fun W v0 hG h0 => Cg (aa RF).e0 (aa RF).gc W v0 h0)))
      (Rg.ax (Rg.plain rfl (jh Tryz.func43 kr rfl cz.step (Rg.dw 1 kr) (Rg.dw 3 kr) (fun W v0 v1 hG h0 h1 => Hq (aa RF).Bb (aa RF).Be W v0 v1 h0 h1)))
      (Rg.ax (Rg.plain rfl (xe rfl (Rg.ja kr rfl)))
      (Rg.ax (Rg.plain rfl (lg Tryz.func72 kr rfl cz.step (Rg.dw 5 kr) (fun W v0 hG h0 => by cases h0; exact Il m om om W)))
      (Rg.ax (Rg.plain rfl (jh Tryz.func64 kr rfl cz.step (Rg.dw 4 kr) (Rg.dw 6 kr) (fun W v0 v1 hG h0 h1 => Og (aa RF).Bs (aa RF).Bm W v0 v1 h0 h1)))
      (Rg.ax (Rg.plain rfl (bbp rfl (Rg.dw 7 kr) (Rg.zg _) rfl d1))
      Rg.jc))))))))) ?_
    intro v V3 hG3 hv hne
    clear hne
    simp only [Rg.puts, List.take_succ_cons, List.take_zero, List.drop_succ_cons, List.drop_zero, Act.put, List.setIfInBounds_toArray, List.set_cons_zero, List.set_cons_succ]
    have e8 : v 8 = .bool (false) := hv 8 (by decide)
    simp only [e8]
    have hO := hG3.1
    clear hG3
    try clear e8
    try clear hv
    replace HO := hide hO
    clear hO
    clear d1
    go_upto_region 16 with fail
    have hO : Own w [(w.heap.size + 1, 0), (w.heap.size + 2, 0), (qg, Rat.divInt c e), (uo, Rat.divInt a b), (w.heap.size, Rat.divInt N D)] V3 := (Own.front (xs := [(w.heap.size + 2, 0), (qg, Rat.divInt c e), (uo, Rat.divInt a b)]) (ys := [(w.heap.size, Rat.divInt N D)]) (Own.front (xs := [(qg, Rat.divInt c e), (uo, Rat.divInt a b)]) (ys := [(w.heap.size + 1, 0), (w.heap.size, Rat.divInt N D)]) (aa HO)))
    refine Rg.region 4 130 (Rg.pick [ek (Rat.divInt a b), ek (Rat.divInt c e), fun W _ => vo W (w.heap.size + 1) (Rat.divInt a b), fun W _ => vo W (w.heap.size + 2) (Rat.divInt c e)]) (Gy w [(qg, Rat.divInt c e), (uo, Rat.divInt a b), (w.heap.size, Rat.divInt N D)] (w.heap.size + 1) (w.heap.size + 2)) (Tz (w.heap.size + 1) (w.heap.size + 2) (Rat.divInt a b) (Rat.divInt c e)) [] kr kr rfl (Rg.oq.pick ⟨Dj _, Dj _, Kj, Ki, trivial⟩) ⟨0, 0, Own.step _ _ hO (oh.drew _)⟩
     (Rg.ax (Ch (Rg.ja kr rfl) (List.Mem.tail _ (List.Mem.head _)) rfl)
      (Rg.ax (Ch (Rg.ja kr rfl) (List.Mem.head _) rfl)
      (Rg.ax (Nz (Rg.ja kr rfl) (Rg.dw 0 kr) rfl)
      (Rg.ax (Ny (Rg.ja kr rfl) (Rg.dw 1 kr) rfl)
      Rg.jc)))) ?_
    clear hO HO
    intro v V4 hG hv hne
    clear hne
    simp only [Rg.puts, List.take_succ_cons, List.take_zero, List.drop_succ_cons, List.drop_zero, Act.put, List.setIfInBounds_toArray, List.set_cons_zero, List.set_cons_succ]
    have HO := hide (Gy.fin hG (hv 2 (by decide)) (hv 3 (by decide)))
    clear hG hv
    go_wp2_with fail
    obtain ⟨-, nk, mq, mf, mh, ni, mo, ma, mg, dh, mi⟩ := (aa HO).box _ _ (List.Mem.head _)
    have iw := ag dh 0
    have iq := ag dh 1
    have il := ag dh 2
    have ik := ag dh 3
    have iy := lt_of_block dh
    clear dh
    obtain ⟨-, zb, yx, ym, yo, za, yw, yh, yn, jb, yu⟩ := (aa HO).box _ _ (List.Mem.tail _ (List.Mem.head _))
    have xq := ag jb 0
    have xn := ag jb 1
    have xm := ag jb 2
    have xk := ag jb 3
    have xw := lt_of_block jb
    clear jb
    exact bodyPost_ret (v := .tuple #[.agg #[.slice nk mf.length mq, .bool mh, .slice ni ma.length mo, .bool mg], .agg #[.slice zb ym.length yx, .bool yo, .slice za yh.length yw, .bool yn]]) (by simp [results, Tryz.results63, go_sem, iw, iq, il, ik, xq, xn, xm, xk, iy, xw]) rfl
     ⟨_, rfl, (aa HO).bel, ⟨a, b, c, e, .inr ((aa HS).sides om), ⟨_, _, rfl, ⟨_, _, _, _, _, _, _, _, rfl, mi⟩, ⟨_, _, _, _, _, _, _, _, rfl, yu⟩⟩⟩⟩
   ·
    have d1 : decide (gm (b + e - m) ≤ 0) = true := bfv om
    go_upto_region 4 with fail
    refine Rg.region 9 130 (Rg.pick [ek (Rat.divInt a b), ek (Rat.divInt (b) 1), ek (Rat.divInt c e), ek (Rat.divInt (e) 1), ek (Rat.divInt (b + e) 1), Rg.ji (.int .i64 m), ek (Rat.divInt (m) 1), Rg.ji (.int .i64 (gm (b + e - m))), Rg.ji (.bool (true))]) (cz w [(qg, Rat.divInt c e), (uo, Rat.divInt a b), (w.heap.size + 2, 0), (w.heap.size + 1, 0), (w.heap.size, Rat.divInt N D)] wr) oh [] kr kr rfl (Rg.oq.pick ⟨df _, df _, df _, df _, df _, Rg.fw _, df _, Rg.fw _, Rg.fw _, trivial⟩) (cz.start (aa HO))
     (Rg.ax (Rg.plain rfl (gy rfl (Rg.ja kr rfl) (fun W h => cz.box (List.Mem.tail _ (List.Mem.head _)) h) rfl))
      (Rg.ax (Rg.plain rfl (lg Tryz.func65 kr rfl cz.step (Rg.dw 0 kr) (fun W v0 hG h0 => Cg (aa RF).b0 (aa RF).ga W v0 h0)))
      (Rg.ax (Rg.plain rfl (gy rfl (Rg.ja kr rfl) (fun W h => cz.box (List.Mem.head _) h) rfl))
      (Rg.ax (Rg.plain rfl (lg Tryz.func65 kr rfl cz.step (Rg.dw 2 kr) (fun W v0 hG h0 => Cg (aa RF).e0 (aa RF).gc W v0 h0)))
      (Rg.ax (Rg.plain rfl (jh Tryz.func43 kr rfl cz.step (Rg.dw 1 kr) (Rg.dw 3 kr) (fun W v0 v1 hG h0 h1 => Hq (aa RF).Bb (aa RF).Be W v0 v1 h0 h1)))
      (Rg.ax (Rg.plain rfl (xe rfl (Rg.ja kr rfl)))
      (Rg.ax (Rg.plain rfl (lg Tryz.func72 kr rfl cz.step (Rg.dw 5 kr) (fun W v0 hG h0 => by cases h0; exact Il m om om W)))
      (Rg.ax (Rg.plain rfl (jh Tryz.func64 kr rfl cz.step (Rg.dw 4 kr) (Rg.dw 6 kr) (fun W v0 v1 hG h0 h1 => Og (aa RF).Bs (aa RF).Bm W v0 v1 h0 h1)))
      (Rg.ax (Rg.plain rfl (bbp rfl (Rg.dw 7 kr) (Rg.zg _) rfl d1))
      Rg.jc))))))))) ?_
    intro v V3 hG3 hv hne
    clear hne
    simp only [Rg.puts, List.take_succ_cons, List.take_zero, List.drop_succ_cons, List.drop_zero, Act.put, List.setIfInBounds_toArray, List.set_cons_zero, List.set_cons_succ]
    have e8 : v 8 = .bool (true) := hv 8 (by decide)
    simp only [e8]
    have hO := hG3.1
    clear hG3
    try clear e8
    try clear hv
    replace HO := hide hO
    clear hO
    clear d1
    obtain ⟨k, hk⟩ : ∃ k, k = Wd.Hy (N * b - a * D) (c * D - N * e) m b e := ⟨_, rfl⟩
    have KF := hide ((aa HS).rk (aa Pb) hm2 hk)
    go_upto_region 5 with fail
    refine Rg.region 21 130 (Rg.pick [ek (Rat.divInt N D), ek (Rat.divInt a b), ek (Rat.divInt (b) 1), ek (Rat.divInt (N * b) D), ek (Rat.divInt a b), ek (Rat.divInt (a) 1), ek (Rat.divInt (N * b - a * D) D), ek (Rat.divInt c e), ek (Rat.divInt (c) 1), ek (Rat.divInt N D), ek (Rat.divInt c e), ek (Rat.divInt (e) 1), ek (Rat.divInt (N * e) D), ek (Rat.divInt (c * D - N * e) D), ek (Rat.divInt a b), ek (Rat.divInt (b) 1), ek (Rat.divInt c e), ek (Rat.divInt (e) 1), Rg.ji (.int .i64 m), ek (Rat.divInt (k) 1), Dq V3.heap.size]) (cz w [(qg, Rat.divInt c e), (uo, Rat.divInt a b), (w.heap.size + 2, 0), (w.heap.size + 1, 0), (w.heap.size, Rat.divInt N D)] V3) oh [20] kr kr rfl (Rg.oq.pick ⟨df _, df _, df _, df _, df _, df _, df _, df _, df _, df _, df _, df _, df _, df _, df _, df _, df _, df _, Rg.fw _, df _, Dn _, trivial⟩) (cz.start (aa HO))
     (Rg.ax (Rg.plain rfl (gy rfl (Rg.ja kr rfl) (fun W h => cz.box (List.Mem.tail _ (List.Mem.tail _ (List.Mem.tail _ (List.Mem.tail _ (List.Mem.head _))))) h) rfl))
      (Rg.ax (Rg.plain rfl (gy rfl (Rg.ja kr rfl) (fun W h => cz.box (List.Mem.tail _ (List.Mem.head _)) h) rfl))
      (Rg.ax (Rg.plain rfl (lg Tryz.func65 kr rfl cz.step (Rg.dw 1 kr) (fun W v0 hG h0 => Cg (aa RF).b0 (aa RF).ga W v0 h0)))
      (Rg.ax (Rg.plain rfl (jh Tryz.func45 kr rfl cz.step (Rg.dw 0 kr) (Rg.dw 2 kr) (fun W v0 v1 hG h0 h1 => Ui (aa RF).BN (aa RF).BD (by have := (aa RF).D0; omega) (aa RF).Bb W v0 v1 h0 h1)))
      (Rg.ax (Rg.plain rfl (gy rfl (Rg.ja kr rfl) (fun W h => cz.box (List.Mem.tail _ (List.Mem.head _)) h) rfl))
      (Rg.ax (Rg.plain rfl (lg Tryz.func115 kr rfl cz.step (Rg.dw 4 kr) (fun W v0 hG h0 => Pp (aa RF).b0 (aa RF).ga W v0 h0)))
      (Rg.ax (Rg.plain rfl (jh Tryz.func44 kr rfl cz.step (Rg.dw 3 kr) (Rg.dw 5 kr) (fun W v0 v1 hG h0 h1 => ajg (aa RF).BNb (aa RF).BD (by have := (aa RF).D0; omega) (aa RF).Ba W v0 v1 h0 h1)))
      (Rg.ax (Rg.plain rfl (gy rfl (Rg.ja kr rfl) (fun W h => cz.box (List.Mem.head _) h) rfl))
      (Rg.ax (Rg.plain rfl (lg Tryz.func115 kr rfl cz.step (Rg.dw 7 kr) (fun W v0 hG h0 => Pp (aa RF).e0 (aa RF).gc W v0 h0)))
      (Rg.ax (Rg.plain rfl (gy rfl (Rg.ja kr rfl) (fun W h => cz.box (List.Mem.tail _ (List.Mem.tail _ (List.Mem.tail _ (List.Mem.tail _ (List.Mem.head _))))) h) rfl))
      (Rg.ax (Rg.plain rfl (gy rfl (Rg.ja kr rfl) (fun W h => cz.box (List.Mem.head _) h) rfl))
      (Rg.ax (Rg.plain rfl (lg Tryz.func65 kr rfl cz.step (Rg.dw 10 kr) (fun W v0 hG h0 => Cg (aa RF).e0 (aa RF).gc W v0 h0)))
      (Rg.ax (Rg.plain rfl (jh Tryz.func45 kr rfl cz.step (Rg.dw 9 kr) (Rg.dw 11 kr) (fun W v0 v1 hG h0 h1 => Ui (aa RF).BN (aa RF).BD (by have := (aa RF).D0; omega) (aa RF).Be W v0 v1 h0 h1)))
      (Rg.ax (Rg.plain rfl (jh Tryz.func44 kr rfl cz.step (Rg.dw 8 kr) (Rg.dw 12 kr) (fun W v0 v1 hG h0 h1 => amv (aa RF).BNe (aa RF).BD (by have := (aa RF).D0; omega) (aa RF).Bc W v0 v1 h0 h1)))
      (Rg.ax (Rg.plain rfl (gy rfl (Rg.ja kr rfl) (fun W h => cz.box (List.Mem.tail _ (List.Mem.head _)) h) rfl))
      (Rg.ax (Rg.plain rfl (lg Tryz.func65 kr rfl cz.step (Rg.dw 14 kr) (fun W v0 hG h0 => Cg (aa RF).b0 (aa RF).ga W v0 h0)))
      (Rg.ax (Rg.plain rfl (gy rfl (Rg.ja kr rfl) (fun W h => cz.box (List.Mem.head _) h) rfl))
      (Rg.ax (Rg.plain rfl (lg Tryz.func65 kr rfl cz.step (Rg.dw 16 kr) (fun W v0 hG h0 => Cg (aa RF).e0 (aa RF).gc W v0 h0)))
      (Rg.ax (Rg.plain rfl (xe rfl (Rg.ja kr rfl)))
      (Rg.ax (Rg.plain rfl (ami Tryz.func114 kr rfl cz.step (Rg.dw 6 kr) (Rg.dw 13 kr) (Rg.dw 15 kr) (Rg.dw 17 kr) (Rg.dw 18 kr) (fun W v0 v1 v2 v3 v4 hG h0 h1 h2 h3 h4 => by cases h4; rw [hk]; exact aff (aa HS).lo (aa HS).hi (aa RF).D0 (aa RF).BL (aa RF).BH (aa RF).BD (aa HS).bm (aa HS).b1 (aa HS).e1 (aa HS).em hm2 W v0 v1 v2 v3 h0 h1 h2 h3)))
      (Rg.ax (Rg.plain rfl (Ho cz.step cz.size rfl (Fy (by intro j hj; simp at hj; (repeat' (first | (rcases hj with rfl | hj))) <;> first | (subst hj; rfl) | rfl))))
      Rg.jc))))))))))))))))))))) ?_
    intro v V4 hG4 hv hne
    clear hne
    simp only [Rg.puts, List.take_succ_cons, List.take_zero, List.drop_succ_cons, List.drop_zero, Act.put, List.setIfInBounds_toArray, List.set_cons_zero, List.set_cons_succ]
    obtain ⟨bqm, bpo, boi, bnq, bql, bpn, boh, bnp, e19, f19⟩ := (show ek (Rat.divInt (k) 1) V4 (v 19) from hv 19 (by decide))
    obtain ⟨yz, e20, aah, ajj⟩ := (show Dq V3.heap.size V4 (v 20) from hv 20 (by decide))
    simp only [e19, e20]
    have hO := hG4.1
    replace hO := Own.add (aa HO) hG4.2 aah ajj
    obtain ⟨-, _, _, _, _, _, _, _, _, hz, -⟩ := hO.box (yz) (0) (List.Mem.head _)
    have axe := ag hz 0
    have axo := ah hz 0
    have axd := ag hz 1
    have axn := ah hz 1
    have axc := ag hz 2
    have axm := ah hz 2
    have axb := ag hz 3
    have axl := ah hz 3
    have azh := lt_of_block hz
    clear hz
    go_upto_region 6 with fail
    replace hO := Own.set (xs := []) (ys := [(qg, Rat.divInt c e), (uo, Rat.divInt a b), (w.heap.size + 2, 0), (w.heap.size + 1, 0), (w.heap.size, Rat.divInt N D)]) hO f19
    unfold Da at hO
    generalize (((V4.setCell ⟨yz, 0, none⟩ (.slice bqm boi.length bpo)).setCell ⟨yz, 1, none⟩ (.bool bnq)).setCell ⟨yz, 2, none⟩ (.slice bql boh.length bpn)).setCell ⟨yz, 3, none⟩ (.bool bnp) = U4 at *
    try clear axe axo axd axn axc axm axb axl hG4
    try clear e19 e20 f19 aah ajj azh
    try clear hv
    replace HO := hide hO
    clear hO
    go_upto_region 6 with fail
    refine Rg.uu 3 130 (Rg.pick [ek (Rat.divInt (k) 1), Rg.ji (.int .i64 (gm k)), Rg.ji (.bool (decide (0 < gm k)))]) (cz w [(yz, Rat.divInt (k) 1), (qg, Rat.divInt c e), (uo, Rat.divInt a b), (w.heap.size + 2, 0), (w.heap.size + 1, 0), (w.heap.size, Rat.divInt N D)] U4) oh [] kr rfl (Rg.oq.pick ⟨df _, Rg.fw _, Rg.fw _, trivial⟩) (cz.begin (aa HO))
     (Rg.ax (Rg.plain rfl (gy rfl (Rg.ja kr rfl) (fun W h => cz.box (List.Mem.head _) h) rfl))
      (Rg.ax (Rg.plain rfl (lg Tryz.func116 kr rfl cz.step (Rg.dw 0 kr) (fun W v0 hG h0 => auw W v0 h0)))
      (Rg.ax (Rg.plain rfl (Jl rfl (Rg.dw 1 kr) (Rg.zg _) rfl rfl))
      Rg.jc))) ?_
    intro v V5 Aw hv hne
    clear hne
    simp only [Rg.puts, List.take_succ_cons, List.take_zero, List.drop_succ_cons, List.drop_zero, Act.put, List.setIfInBounds_toArray, List.set_cons_zero, List.set_cons_succ]
    have e2 : v 2 = .bool (decide (0 < gm k)) := hv 2 (by decide)
    simp only [e2]
    have hO := Aw.1
    clear Aw
    try clear e2
    try clear hv
    replace HO := hide hO
    clear hO
    go_upto_if 53 with (fail)
    go_cut [] (fun wx => Own w [(yz, Rat.divInt (k) 1), (qg, Rat.divInt c e), (uo, Rat.divInt (a + k * c) (b + k * e)), (w.heap.size + 2, 0), (w.heap.size + 1, 0), (w.heap.size, Rat.divInt N D)] wx)
    case first =>
     by_cases hp : 0 < k
     ·
      have d1 : decide (0 < gm k) = true := Yw hp
      simp only [d1]
      clear d1
      go_upto_region 7 with fail
      refine Rg.region 15 130 (Rg.pick [ek (Rat.divInt a b), ek (Rat.divInt (a) 1), ek (Rat.divInt (k) 1), ek (Rat.divInt c e), ek (Rat.divInt (c) 1), ek (Rat.divInt (k * c) 1), ek (Rat.divInt (a + k * c) 1), ek (Rat.divInt a b), ek (Rat.divInt (b) 1), ek (Rat.divInt (k) 1), ek (Rat.divInt c e), ek (Rat.divInt (e) 1), ek (Rat.divInt (k * e) 1), ek (Rat.divInt (b + k * e) 1), ek (Rat.divInt (a + k * c) (b + k * e))]) (cz w [(yz, Rat.divInt (k) 1), (qg, Rat.divInt c e), (uo, Rat.divInt a b), (w.heap.size + 2, 0), (w.heap.size + 1, 0), (w.heap.size, Rat.divInt N D)] V5) oh [] kr kr rfl (Rg.oq.pick ⟨df _, df _, df _, df _, df _, df _, df _, df _, df _, df _, df _, df _, df _, df _, df _, trivial⟩) (cz.start (aa HO))
       (Rg.ax (Rg.plain rfl (gy rfl (Rg.ja kr rfl) (fun W h => cz.box (List.Mem.tail _ (List.Mem.tail _ (List.Mem.head _))) h) rfl))
        (Rg.ax (Rg.plain rfl (lg Tryz.func115 kr rfl cz.step (Rg.dw 0 kr) (fun W v0 hG h0 => Pp (aa RF).b0 (aa RF).ga W v0 h0)))
        (Rg.ax (Rg.plain rfl (gy rfl (Rg.ja kr rfl) (fun W h => cz.box (List.Mem.head _) h) rfl))
        (Rg.ax (Rg.plain rfl (gy rfl (Rg.ja kr rfl) (fun W h => cz.box (List.Mem.tail _ (List.Mem.head _)) h) rfl))
        (Rg.ax (Rg.plain rfl (lg Tryz.func115 kr rfl cz.step (Rg.dw 3 kr) (fun W v0 hG h0 => Pp (aa RF).e0 (aa RF).gc W v0 h0)))
        (Rg.ax (Rg.plain rfl (jh Tryz.func45 kr rfl cz.step (Rg.dw 2 kr) (Rg.dw 4 kr) (fun W v0 v1 hG h0 h1 => Zx (aa KF).Bk (aa RF).Bc W v0 v1 h0 h1)))
        (Rg.ax (Rg.plain rfl (jh Tryz.func43 kr rfl cz.step (Rg.dw 1 kr) (Rg.dw 5 kr) (fun W v0 v1 hG h0 h1 => Hq (aa RF).Ba (aa KF).Bkc W v0 v1 h0 h1)))
        (Rg.ax (Rg.plain rfl (gy rfl (Rg.ja kr rfl) (fun W h => cz.box (List.Mem.tail _ (List.Mem.tail _ (List.Mem.head _))) h) rfl))
        (Rg.ax (Rg.plain rfl (lg Tryz.func65 kr rfl cz.step (Rg.dw 7 kr) (fun W v0 hG h0 => Cg (aa RF).b0 (aa RF).ga W v0 h0)))
        (Rg.ax (Rg.plain rfl (gy rfl (Rg.ja kr rfl) (fun W h => cz.box (List.Mem.head _) h) rfl))
        (Rg.ax (Rg.plain rfl (gy rfl (Rg.ja kr rfl) (fun W h => cz.box (List.Mem.tail _ (List.Mem.head _)) h) rfl))
        (Rg.ax (Rg.plain rfl (lg Tryz.func65 kr rfl cz.step (Rg.dw 10 kr) (fun W v0 hG h0 => Cg (aa RF).e0 (aa RF).gc W v0 h0)))
        (Rg.ax (Rg.plain rfl (jh Tryz.func45 kr rfl cz.step (Rg.dw 9 kr) (Rg.dw 11 kr) (fun W v0 v1 hG h0 h1 => Zx (aa KF).Bk (aa RF).Be W v0 v1 h0 h1)))
        (Rg.ax (Rg.plain rfl (jh Tryz.func43 kr rfl cz.step (Rg.dw 8 kr) (Rg.dw 12 kr) (fun W v0 v1 hG h0 h1 => Hq (aa RF).Bb (aa KF).Bke W v0 v1 h0 h1)))
        (Rg.ax (Rg.plain rfl (jh Tryz.func47 kr rfl cz.step (Rg.dw 6 kr) (Rg.dw 13 kr) (fun W v0 v1 hG h0 h1 => Oe (aa KF).Ba (aa KF).Bb (by have := (aa KF).b0; omega) W v0 v1 h0 h1)))
        Rg.jc))))))))))))))) ?_
      intro v V6 Dh hv hne
      clear hne
      simp only [Rg.puts, List.take_succ_cons, List.take_zero, List.drop_succ_cons, List.drop_zero, Act.put, List.setIfInBounds_toArray, List.set_cons_zero, List.set_cons_succ]
      obtain ⟨bqg, bpi, boc, bnk, bqf, bph, bob, bnj, e14, f14⟩ := (show ek (Rat.divInt (a + k * c) (b + k * e)) V6 (v 14) from hv 14 (by decide))
      simp only [e14]
      have hO := Dh.1
      obtain ⟨-, _, _, _, _, _, _, _, _, hz, -⟩ := hO.box (uo) (Rat.divInt a b) (List.Mem.tail _ (List.Mem.tail _ (List.Mem.head _)))
      have abu := ag hz 0
      have acx := ah hz 0
      have abt := ag hz 1
      have acu := ah hz 1
      have abr := ag hz 2
      have acs := ah hz 2
      have abq := ag hz 3
      have acr := ah hz 3
      have adk := lt_of_block hz
      clear hz
      go_wp2_with fail
      replace hO := Own.set (xs := [(yz, Rat.divInt (k) 1), (qg, Rat.divInt c e)]) (ys := [(w.heap.size + 2, 0), (w.heap.size + 1, 0), (w.heap.size, Rat.divInt N D)]) hO f14
      unfold Da at hO
      generalize (((V6.setCell ⟨uo, 0, none⟩ (.slice bqg boc.length bpi)).setCell ⟨uo, 1, none⟩ (.bool bnk)).setCell ⟨uo, 2, none⟩ (.slice bqf bob.length bph)).setCell ⟨uo, 3, none⟩ (.bool bnj) = U6 at *
      try clear abu acx abt acu abr acs abq acr Dh
      try clear e14 f14 adk
      try clear hv
      replace HO := hide hO
      clear hO
      go_meet
      exact aa HO
     ·
      have d1 : decide (0 < gm k) = false := Nq hp
      simp only [d1]
      clear d1
      go_wp2_with fail
      go_meet
      have hk0 : k = 0 := by have := (aa KF).k0; omega
      have h := aa HO
      rwa [show Rat.divInt a b = Rat.divInt (a + k * c) (b + k * e) by rw [hk0, Int.zero_mul, Int.zero_mul, Int.add_zero, Int.add_zero]] at h
    case rest =>
     revert hcut
     generalize wc = C7
     intro hcut
     clear HO
     have HO := hide hcut
     clear hcut
     obtain ⟨a1, ha1⟩ : ∃ z, z = a + k * c := ⟨_, rfl⟩
     obtain ⟨b1, hb1⟩ : ∃ z, z = b + k * e := ⟨_, rfl⟩
     have KG := aa KF
     have hgb := KG.gb
     have K1 := KG.Ba; have K2 := KG.Bb; have K3 := KG.b0; have K4 := KG.bm; have K5 := KG.ga; have K6 := KG.st; have K7 := KG.en
     rw [← hb1] at hgb K2 K3 K4 K5 K6 K7
     rw [← ha1] at K1 K5 K6 K7
     replace HO := hide (by have h := aa HO; rwa [← ha1, ← hb1] at h)
     have H2 := hide K2; have H1 := hide K1; have H3 := hide K3; have H5 := hide K5; have H6 := hide K6; have H7 := hide K7
     clear K1 K2 K3 K5 K6 K7 KG
     by_cases h0 : N * b1 - a1 * D = 0
     ·
      have d1 : (gm (a1 * D - N * b1) == 0) = true := Qz om
      go_upto_region 8 with fail
      refine Rg.uu 4 130 (Rg.pick [ek (Rat.divInt a1 b1), ek (Rat.divInt N D), Rg.ji (.int .i64 (gm (a1 * D - N * b1))), Rg.ji (.bool (true))]) (cz w [(yz, Rat.divInt (k) 1), (qg, Rat.divInt c e), (uo, Rat.divInt a1 b1), (w.heap.size + 2, 0), (w.heap.size + 1, 0), (w.heap.size, Rat.divInt N D)] C7) oh [] kr rfl (Rg.oq.pick ⟨df _, df _, Rg.fw _, Rg.fw _, trivial⟩) (cz.begin (aa HO))
       (Rg.ax (Rg.plain rfl (gy rfl (Rg.ja kr rfl) (fun W h => cz.box (List.Mem.tail _ (List.Mem.tail _ (List.Mem.head _))) h) rfl))
        (Rg.ax (Rg.plain rfl (gy rfl (Rg.ja kr rfl) (fun W h => cz.box (List.Mem.tail _ (List.Mem.tail _ (List.Mem.tail _ (List.Mem.tail _ (List.Mem.tail _ (List.Mem.head _)))))) h) rfl))
        (Rg.ax (Rg.plain rfl (jh Tryz.func64 kr rfl cz.step (Rg.dw 0 kr) (Rg.dw 1 kr) (fun W v0 v1 hG h0 h1 => (Rm (aa H1) (aa H2) (aa RF).BN (aa RF).BD (aa H3) (aa RF).D0 (aa H5) (aa RF).gx) W v0 v1 h0 h1)))
        (Rg.ax (Rg.plain rfl (Ls rfl (Rg.dw 2 kr) (Rg.zg _) rfl d1))
        Rg.jc)))) ?_
      intro v V8 hG8 hv hne
      clear hne
      simp only [Rg.puts, List.take_succ_cons, List.take_zero, List.drop_succ_cons, List.drop_zero, Act.put, List.setIfInBounds_toArray, List.set_cons_zero, List.set_cons_succ]
      have e3 : v 3 = .bool (true) := hv 3 (by decide)
      simp only [e3]
      have hO := hG8.1
      clear hG8
      try clear e3
      try clear hv
      replace HO := hide hO
      clear hO
      clear d1
      go_upto_region 9 with fail
      have hO : Own w [(w.heap.size + 1, 0), (w.heap.size + 2, 0), (yz, Rat.divInt (k) 1), (qg, Rat.divInt c e), (uo, Rat.divInt a1 b1), (w.heap.size, Rat.divInt N D)] V8 := (Own.front (xs := [(w.heap.size + 2, 0), (yz, Rat.divInt (k) 1), (qg, Rat.divInt c e), (uo, Rat.divInt a1 b1)]) (ys := [(w.heap.size, Rat.divInt N D)]) (Own.front (xs := [(yz, Rat.divInt (k) 1), (qg, Rat.divInt c e), (uo, Rat.divInt a1 b1)]) (ys := [(w.heap.size + 1, 0), (w.heap.size, Rat.divInt N D)]) (aa HO)))
      refine Rg.region 4 130 (Rg.pick [ek (Rat.divInt a1 b1), ek (Rat.divInt a1 b1), fun W _ => vo W (w.heap.size + 1) (Rat.divInt a1 b1), fun W _ => vo W (w.heap.size + 2) (Rat.divInt a1 b1)]) (Gy w [(yz, Rat.divInt (k) 1), (qg, Rat.divInt c e), (uo, Rat.divInt a1 b1), (w.heap.size, Rat.divInt N D)] (w.heap.size + 1) (w.heap.size + 2)) (Tz (w.heap.size + 1) (w.heap.size + 2) (Rat.divInt a1 b1) (Rat.divInt a1 b1)) [] kr kr rfl (Rg.oq.pick ⟨Dj _, Dj _, Kj, Ki, trivial⟩) ⟨0, 0, Own.step _ _ hO (oh.drew _)⟩
       (Rg.ax (Ch (Rg.ja kr rfl) (List.Mem.tail _ (List.Mem.tail _ (List.Mem.head _))) rfl)
        (Rg.ax (Ch (Rg.ja kr rfl) (List.Mem.tail _ (List.Mem.tail _ (List.Mem.head _))) rfl)
        (Rg.ax (Nz (Rg.ja kr rfl) (Rg.dw 0 kr) rfl)
        (Rg.ax (Ny (Rg.ja kr rfl) (Rg.dw 1 kr) rfl)
        Rg.jc)))) ?_
      clear hO HO
      intro v V9 hG hv hne
      clear hne
      simp only [Rg.puts, List.take_succ_cons, List.take_zero, List.drop_succ_cons, List.drop_zero, Act.put, List.setIfInBounds_toArray, List.set_cons_zero, List.set_cons_succ]
      have HO := hide (Gy.fin hG (hv 2 (by decide)) (hv 3 (by decide)))
      clear hG hv
      go_wp2_with fail
      obtain ⟨-, nk, mq, mf, mh, ni, mo, ma, mg, dh, mi⟩ := (aa HO).box _ _ (List.Mem.head _)
      have iw := ag dh 0
      have iq := ag dh 1
      have il := ag dh 2
      have ik := ag dh 3
      have iy := lt_of_block dh
      clear dh
      obtain ⟨-, zb, yx, ym, yo, za, yw, yh, yn, jb, yu⟩ := (aa HO).box _ _ (List.Mem.tail _ (List.Mem.head _))
      have xq := ag jb 0
      have xn := ag jb 1
      have xm := ag jb 2
      have xk := ag jb 3
      have xw := lt_of_block jb
      clear jb
      exact bodyPost_ret (v := .tuple #[.agg #[.slice nk mf.length mq, .bool mh, .slice ni ma.length mo, .bool mg], .agg #[.slice zb ym.length yx, .bool yo, .slice za yh.length yw, .bool yn]]) (by simp [results, Tryz.results63, go_sem, iw, iq, il, ik, xq, xn, xm, xk, iy, xw]) rfl
       ⟨_, rfl, (aa HO).bel, ⟨a1, b1, a1, b1, .inl ⟨by have := (aa H7) h0; omega, ((aa H7) h0).1, ((aa H7) h0).2, ((aa H7) h0).1, ((aa H7) h0).2⟩, ⟨_, _, rfl, ⟨_, _, _, _, _, _, _, _, rfl, mi⟩, ⟨_, _, _, _, _, _, _, _, rfl, yu⟩⟩⟩⟩
     ·
      have d1 : (gm (a1 * D - N * b1) == 0) = false := Qy om
      go_upto_region 8 with fail
      refine Rg.uu 4 130 (Rg.pick [ek (Rat.divInt a1 b1), ek (Rat.divInt N D), Rg.ji (.int .i64 (gm (a1 * D - N * b1))), Rg.ji (.bool (false))]) (cz w [(yz, Rat.divInt (k) 1), (qg, Rat.divInt c e), (uo, Rat.divInt a1 b1), (w.heap.size + 2, 0), (w.heap.size + 1, 0), (w.heap.size, Rat.divInt N D)] C7) oh [] kr rfl (Rg.oq.pick ⟨df _, df _, Rg.fw _, Rg.fw _, trivial⟩) (cz.begin (aa HO))
       (Rg.ax (Rg.plain rfl (gy rfl (Rg.ja kr rfl) (fun W h => cz.box (List.Mem.tail _ (List.Mem.tail _ (List.Mem.head _))) h) rfl))
        (Rg.ax (Rg.plain rfl (gy rfl (Rg.ja kr rfl) (fun W h => cz.box (List.Mem.tail _ (List.Mem.tail _ (List.Mem.tail _ (List.Mem.tail _ (List.Mem.tail _ (List.Mem.head _)))))) h) rfl))
        (Rg.ax (Rg.plain rfl (jh Tryz.func64 kr rfl cz.step (Rg.dw 0 kr) (Rg.dw 1 kr) (fun W v0 v1 hG h0 h1 => (Rm (aa H1) (aa H2) (aa RF).BN (aa RF).BD (aa H3) (aa RF).D0 (aa H5) (aa RF).gx) W v0 v1 h0 h1)))
        (Rg.ax (Rg.plain rfl (Ls rfl (Rg.dw 2 kr) (Rg.zg _) rfl d1))
        Rg.jc)))) ?_
      intro v V8 hG8 hv hne
      clear hne
      simp only [Rg.puts, List.take_succ_cons, List.take_zero, List.drop_succ_cons, List.drop_zero, Act.put, List.setIfInBounds_toArray, List.set_cons_zero, List.set_cons_succ]
      have e3 : v 3 = .bool (false) := hv 3 (by decide)
      simp only [e3]
      have hO := hG8.1
      clear hG8
      try clear e3
      try clear hv
      replace HO := hide hO
      clear hO
      clear d1
      have hS1 := (aa H6) h0
      have RG := hide (hS1.rd (aa Pb) hm2)
      have pz := hide hS1
      clear hS1
      by_cases hs2 : m < b1 + e
      ·
       have d1 : decide (0 < gm (b1 + e - m)) = true := Yw om
       go_upto_region 10 with fail
       refine Rg.region 9 130 (Rg.pick [ek (Rat.divInt a1 b1), ek (Rat.divInt (b1) 1), ek (Rat.divInt c e), ek (Rat.divInt (e) 1), ek (Rat.divInt (b1 + e) 1), Rg.ji (.int .i64 m), ek (Rat.divInt (m) 1), Rg.ji (.int .i64 (gm (b1 + e - m))), Rg.ji (.bool (true))]) (cz w [(yz, Rat.divInt (k) 1), (qg, Rat.divInt c e), (uo, Rat.divInt a1 b1), (w.heap.size + 2, 0), (w.heap.size + 1, 0), (w.heap.size, Rat.divInt N D)] V8) oh [] kr kr rfl (Rg.oq.pick ⟨df _, df _, df _, df _, df _, Rg.fw _, df _, Rg.fw _, Rg.fw _, trivial⟩) (cz.start (aa HO))
        (Rg.ax (Rg.plain rfl (gy rfl (Rg.ja kr rfl) (fun W h => cz.box (List.Mem.tail _ (List.Mem.tail _ (List.Mem.head _))) h) rfl))
         (Rg.ax (Rg.plain rfl (lg Tryz.func65 kr rfl cz.step (Rg.dw 0 kr) (fun W v0 hG h0 => Cg (aa RG).b0 (aa RG).ga W v0 h0)))
         (Rg.ax (Rg.plain rfl (gy rfl (Rg.ja kr rfl) (fun W h => cz.box (List.Mem.tail _ (List.Mem.head _)) h) rfl))
         (Rg.ax (Rg.plain rfl (lg Tryz.func65 kr rfl cz.step (Rg.dw 2 kr) (fun W v0 hG h0 => Cg (aa RG).e0 (aa RG).gc W v0 h0)))
         (Rg.ax (Rg.plain rfl (jh Tryz.func43 kr rfl cz.step (Rg.dw 1 kr) (Rg.dw 3 kr) (fun W v0 v1 hG h0 h1 => Hq (aa RG).Bb (aa RG).Be W v0 v1 h0 h1)))
         (Rg.ax (Rg.plain rfl (xe rfl (Rg.ja kr rfl)))
         (Rg.ax (Rg.plain rfl (lg Tryz.func72 kr rfl cz.step (Rg.dw 5 kr) (fun W v0 hG h0 => by cases h0; exact Il m om om W)))
         (Rg.ax (Rg.plain rfl (jh Tryz.func64 kr rfl cz.step (Rg.dw 4 kr) (Rg.dw 6 kr) (fun W v0 v1 hG h0 h1 => Og (aa RG).Bs (aa RG).Bm W v0 v1 h0 h1)))
         (Rg.ax (Rg.plain rfl (Jl rfl (Rg.dw 7 kr) (Rg.zg _) rfl d1))
         Rg.jc))))))))) ?_
       intro v V9 hG9 hv hne
       clear hne
       simp only [Rg.puts, List.take_succ_cons, List.take_zero, List.drop_succ_cons, List.drop_zero, Act.put, List.setIfInBounds_toArray, List.set_cons_zero, List.set_cons_succ]
       have e8 : v 8 = .bool (true) := hv 8 (by decide)
       simp only [e8]
       have hO := hG9.1
       clear hG9
       try clear e8
       try clear hv
       replace HO := hide hO
       clear hO
       clear d1
       go_upto_region 16 with fail
       have hO : Own w [(w.heap.size + 1, 0), (w.heap.size + 2, 0), (yz, Rat.divInt (k) 1), (qg, Rat.divInt c e), (uo, Rat.divInt a1 b1), (w.heap.size, Rat.divInt N D)] V9 := (Own.front (xs := [(w.heap.size + 2, 0), (yz, Rat.divInt (k) 1), (qg, Rat.divInt c e), (uo, Rat.divInt a1 b1)]) (ys := [(w.heap.size, Rat.divInt N D)]) (Own.front (xs := [(yz, Rat.divInt (k) 1), (qg, Rat.divInt c e), (uo, Rat.divInt a1 b1)]) (ys := [(w.heap.size + 1, 0), (w.heap.size, Rat.divInt N D)]) (aa HO)))
       refine Rg.region 4 130 (Rg.pick [ek (Rat.divInt a1 b1), ek (Rat.divInt c e), fun W _ => vo W (w.heap.size + 1) (Rat.divInt a1 b1), fun W _ => vo W (w.heap.size + 2) (Rat.divInt c e)]) (Gy w [(yz, Rat.divInt (k) 1), (qg, Rat.divInt c e), (uo, Rat.divInt a1 b1), (w.heap.size, Rat.divInt N D)] (w.heap.size + 1) (w.heap.size + 2)) (Tz (w.heap.size + 1) (w.heap.size + 2) (Rat.divInt a1 b1) (Rat.divInt c e)) [] kr kr rfl (Rg.oq.pick ⟨Dj _, Dj _, Kj, Ki, trivial⟩) ⟨0, 0, Own.step _ _ hO (oh.drew _)⟩
        (Rg.ax (Ch (Rg.ja kr rfl) (List.Mem.tail _ (List.Mem.tail _ (List.Mem.head _))) rfl)
         (Rg.ax (Ch (Rg.ja kr rfl) (List.Mem.tail _ (List.Mem.head _)) rfl)
         (Rg.ax (Nz (Rg.ja kr rfl) (Rg.dw 0 kr) rfl)
         (Rg.ax (Ny (Rg.ja kr rfl) (Rg.dw 1 kr) rfl)
         Rg.jc)))) ?_
       clear hO HO
       intro v V10 hG hv hne
       clear hne
       simp only [Rg.puts, List.take_succ_cons, List.take_zero, List.drop_succ_cons, List.drop_zero, Act.put, List.setIfInBounds_toArray, List.set_cons_zero, List.set_cons_succ]
       have HO := hide (Gy.fin hG (hv 2 (by decide)) (hv 3 (by decide)))
       clear hG hv
       go_wp2_with fail
       obtain ⟨-, nk, mq, mf, mh, ni, mo, ma, mg, dh, mi⟩ := (aa HO).box _ _ (List.Mem.head _)
       have iw := ag dh 0
       have iq := ag dh 1
       have il := ag dh 2
       have ik := ag dh 3
       have iy := lt_of_block dh
       clear dh
       obtain ⟨-, zb, yx, ym, yo, za, yw, yh, yn, jb, yu⟩ := (aa HO).box _ _ (List.Mem.tail _ (List.Mem.head _))
       have xq := ag jb 0
       have xn := ag jb 1
       have xm := ag jb 2
       have xk := ag jb 3
       have xw := lt_of_block jb
       clear jb
       exact bodyPost_ret (v := .tuple #[.agg #[.slice nk mf.length mq, .bool mh, .slice ni ma.length mo, .bool mg], .agg #[.slice zb ym.length yx, .bool yo, .slice za yh.length yw, .bool yn]]) (by simp [results, Tryz.results63, go_sem, iw, iq, il, ik, xq, xn, xm, xk, iy, xw]) rfl
        ⟨_, rfl, (aa HO).bel, ⟨a1, b1, c, e, .inr ((aa pz).sides om), ⟨_, _, rfl, ⟨_, _, _, _, _, _, _, _, rfl, mi⟩, ⟨_, _, _, _, _, _, _, _, rfl, yu⟩⟩⟩⟩
      ·
       have d1 : decide (0 < gm (b1 + e - m)) = false := Nq om
       go_upto_region 10 with fail
       refine Rg.region 9 130 (Rg.pick [ek (Rat.divInt a1 b1), ek (Rat.divInt (b1) 1), ek (Rat.divInt c e), ek (Rat.divInt (e) 1), ek (Rat.divInt (b1 + e) 1), Rg.ji (.int .i64 m), ek (Rat.divInt (m) 1), Rg.ji (.int .i64 (gm (b1 + e - m))), Rg.ji (.bool (false))]) (cz w [(yz, Rat.divInt (k) 1), (qg, Rat.divInt c e), (uo, Rat.divInt a1 b1), (w.heap.size + 2, 0), (w.heap.size + 1, 0), (w.heap.size, Rat.divInt N D)] V8) oh [] kr kr rfl (Rg.oq.pick ⟨df _, df _, df _, df _, df _, Rg.fw _, df _, Rg.fw _, Rg.fw _, trivial⟩) (cz.start (aa HO))
        (Rg.ax (Rg.plain rfl (gy rfl (Rg.ja kr rfl) (fun W h => cz.box (List.Mem.tail _ (List.Mem.tail _ (List.Mem.head _))) h) rfl))
         (Rg.ax (Rg.plain rfl (lg Tryz.func65 kr rfl cz.step (Rg.dw 0 kr) (fun W v0 hG h0 => Cg (aa RG).b0 (aa RG).ga W v0 h0)))
         (Rg.ax (Rg.plain rfl (gy rfl (Rg.ja kr rfl) (fun W h => cz.box (List.Mem.tail _ (List.Mem.head _)) h) rfl))
         (Rg.ax (Rg.plain rfl (lg Tryz.func65 kr rfl cz.step (Rg.dw 2 kr) (fun W v0 hG h0 => Cg (aa RG).e0 (aa RG).gc W v0 h0)))
         (Rg.ax (Rg.plain rfl (jh Tryz.func43 kr rfl cz.step (Rg.dw 1 kr) (Rg.dw 3 kr) (fun W v0 v1 hG h0 h1 => Hq (aa RG).Bb (aa RG).Be W v0 v1 h0 h1)))
         (Rg.ax (Rg.plain rfl (xe rfl (Rg.ja kr rfl)))
         (Rg.ax (Rg.plain rfl (lg Tryz.func72 kr rfl cz.step (Rg.dw 5 kr) (fun W v0 hG h0 => by cases h0; exact Il m om om W)))
         (Rg.ax (Rg.plain rfl (jh Tryz.func64 kr rfl cz.step (Rg.dw 4 kr) (Rg.dw 6 kr) (fun W v0 v1 hG h0 h1 => Og (aa RG).Bs (aa RG).Bm W v0 v1 h0 h1)))
         (Rg.ax (Rg.plain rfl (Jl rfl (Rg.dw 7 kr) (Rg.zg _) rfl d1))
         Rg.jc))))))))) ?_
       intro v V9 hG9 hv hne
       clear hne
       simp only [Rg.puts, List.take_succ_cons, List.take_zero, List.drop_succ_cons, List.drop_zero, Act.put, List.setIfInBounds_toArray, List.set_cons_zero, List.set_cons_succ]
       have e8 : v 8 = .bool (false) := hv 8 (by decide)
       simp only [e8]
       have hO := hG9.1
       clear hG9
       try clear e8
       try clear hv
       replace HO := hide hO
       clear hO
       clear d1
       obtain ⟨j, hj⟩ : ∃ k, k = Wd.Hy (c * D - N * e) (N * b1 - a1 * D) m e b1 := ⟨_, rfl⟩
       have JF := hide ((aa pz).rj (aa Pb) hm2 hj)
       go_upto_region 11 with fail
       refine Rg.region 21 130 (Rg.pick [ek (Rat.divInt c e), ek (Rat.divInt (c) 1), ek (Rat.divInt N D), ek (Rat.divInt c e), ek (Rat.divInt (e) 1), ek (Rat.divInt (N * e) D), ek (Rat.divInt (c * D - N * e) D), ek (Rat.divInt N D), ek (Rat.divInt a1 b1), ek (Rat.divInt (b1) 1), ek (Rat.divInt (N * b1) D), ek (Rat.divInt a1 b1), ek (Rat.divInt (a1) 1), ek (Rat.divInt (N * b1 - a1 * D) D), ek (Rat.divInt c e), ek (Rat.divInt (e) 1), ek (Rat.divInt a1 b1), ek (Rat.divInt (b1) 1), Rg.ji (.int .i64 m), ek (Rat.divInt (j) 1), Dq V9.heap.size]) (cz w [(yz, Rat.divInt (k) 1), (qg, Rat.divInt c e), (uo, Rat.divInt a1 b1), (w.heap.size + 2, 0), (w.heap.size + 1, 0), (w.heap.size, Rat.divInt N D)] V9) oh [20] kr kr rfl (Rg.oq.pick ⟨df _, df _, df _, df _, df _, df _, df _, df _, df _, df _, df _, df _, df _, df _, df _, df _, df _, df _, Rg.fw _, df _, Dn _, trivial⟩) (cz.start (aa HO))
        (Rg.ax (Rg.plain rfl (gy rfl (Rg.ja kr rfl) (fun W h => cz.box (List.Mem.tail _ (List.Mem.head _)) h) rfl))
         (Rg.ax (Rg.plain rfl (lg Tryz.func115 kr rfl cz.step (Rg.dw 0 kr) (fun W v0 hG h0 => Pp (aa RG).e0 (aa RG).gc W v0 h0)))
         (Rg.ax (Rg.plain rfl (gy rfl (Rg.ja kr rfl) (fun W h => cz.box (List.Mem.tail _ (List.Mem.tail _ (List.Mem.tail _ (List.Mem.tail _ (List.Mem.tail _ (List.Mem.head _)))))) h) rfl))
         (Rg.ax (Rg.plain rfl (gy rfl (Rg.ja kr rfl) (fun W h => cz.box (List.Mem.tail _ (List.Mem.head _)) h) rfl))
         (Rg.ax (Rg.plain rfl (lg Tryz.func65 kr rfl cz.step (Rg.dw 3 kr) (fun W v0 hG h0 => Cg (aa RG).e0 (aa RG).gc W v0 h0)))
         (Rg.ax (Rg.plain rfl (jh Tryz.func45 kr rfl cz.step (Rg.dw 2 kr) (Rg.dw 4 kr) (fun W v0 v1 hG h0 h1 => Ui (aa RG).BN (aa RG).BD (by have := (aa RG).D0; omega) (aa RG).Be W v0 v1 h0 h1)))
         (Rg.ax (Rg.plain rfl (jh Tryz.func44 kr rfl cz.step (Rg.dw 1 kr) (Rg.dw 5 kr) (fun W v0 v1 hG h0 h1 => amv (aa RG).BNe (aa RG).BD (by have := (aa RG).D0; omega) (aa RG).Bc W v0 v1 h0 h1)))
         (Rg.ax (Rg.plain rfl (gy rfl (Rg.ja kr rfl) (fun W h => cz.box (List.Mem.tail _ (List.Mem.tail _ (List.Mem.tail _ (List.Mem.tail _ (List.Mem.tail _ (List.Mem.head _)))))) h) rfl))
         (Rg.ax (Rg.plain rfl (gy rfl (Rg.ja kr rfl) (fun W h => cz.box (List.Mem.tail _ (List.Mem.tail _ (List.Mem.head _))) h) rfl))
         (Rg.ax (Rg.plain rfl (lg Tryz.func65 kr rfl cz.step (Rg.dw 8 kr) (fun W v0 hG h0 => Cg (aa RG).b0 (aa RG).ga W v0 h0)))
         (Rg.ax (Rg.plain rfl (jh Tryz.func45 kr rfl cz.step (Rg.dw 7 kr) (Rg.dw 9 kr) (fun W v0 v1 hG h0 h1 => Ui (aa RG).BN (aa RG).BD (by have := (aa RG).D0; omega) (aa RG).Bb W v0 v1 h0 h1)))
         (Rg.ax (Rg.plain rfl (gy rfl (Rg.ja kr rfl) (fun W h => cz.box (List.Mem.tail _ (List.Mem.tail _ (List.Mem.head _))) h) rfl))
         (Rg.ax (Rg.plain rfl (lg Tryz.func115 kr rfl cz.step (Rg.dw 11 kr) (fun W v0 hG h0 => Pp (aa RG).b0 (aa RG).ga W v0 h0)))
         (Rg.ax (Rg.plain rfl (jh Tryz.func44 kr rfl cz.step (Rg.dw 10 kr) (Rg.dw 12 kr) (fun W v0 v1 hG h0 h1 => ajg (aa RG).BNb (aa RG).BD (by have := (aa RG).D0; omega) (aa RG).Ba W v0 v1 h0 h1)))
         (Rg.ax (Rg.plain rfl (gy rfl (Rg.ja kr rfl) (fun W h => cz.box (List.Mem.tail _ (List.Mem.head _)) h) rfl))
         (Rg.ax (Rg.plain rfl (lg Tryz.func65 kr rfl cz.step (Rg.dw 14 kr) (fun W v0 hG h0 => Cg (aa RG).e0 (aa RG).gc W v0 h0)))
         (Rg.ax (Rg.plain rfl (gy rfl (Rg.ja kr rfl) (fun W h => cz.box (List.Mem.tail _ (List.Mem.tail _ (List.Mem.head _))) h) rfl))
         (Rg.ax (Rg.plain rfl (lg Tryz.func65 kr rfl cz.step (Rg.dw 16 kr) (fun W v0 hG h0 => Cg (aa RG).b0 (aa RG).ga W v0 h0)))
         (Rg.ax (Rg.plain rfl (xe rfl (Rg.ja kr rfl)))
         (Rg.ax (Rg.plain rfl (ami Tryz.func114 kr rfl cz.step (Rg.dw 6 kr) (Rg.dw 13 kr) (Rg.dw 15 kr) (Rg.dw 17 kr) (Rg.dw 18 kr) (fun W v0 v1 v2 v3 v4 hG h0 h1 h2 h3 h4 => by cases h4; rw [hj]; exact aff (aa pz).hi (aa pz).lo (aa RG).D0 (aa RG).BH (aa RG).BL (aa RG).BD (aa pz).em (aa pz).e1 (aa pz).b1 (aa pz).bm hm2 W v0 v1 v2 v3 h0 h1 h2 h3)))
         (Rg.ax (Rg.plain rfl (Ho cz.step cz.size rfl (Fy (by intro j hj; simp at hj; (repeat' (first | (rcases hj with rfl | hj))) <;> first | (subst hj; rfl) | rfl))))
         Rg.jc))))))))))))))))))))) ?_
       intro v V10 bav hv hne
       clear hne
       simp only [Rg.puts, List.take_succ_cons, List.take_zero, List.drop_succ_cons, List.drop_zero, Act.put, List.setIfInBounds_toArray, List.set_cons_zero, List.set_cons_succ]
       obtain ⟨bmz, blo, bjc, biw, bmy, bln, bjb, biv, e19, f19⟩ := (show ek (Rat.divInt (j) 1) V10 (v 19) from hv 19 (by decide))
       obtain ⟨Ep, e20, aah, ajj⟩ := (show Dq V9.heap.size V10 (v 20) from hv 20 (by decide))
       simp only [e19, e20]
       have hO := bav.1
       replace hO := Own.add (aa HO) bav.2 aah ajj
       obtain ⟨-, _, _, _, _, _, _, _, _, hz, -⟩ := hO.box (Ep) (0) (List.Mem.head _)
       have arp := ag hz 0
       have asa := ah hz 0
       have aro := ag hz 1
       have arz := ah hz 1
       have arn := ag hz 2
       have ary := ah hz 2
       have arl := ag hz 3
       have arx := ah hz 3
       have auo := lt_of_block hz
       clear hz
       go_upto_region 12 with fail
       replace hO := Own.set (xs := []) (ys := [(yz, Rat.divInt (k) 1), (qg, Rat.divInt c e), (uo, Rat.divInt a1 b1), (w.heap.size + 2, 0), (w.heap.size + 1, 0), (w.heap.size, Rat.divInt N D)]) hO f19
       unfold Da at hO
       generalize (((V10.setCell ⟨Ep, 0, none⟩ (.slice bmz bjc.length blo)).setCell ⟨Ep, 1, none⟩ (.bool biw)).setCell ⟨Ep, 2, none⟩ (.slice bmy bjb.length bln)).setCell ⟨Ep, 3, none⟩ (.bool biv) = U10 at *
       try clear arp asa aro arz arn ary arl arx bav
       try clear e19 e20 f19 aah ajj auo
       try clear hv
       replace HO := hide hO
       clear hO
       go_upto_region 12 with fail
       refine Rg.uu 3 130 (Rg.pick [ek (Rat.divInt (j) 1), Rg.ji (.int .i64 (gm j)), Rg.ji (.bool (decide (0 < gm j)))]) (cz w [(Ep, Rat.divInt (j) 1), (yz, Rat.divInt (k) 1), (qg, Rat.divInt c e), (uo, Rat.divInt a1 b1), (w.heap.size + 2, 0), (w.heap.size + 1, 0), (w.heap.size, Rat.divInt N D)] U10) oh [] kr rfl (Rg.oq.pick ⟨df _, Rg.fw _, Rg.fw _, trivial⟩) (cz.begin (aa HO))
        (Rg.ax (Rg.plain rfl (gy rfl (Rg.ja kr rfl) (fun W h => cz.box (List.Mem.head _) h) rfl))
         (Rg.ax (Rg.plain rfl (lg Tryz.func116 kr rfl cz.step (Rg.dw 0 kr) (fun W v0 hG h0 => auw W v0 h0)))
         (Rg.ax (Rg.plain rfl (Jl rfl (Rg.dw 1 kr) (Rg.zg _) rfl rfl))
         Rg.jc))) ?_
       intro v V11 blc hv hne
       clear hne
       simp only [Rg.puts, List.take_succ_cons, List.take_zero, List.drop_succ_cons, List.drop_zero, Act.put, List.setIfInBounds_toArray, List.set_cons_zero, List.set_cons_succ]
       have e2 : v 2 = .bool (decide (0 < gm j)) := hv 2 (by decide)
       simp only [e2]
       have hO := blc.1
       clear blc
       try clear e2
       try clear hv
       replace HO := hide hO
       clear hO
       go_upto_if 106 with (fail)
       go_cut [] (fun wx => Own w [(Ep, Rat.divInt (j) 1), (yz, Rat.divInt (k) 1), (qg, Rat.divInt (c + j * a1) (e + j * b1)), (uo, Rat.divInt a1 b1), (w.heap.size + 2, 0), (w.heap.size + 1, 0), (w.heap.size, Rat.divInt N D)] wx)
       case first =>
        by_cases hq : 0 < j
        ·
         have d1 : decide (0 < gm j) = true := Yw hq
         simp only [d1]
         clear d1
         go_upto_region 13 with fail
         refine Rg.region 15 130 (Rg.pick [ek (Rat.divInt c e), ek (Rat.divInt (c) 1), ek (Rat.divInt (j) 1), ek (Rat.divInt a1 b1), ek (Rat.divInt (a1) 1), ek (Rat.divInt (j * a1) 1), ek (Rat.divInt (c + j * a1) 1), ek (Rat.divInt c e), ek (Rat.divInt (e) 1), ek (Rat.divInt (j) 1), ek (Rat.divInt a1 b1), ek (Rat.divInt (b1) 1), ek (Rat.divInt (j * b1) 1), ek (Rat.divInt (e + j * b1) 1), ek (Rat.divInt (c + j * a1) (e + j * b1))]) (cz w [(Ep, Rat.divInt (j) 1), (yz, Rat.divInt (k) 1), (qg, Rat.divInt c e), (uo, Rat.divInt a1 b1), (w.heap.size + 2, 0), (w.heap.size + 1, 0), (w.heap.size, Rat.divInt N D)] V11) oh [] kr kr rfl (Rg.oq.pick ⟨df _, df _, df _, df _, df _, df _, df _, df _, df _, df _, df _, df _, df _, df _, df _, trivial⟩) (cz.start (aa HO))
          (Rg.ax (Rg.plain rfl (gy rfl (Rg.ja kr rfl) (fun W h => cz.box (List.Mem.tail _ (List.Mem.tail _ (List.Mem.head _))) h) rfl))
           (Rg.ax (Rg.plain rfl (lg Tryz.func115 kr rfl cz.step (Rg.dw 0 kr) (fun W v0 hG h0 => Pp (aa RG).e0 (aa RG).gc W v0 h0)))
           (Rg.ax (Rg.plain rfl (gy rfl (Rg.ja kr rfl) (fun W h => cz.box (List.Mem.head _) h) rfl))
           (Rg.ax (Rg.plain rfl (gy rfl (Rg.ja kr rfl) (fun W h => cz.box (List.Mem.tail _ (List.Mem.tail _ (List.Mem.tail _ (List.Mem.head _)))) h) rfl))
           (Rg.ax (Rg.plain rfl (lg Tryz.func115 kr rfl cz.step (Rg.dw 3 kr) (fun W v0 hG h0 => Pp (aa RG).b0 (aa RG).ga W v0 h0)))
           (Rg.ax (Rg.plain rfl (jh Tryz.func45 kr rfl cz.step (Rg.dw 2 kr) (Rg.dw 4 kr) (fun W v0 v1 hG h0 h1 => Zx (aa JF).Bk (aa RG).Ba W v0 v1 h0 h1)))
           (Rg.ax (Rg.plain rfl (jh Tryz.func43 kr rfl cz.step (Rg.dw 1 kr) (Rg.dw 5 kr) (fun W v0 v1 hG h0 h1 => Hq (aa RG).Bc (aa JF).Bkc W v0 v1 h0 h1)))
           (Rg.ax (Rg.plain rfl (gy rfl (Rg.ja kr rfl) (fun W h => cz.box (List.Mem.tail _ (List.Mem.tail _ (List.Mem.head _))) h) rfl))
           (Rg.ax (Rg.plain rfl (lg Tryz.func65 kr rfl cz.step (Rg.dw 7 kr) (fun W v0 hG h0 => Cg (aa RG).e0 (aa RG).gc W v0 h0)))
           (Rg.ax (Rg.plain rfl (gy rfl (Rg.ja kr rfl) (fun W h => cz.box (List.Mem.head _) h) rfl))
           (Rg.ax (Rg.plain rfl (gy rfl (Rg.ja kr rfl) (fun W h => cz.box (List.Mem.tail _ (List.Mem.tail _ (List.Mem.tail _ (List.Mem.head _)))) h) rfl))
           (Rg.ax (Rg.plain rfl (lg Tryz.func65 kr rfl cz.step (Rg.dw 10 kr) (fun W v0 hG h0 => Cg (aa RG).b0 (aa RG).ga W v0 h0)))
           (Rg.ax (Rg.plain rfl (jh Tryz.func45 kr rfl cz.step (Rg.dw 9 kr) (Rg.dw 11 kr) (fun W v0 v1 hG h0 h1 => Zx (aa JF).Bk (aa RG).Bb W v0 v1 h0 h1)))
           (Rg.ax (Rg.plain rfl (jh Tryz.func43 kr rfl cz.step (Rg.dw 8 kr) (Rg.dw 12 kr) (fun W v0 v1 hG h0 h1 => Hq (aa RG).Be (aa JF).Bke W v0 v1 h0 h1)))
           (Rg.ax (Rg.plain rfl (jh Tryz.func47 kr rfl cz.step (Rg.dw 6 kr) (Rg.dw 13 kr) (fun W v0 v1 hG h0 h1 => Oe (aa JF).Ba (aa JF).Bb (by have := (aa JF).b0; omega) W v0 v1 h0 h1)))
           Rg.jc))))))))))))))) ?_
         intro v V12 blb hv hne
         clear hne
         simp only [Rg.puts, List.take_succ_cons, List.take_zero, List.drop_succ_cons, List.drop_zero, Act.put, List.setIfInBounds_toArray, List.set_cons_zero, List.set_cons_succ]
         obtain ⟨bmx, blm, bja, biu, bmw, bll, biz, bis, e14, f14⟩ := (show ek (Rat.divInt (c + j * a1) (e + j * b1)) V12 (v 14) from hv 14 (by decide))
         simp only [e14]
         have hO := blb.1
         obtain ⟨-, _, _, _, _, _, _, _, _, hz, -⟩ := hO.box (qg) (Rat.divInt c e) (List.Mem.tail _ (List.Mem.tail _ (List.Mem.head _)))
         have Qo := ag hz 0
         have Qx := ah hz 0
         have Qm := ag hz 1
         have Qv := ah hz 1
         have Qk := ag hz 2
         have Qt := ah hz 2
         have Qi := ag hz 3
         have Qr := ah hz 3
         have Ri := lt_of_block hz
         clear hz
         go_wp2_with fail
         replace hO := Own.set (xs := [(Ep, Rat.divInt (j) 1), (yz, Rat.divInt (k) 1)]) (ys := [(uo, Rat.divInt a1 b1), (w.heap.size + 2, 0), (w.heap.size + 1, 0), (w.heap.size, Rat.divInt N D)]) hO f14
         unfold Da at hO
         generalize (((V12.setCell ⟨qg, 0, none⟩ (.slice bmx bja.length blm)).setCell ⟨qg, 1, none⟩ (.bool biu)).setCell ⟨qg, 2, none⟩ (.slice bmw biz.length bll)).setCell ⟨qg, 3, none⟩ (.bool bis) = U12 at *
         try clear Qo Qx Qm Qv Qk Qt Qi Qr blb
         try clear e14 f14 Ri
         try clear hv
         replace HO := hide hO
         clear hO
         go_meet
         exact aa HO
        ·
         have d1 : decide (0 < gm j) = false := Nq hq
         simp only [d1]
         clear d1
         go_wp2_with fail
         go_meet
         have hk0 : j = 0 := by have := (aa JF).k0; omega
         have h := aa HO
         rwa [show Rat.divInt c e = Rat.divInt (c + j * a1) (e + j * b1) by rw [hk0, Int.zero_mul, Int.zero_mul, Int.add_zero, Int.add_zero]] at h
       case rest =>
        revert hcut
        generalize wc = C13
        intro hcut
        clear HO
        have HO := hide hcut
        clear hcut
        by_cases h1 : (c + j * a1) * D - N * (e + j * b1) = 0
        ·
         have d1 : (gm ((c + j * a1) * D - N * (e + j * b1)) == 0) = true := Qz h1
         go_upto_region 14 with fail
         refine Rg.uu 4 130 (Rg.pick [ek (Rat.divInt (c + j * a1) (e + j * b1)), ek (Rat.divInt N D), Rg.ji (.int .i64 (gm ((c + j * a1) * D - N * (e + j * b1)))), Rg.ji (.bool (true))]) (cz w [(Ep, Rat.divInt (j) 1), (yz, Rat.divInt (k) 1), (qg, Rat.divInt (c + j * a1) (e + j * b1)), (uo, Rat.divInt a1 b1), (w.heap.size + 2, 0), (w.heap.size + 1, 0), (w.heap.size, Rat.divInt N D)] C13) oh [] kr rfl (Rg.oq.pick ⟨df _, df _, Rg.fw _, Rg.fw _, trivial⟩) (cz.begin (aa HO))
          (Rg.ax (Rg.plain rfl (gy rfl (Rg.ja kr rfl) (fun W h => cz.box (List.Mem.tail _ (List.Mem.tail _ (List.Mem.head _))) h) rfl))
           (Rg.ax (Rg.plain rfl (gy rfl (Rg.ja kr rfl) (fun W h => cz.box (List.Mem.tail _ (List.Mem.tail _ (List.Mem.tail _ (List.Mem.tail _ (List.Mem.tail _ (List.Mem.tail _ (List.Mem.head _))))))) h) rfl))
           (Rg.ax (Rg.plain rfl (jh Tryz.func64 kr rfl cz.step (Rg.dw 0 kr) (Rg.dw 1 kr) (fun W v0 v1 hG h0 h1 => (Rm (aa JF).Ba (aa JF).Bb (aa RG).BN (aa RG).BD (aa JF).b0 (aa RG).D0 (aa JF).ga (aa RG).gx) W v0 v1 h0 h1)))
           (Rg.ax (Rg.plain rfl (Ls rfl (Rg.dw 2 kr) (Rg.zg _) rfl d1))
           Rg.jc)))) ?_
         intro v V14 ake hv hne
         clear hne
         simp only [Rg.puts, List.take_succ_cons, List.take_zero, List.drop_succ_cons, List.drop_zero, Act.put, List.setIfInBounds_toArray, List.set_cons_zero, List.set_cons_succ]
         have e3 : v 3 = .bool (true) := hv 3 (by decide)
         simp only [e3]
         have hO := ake.1
         clear ake
         try clear e3
         try clear hv
         replace HO := hide hO
         clear hO
         clear d1
         go_upto_region 15 with fail
         have hO : Own w [(w.heap.size + 1, 0), (w.heap.size + 2, 0), (Ep, Rat.divInt (j) 1), (yz, Rat.divInt (k) 1), (qg, Rat.divInt (c + j * a1) (e + j * b1)), (uo, Rat.divInt a1 b1), (w.heap.size, Rat.divInt N D)] V14 := (Own.front (xs := [(w.heap.size + 2, 0), (Ep, Rat.divInt (j) 1), (yz, Rat.divInt (k) 1), (qg, Rat.divInt (c + j * a1) (e + j * b1)), (uo, Rat.divInt a1 b1)]) (ys := [(w.heap.size, Rat.divInt N D)]) (Own.front (xs := [(Ep, Rat.divInt (j) 1), (yz, Rat.divInt (k) 1), (qg, Rat.divInt (c + j * a1) (e + j * b1)), (uo, Rat.divInt a1 b1)]) (ys := [(w.heap.size + 1, 0), (w.heap.size, Rat.divInt N D)]) (aa HO)))
         refine Rg.region 4 130 (Rg.pick [ek (Rat.divInt (c + j * a1) (e + j * b1)), ek (Rat.divInt (c + j * a1) (e + j * b1)), fun W _ => vo W (w.heap.size + 1) (Rat.divInt (c + j * a1) (e + j * b1)), fun W _ => vo W (w.heap.size + 2) (Rat.divInt (c + j * a1) (e + j * b1))]) (Gy w [(Ep, Rat.divInt (j) 1), (yz, Rat.divInt (k) 1), (qg, Rat.divInt (c + j * a1) (e + j * b1)), (uo, Rat.divInt a1 b1), (w.heap.size, Rat.divInt N D)] (w.heap.size + 1) (w.heap.size + 2)) (Tz (w.heap.size + 1) (w.heap.size + 2) (Rat.divInt (c + j * a1) (e + j * b1)) (Rat.divInt (c + j * a1) (e + j * b1))) [] kr kr rfl (Rg.oq.pick ⟨Dj _, Dj _, Kj, Ki, trivial⟩) ⟨0, 0, Own.step _ _ hO (oh.drew _)⟩
          (Rg.ax (Ch (Rg.ja kr rfl) (List.Mem.tail _ (List.Mem.tail _ (List.Mem.head _))) rfl)
           (Rg.ax (Ch (Rg.ja kr rfl) (List.Mem.tail _ (List.Mem.tail _ (List.Mem.head _))) rfl)
           (Rg.ax (Nz (Rg.ja kr rfl) (Rg.dw 0 kr) rfl)
           (Rg.ax (Ny (Rg.ja kr rfl) (Rg.dw 1 kr) rfl)
           Rg.jc)))) ?_
         clear hO HO
         intro v V15 hG hv hne
         clear hne
         simp only [Rg.puts, List.take_succ_cons, List.take_zero, List.drop_succ_cons, List.drop_zero, Act.put, List.setIfInBounds_toArray, List.set_cons_zero, List.set_cons_succ]
         have HO := hide (Gy.fin hG (hv 2 (by decide)) (hv 3 (by decide)))
         clear hG hv
         go_wp2_with fail
         obtain ⟨-, nk, mq, mf, mh, ni, mo, ma, mg, dh, mi⟩ := (aa HO).box _ _ (List.Mem.head _)
         have iw := ag dh 0
         have iq := ag dh 1
         have il := ag dh 2
         have ik := ag dh 3
         have iy := lt_of_block dh
         clear dh
         obtain ⟨-, zb, yx, ym, yo, za, yw, yh, yn, jb, yu⟩ := (aa HO).box _ _ (List.Mem.tail _ (List.Mem.head _))
         have xq := ag jb 0
         have xn := ag jb 1
         have xm := ag jb 2
         have xk := ag jb 3
         have xw := lt_of_block jb
         clear jb
         exact bodyPost_ret (v := .tuple #[.agg #[.slice nk mf.length mq, .bool mh, .slice ni ma.length mo, .bool mg], .agg #[.slice zb ym.length yx, .bool yo, .slice za yh.length yw, .bool yn]]) (by simp [results, Tryz.results63, go_sem, iw, iq, il, ik, xq, xn, xm, xk, iy, xw]) rfl
          ⟨_, rfl, (aa HO).bel, ⟨c + j * a1, e + j * b1, c + j * a1, e + j * b1, .inl ⟨by have := (aa JF).en h1; have := (aa JF).bm; omega, ((aa JF).en h1).1, ((aa JF).en h1).2, ((aa JF).en h1).1, ((aa JF).en h1).2⟩, ⟨_, _, rfl, ⟨_, _, _, _, _, _, _, _, rfl, mi⟩, ⟨_, _, _, _, _, _, _, _, rfl, yu⟩⟩⟩⟩
        ·
         have d1 : (gm ((c + j * a1) * D - N * (e + j * b1)) == 0) = false := Qy h1
         go_upto_region 14 with fail
         refine Rg.uu 4 130 (Rg.pick [ek (Rat.divInt (c + j * a1) (e + j * b1)), ek (Rat.divInt N D), Rg.ji (.int .i64 (gm ((c + j * a1) * D - N * (e + j * b1)))), Rg.ji (.bool (false))]) (cz w [(Ep, Rat.divInt (j) 1), (yz, Rat.divInt (k) 1), (qg, Rat.divInt (c + j * a1) (e + j * b1)), (uo, Rat.divInt a1 b1), (w.heap.size + 2, 0), (w.heap.size + 1, 0), (w.heap.size, Rat.divInt N D)] C13) oh [] kr rfl (Rg.oq.pick ⟨df _, df _, Rg.fw _, Rg.fw _, trivial⟩) (cz.begin (aa HO))
          (Rg.ax (Rg.plain rfl (gy rfl (Rg.ja kr rfl) (fun W h => cz.box (List.Mem.tail _ (List.Mem.tail _ (List.Mem.head _))) h) rfl))
           (Rg.ax (Rg.plain rfl (gy rfl (Rg.ja kr rfl) (fun W h => cz.box (List.Mem.tail _ (List.Mem.tail _ (List.Mem.tail _ (List.Mem.tail _ (List.Mem.tail _ (List.Mem.tail _ (List.Mem.head _))))))) h) rfl))
           (Rg.ax (Rg.plain rfl (jh Tryz.func64 kr rfl cz.step (Rg.dw 0 kr) (Rg.dw 1 kr) (fun W v0 v1 hG h0 h1 => (Rm (aa JF).Ba (aa JF).Bb (aa RG).BN (aa RG).BD (aa JF).b0 (aa RG).D0 (aa JF).ga (aa RG).gx) W v0 v1 h0 h1)))
           (Rg.ax (Rg.plain rfl (Ls rfl (Rg.dw 2 kr) (Rg.zg _) rfl d1))
           Rg.jc)))) ?_
         intro v V14 ake hv hne
         clear hne
         simp only [Rg.puts, List.take_succ_cons, List.take_zero, List.drop_succ_cons, List.drop_zero, Act.put, List.setIfInBounds_toArray, List.set_cons_zero, List.set_cons_succ]
         have e3 : v 3 = .bool (false) := hv 3 (by decide)
         simp only [e3]
         have hO := ake.1
         clear ake
         try clear e3
         try clear hv
         replace HO := hide hO
         clear hO
         clear d1
         have hgo : m + 2 ≤ ((gk - 1 : Nat) : Int) + (b1 + (e + j * b1)) := by
          have g1 := (aa JF).gb; have g2 := hgk.out; have g3 := (aa KF).k0; have g4 := (aa JF).k0
          by_cases hp : 0 < k
          ·
           omega
          ·
           have hb2 : b1 = b := by rw [hb1, show k = 0 by omega, Int.zero_mul, Int.add_zero]
           have ha2 : a1 = a := by rw [ha1, show k = 0 by omega, Int.zero_mul, Int.add_zero]
           have g5 := (aa HS).goes om hk hp (j := j) (by rw [hj, hb2, ha2])
           omega
         have Wt : 1 ≤ gk := by have g2 := hgk.out; omega
         have HN := hide ((aa JF).st h1); have HGO := hide hgo; have HNG := hide Wt
         clear hgo Wt h0 h1 hgb K4 hk hj ha1 hb1
         go_wp2_with fail
         go_roundg (gk - 1)
         case measure => have := aa HNG; omega
         case rel => exact ⟨a1, b1, c + j * a1, e + j * b1, aa HN, HGO, (Own.tail (Own.tail (aa HO)))⟩

end Go.Proofs.YtpjgoogeokbaaaaGreatDoor
