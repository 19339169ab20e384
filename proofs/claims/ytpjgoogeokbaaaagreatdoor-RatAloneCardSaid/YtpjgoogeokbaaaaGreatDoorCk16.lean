/- Texts beneath a law of layer 1. -/
import Derived.Test.YtpjgoogeokbaaaaGreatDoorCk15
set_option maxRecDepth 100000
namespace Go.Proofs.YtpjgoogeokbaaaaGreatDoor
open Go.RowKit

def bpx (w : World) (N D m : Int) (e' : Ending) (w' : World) : Prop := (∃ ln ld c e d s u, Wd.Vx N D m ln ld c e d s u ∧ ((s = -1 ∧ e' = .returned (.tuple #[(Value.agg #[.int .i64 ln, .int .i64 ld]), (Value.agg #[.int .i64 c, .int .i64 e])])) ∨ (s = 1 ∧ e' = .returned (.tuple #[(Value.agg #[.int .i64 c, .int .i64 e]), (Value.agg #[.int .i64 ln, .int .i64 ld])])))) ∧ Below w.heap.size w w'
set_option maxHeartbeats 16000000 in
theorem bip (N D m : Int) (w : World) (hT : rz w) (ok : Wd.nu N D) (hm1 : 1 ≤ m) (hmD : m < D) :
  Calls Tryz.prog 60 #[(Value.agg #[.int .i64 N, .int .i64 D]), .int .i64 m] w fun e' w' => bpx w N D m e' w' := by
 have HT := hide hT
 have Pb := hide ok; have HM := hide (And.intro hm1 hmD)
 have HST := hide (Wd.Ib.start ok hm1)
 clear hT
 go_enter Tryz.func60, Tryz.ntmps60
 go_wp2_with fail
 go_quiet (fail)
 go_wp2_with fail
 go_loopw [8, 9] (fun nv dv wr => ∃ bn bd ln ld n d s : Int, nv = .int .i64 n ∧ dv = .int .i64 d ∧ NbG w wr N D bn bd ln ld ∧ Hid (Wd.Ib N D m bn bd ln ld n d s)) (fun _ dv _ => (intOf dv).toNat)
 case atStart => exact ⟨0, 1, 1, 0, N, D, 1, rfl, rfl, aul w N D _, aa HST⟩
 case round =>
  obtain ⟨bn, bd, ln, ld, n, d, s, rfl, rfl, hw, HS⟩ := hrel
  obtain ⟨a, ha⟩ : ∃ a, a = n / d := ⟨_, rfl⟩
  obtain ⟨nx, hx⟩ : ∃ nx, nx = bn + a * ln := ⟨_, rfl⟩
  obtain ⟨ny, hy⟩ : ∃ ny, ny = bd + a * ld := ⟨_, rfl⟩
  have hnx := HS.out.nx ok hmD ha hx hy
  have hdp := HS.out.dp; have hnb := HS.out.nb; have hdb := HS.out.db; have hok := ok
  obtain ⟨o1, o2, o3, o4, _⟩ := hok
  have bam := hnx.nxb; have hkc := hnx.kc; have hkd := hnx.kd; have bjt := hnx.ny0; have bjs := hnx.nyD
  have HF := hide (fun W => Ou n d W om om hdp om)
  rw [← ha] at HF
  have HMD := hide (fun W => Rf bn bd ln ld a (a * ln) (a * ld) nx ny W rfl rfl hx.symm hy.symm om om om om)
  have b0 : wr.cell? ⟨w.heap.size + 1 + 1 + 1, 0, none⟩ = some (.int .i64 bn) := ag hw.Ga 0
  have b1 : wr.cell? ⟨w.heap.size + 1 + 1 + 1, 1, none⟩ = some (.int .i64 bd) := ag hw.Ga 1
  have l0 : wr.cell? ⟨w.heap.size + 1 + 1 + 1 + 1, 0, none⟩ = some (.int .i64 ln) := ag hw.last 0
  have l1 : wr.cell? ⟨w.heap.size + 1 + 1 + 1 + 1, 1, none⟩ = some (.int .i64 ld) := ag hw.last 1
  have HW := hide hw
  by_cases hlt : m < ny
  ·
   obtain ⟨t, ht⟩ : ∃ t, t = (m - bd) / ld := ⟨_, rfl⟩
   obtain ⟨c, hc_⟩ : ∃ c, c = bn + t * ln := ⟨_, rfl⟩
   obtain ⟨e, he_⟩ : ∃ e, e = bd + t * ld := ⟨_, rfl⟩
   obtain ⟨hend, t0, t1, tl, td⟩ := HS.out.stop ok hm1 hmD ha hx hy hlt ht hc_ he_
   obtain ⟨Uf, okl⟩ := avr hend ok hmD
   have hld := hend.ld1
   have hbm := HS.out.bm; have hb0 := HS.out.inv.bd0; have hlm := HS.out.lm
   have HM3 := hide (fun W => Rf bn bd ln ld t (t * ln) (t * ld) c e W rfl rfl hc_.symm he_.symm om om (by have := Uf.2.2.1; have := Uf.2.2.2.1; omega) (by have := Uf.1; have := Uf.2.1; omega))
   have Gf := hide (fun W => Ex c e W (by have := Uf.2.2.1; omega) (by have := Uf.2.2.2.1; omega) (by have := Uf.1; omega) (by have := Uf.2.1; omega))
   have Pf := hide (fun W => Ex N D W om om om om)
   obtain ⟨e1, e2⟩ := Wd.Cf Uf
   obtain ⟨e3, e4⟩ := Wd.Cf ok
   have hcc := Vm w (Wd.qR c e) (Wd.qR N D) (Fb Uf) (Fb ok) (by unfold lim; omega)
   unfold OpC at hcc
   rw [e1, e2, e3, e4] at hcc
   have hsg : (s = -1 ∧ gm (c * D - N * e) = 1) ∨ (s = 1 ∧ gm (c * D - N * e) = -1) := by
    have h2 := hend.aqe; have h3 := hend.up
    have i1 : D * c = c * D := Int.mul_comm D c
    rcases hend.gm with e | e
    ·
     exact .inr ⟨e, by unfold gm; rw [e, Int.one_mul] at h2; rw [if_pos om]⟩
    ·
     exact .inl ⟨e, by unfold gm; rw [e] at h2; rw [if_neg om, if_pos om]⟩
   have q1 : IntKind.i64.wrap (m - bd) = m - bd := IntWalk.i64_in _ om
   have q1' : wrap64 (m - bd) = m - bd := IntWalk.wrap64_in _ om
   have q2 : (m - bd).tdiv ld = t := by rw [ht]; exact Int.tdiv_eq_ediv_of_nonneg om
   have q3 : IntKind.i64.wrap t = t := IntWalk.i64_in _ om
   have q3' : wrap64 t = t := IntWalk.wrap64_in _ om
   have q4 : (ld == 0) = false := beq_eq_false_iff_ne.2 om
   have q5 : ¬ ld = 0 := by omega
   have q6 : decide (m < ny) = true := decide_eq_true hlt
   have bmp := hide hend; have Gd := hide hsg; have HCC := hide hcc
   clear hend hsg hcc Uf okl e1 e2 e3 e4 t0 t1 tl td hld hbm hb0 hlm hlt ht hc_ he_ hnx hdp hnb hdb o1 o2 o3 o4 bam hkc hkd bjt bjs ha hx hy hw HS ok hm1 hmD
   go_wp2_with fail
   refine ((aa HF) _).mono ?_
   rintro e' w1 ⟨rfl, hW1⟩
   obtain rfl : wr = w1 := hW1.symm
   clear hW1
   dsimp only
   go_wp2_with fail
   refine ((aa HMD) _).mono ?_
   rintro e' w2 ⟨rfl, hb⟩
   have hw2 := ((aa HW).step hb).step (je (Below.refl _ _) (.cells #[.int .i64 nx, .int .i64 ny] 23))
   have hn := heap_alloc_new w2 (.cells #[.int .i64 nx, .int .i64 ny] 23)
   clear b0 b1 l0 l1 hb HW
   have d1 : (w2.alloc (.cells #[.int .i64 nx, .int .i64 ny] 23)).cell? ⟨w2.heap.size, 1, none⟩ = some (.int .i64 ny) := ag hn 1
   have HW2 := hide hw2
   clear hw2 hn
   go_upto_region 5 with fail
   generalize w2.alloc (.cells #[.int .i64 nx, .int .i64 ny] 23) = w3 at *
   go_upto_region 8 with fail
   have c0 : w3.cell? ⟨w.heap.size + 1 + 1 + 1 + 1, 0, none⟩ = some (.int .i64 ln) := ag (aa HW2).last 0
   have c1 : w3.cell? ⟨w.heap.size + 1 + 1 + 1 + 1, 1, none⟩ = some (.int .i64 ld) := ag (aa HW2).last 1
   have c2 : w3.cell? ⟨w.heap.size + 1 + 1 + 1, 0, none⟩ = some (.int .i64 bn) := ag (aa HW2).Ga 0
   have c3 : w3.cell? ⟨w.heap.size + 1 + 1 + 1, 1, none⟩ = some (.int .i64 bd) := ag (aa HW2).Ga 1
   have q4_ : w.heap.size + 1 + 1 + 1 + 1 < w3.heap.size := lt_of_block (aa HW2).last
   have q3_ : w.heap.size + 1 + 1 + 1 < w3.heap.size := lt_of_block (aa HW2).Ga
   have KEEP := hide (show ∀ X, Below w3.heap.size w3 X → X.cell? ⟨w.heap.size + 1 + 1 + 1 + 1, 0, none⟩ = some (.int .i64 ln) ∧ X.cell? ⟨w.heap.size + 1 + 1 + 1 + 1, 1, none⟩ = some (.int .i64 ld) ∧ X.cell? ⟨w.heap.size + 1 + 1 + 1, 0, none⟩ = some (.int .i64 bn) ∧ X.cell? ⟨w.heap.size + 1 + 1 + 1, 1, none⟩ = some (.int .i64 bd) from fun X hB => ⟨ai hB q4_ c0, ai hB q4_ c1, ai hB q3_ c2, ai hB q3_ c3⟩)
   clear d1 q3_ q4_ c0 c1 c2 c3
   go_cut [12] (fun s12 wx => ∃ b12 : Nat, s12 = .pointer (some ⟨b12, 0, none⟩) ∧ wx.heap[b12]? = some (.cells #[.int .i64 c, .int .i64 e] 23 (0, 0)) ∧ Below w3.heap.size w3 wx ∧ w3.heap.size ≤ b12)
   case first =>
    go_region_held3 (fun w' => w'.cell? ⟨w.heap.size + 1 + 1 + 1 + 1, 0, none⟩ = some (.int .i64 ln) ∧ w'.cell? ⟨w.heap.size + 1 + 1 + 1 + 1, 1, none⟩ = some (.int .i64 ld) ∧ w'.cell? ⟨w.heap.size + 1 + 1 + 1, 0, none⟩ = some (.int .i64 bn) ∧ w'.cell? ⟨w.heap.size + 1 + 1 + 1, 1, none⟩ = some (.int .i64 bd)) (exact (aa KEEP) _ (by (repeat (first | with_reducible exact Below.refl _ _ | with_reducible assumption | with_reducible refine Below.drew ?_ | with_reducible refine je ?_ _ | (with_reducible refine Eg ?_ ?_ _ _; rotate_left; (first | omega | (simp <;> omega))))))) ((go_at_call 111; refine ((aa HM3) _).mono ?_; rintro e' w' ⟨rfl, hb⟩; have hbw := ay (w := w3) bel hb; have hsw := hbw.size; (try (have un : w'.heap[w3.heap.size]? = some (.cells #[.int .i64 0, .int .i64 0] 23 (0, 0)) := (by first | exact Wv hb | exact aal hb); have un0 : w'.cell? ⟨w3.heap.size, 0, none⟩ = some (.int .i64 0) := ag un 0; have un1 : w'.cell? ⟨w3.heap.size, 1, none⟩ = some (.int .i64 0) := ag un 1; have un2 := ah un 0; have un3 := ah un 1))))
    all_goals
     go_wp2_with fail
     go_meet
     first
      | exact ⟨_, rfl, heap_alloc_new w' _, je hbw _, hsw⟩
      | exact ⟨_, rfl, Ea un, hbw.grown (fq _ _ _ _) hbw.size (fun k hk => by injection hk with hk; omega), Nat.le_refl _⟩
   case rest =>
    revert hcut
    generalize wc = W5
    intro hcut
    obtain ⟨b12, rfl, Om, hb5, ob⟩ := hcut
    have ol := lt_of_block (aa HW2).last
    have i1 : ¬ (b12 = w.heap.size + 1) := by omega
    have i2 : ¬ (w.heap.size + 1 = b12) := by omega
    have i3 : ¬ (b12 = w.heap.size + 1 + 1) := by omega
    have i4 : ¬ (w.heap.size + 1 + 1 = b12) := by omega
    clear ob ol
    have Pq := (aa HW2).step hb5
    have a0 : W5.cell? ⟨b12, 0, none⟩ = some (.int .i64 c) := ag Om 0
    have a1 : W5.cell? ⟨b12, 1, none⟩ = some (.int .i64 e) := ag Om 1
    have x0 : W5.cell? ⟨w.heap.size, 0, none⟩ = some (.int .i64 N) := ag Pq.x 0
    have x1 : W5.cell? ⟨w.heap.size, 1, none⟩ = some (.int .i64 D) := ag Pq.x 1
    have q12 := lt_of_block Om
    have qx := lt_of_block Pq.x
    have HW5 := hide Pq
    have Yj := hide Om
    clear KEEP HW2 hb5 Pq Om
    have KEEP := hide (show ∀ X, Below W5.heap.size W5 X → X.cell? ⟨b12, 0, none⟩ = some (.int .i64 c) ∧ X.cell? ⟨b12, 1, none⟩ = some (.int .i64 e) ∧ X.cell? ⟨w.heap.size, 0, none⟩ = some (.int .i64 N) ∧ X.cell? ⟨w.heap.size, 1, none⟩ = some (.int .i64 D) from fun X hB => ⟨ai hB q12 a0, ai hB q12 a1, ai hB qx x0, ai hB qx x1⟩)
    obtain ⟨sg, bjn⟩ : ∃ sg, sg = gm (c * D - N * e) := ⟨_, rfl⟩
    rw [← bjn] at HCC Gd
    clear bjn
    go_upto_region 9 with fail
    go_region_held3 (fun w' => w'.cell? ⟨b12, 0, none⟩ = some (.int .i64 c) ∧ w'.cell? ⟨b12, 1, none⟩ = some (.int .i64 e) ∧ w'.cell? ⟨w.heap.size, 0, none⟩ = some (.int .i64 N) ∧ w'.cell? ⟨w.heap.size, 1, none⟩ = some (.int .i64 D)) (exact (aa KEEP) _ bel) (first | (go_at_call_of 50 (Value.agg #[.int .i64 c, .int .i64 e]); refine ((aa Gf) _).mono ?_; rintro e' w' ⟨s5, si, A5, c5, l5, s6, xg, A6, c6, l6, rfl, kz, og, hb5⟩; have hbw := ay (w := W5) bel hb5; have hsw := hbw.size; obtain ⟨hc, hfz⟩ := az hbw) | (go_at_call_of 50 (Value.agg #[.int .i64 N, .int .i64 D]); refine ((aa Pf) _).mono ?_; rintro e' w' ⟨s7, Dc, A7, c7, l7, s8, Fg, A8, c8, l8, rfl, Au, wh, yf⟩; have kz := dz.below (dz.below kz bel) yf; have og := dz.below (dz.below og bel) yf; have hbw := ay (w := W5) bel yf; have hsw := hbw.size; obtain ⟨hc, hfz⟩ := az hbw) | (go_at_call_of 62 (Value.agg #[.int .i64 s5, .bool si, .slice A5 l5.length c5, .int .i64 s6, .bool xg, .slice A6 l6.length c6]); refine ((aa HCC) s5 si A5 c5 l5 s6 xg A6 c6 l6 s7 Dc A7 c7 l7 s8 Fg A8 c8 l8 _ (au (aa HW5).below bel) (dz.below kz bel) (dz.below og bel) (dz.below Au bel) (dz.below wh bel)).mono ?_; rintro e' w' ⟨rfl, gp⟩; have hbw := ay (w := W5) bel gp; have hsw := hbw.size; obtain ⟨hc, hfz⟩ := az hbw))
    clear kz og Au wh hc hfz a0 a1 x0 x1 KEEP
    have Co := (aa HW5).step hbw
    have oz := (hbw.block _ (lt_of_block (aa Yj))).trans (aa Yj)
    have a0 : w'.cell? ⟨b12, 0, none⟩ = some (.int .i64 c) := ag oz 0
    have a1 : w'.cell? ⟨b12, 1, none⟩ = some (.int .i64 e) := ag oz 1
    have c0 : w'.cell? ⟨w.heap.size + 1 + 1 + 1 + 1, 0, none⟩ = some (.int .i64 ln) := ag Co.last 0
    have c1 : w'.cell? ⟨w.heap.size + 1 + 1 + 1 + 1, 1, none⟩ = some (.int .i64 ld) := ag Co.last 1
    have r0 : w'.cell? ⟨w.heap.size + 1, 0, none⟩ = some (.int .i64 0) := ag Co.lo 0
    have r1 : w'.cell? ⟨w.heap.size + 1, 1, none⟩ = some (.int .i64 0) := ag Co.lo 1
    have r2 : w'.cell? ⟨w.heap.size + 1 + 1, 0, none⟩ = some (.int .i64 0) := ag Co.hi 0
    have r3 : w'.cell? ⟨w.heap.size + 1 + 1, 1, none⟩ = some (.int .i64 0) := ag Co.hi 1
    have f0 := ah Co.lo 0; have f1 := ah Co.lo 1
    have f2 := ah Co.hi 0; have f3 := ah Co.hi 1
    have Qb := Co.below
    have hs : w.heap.size + 1 + 1 < w'.heap.size := lt_of_block Co.hi
    clear Co oz HW5 Yj hbw
    rcases aa Gd with ⟨hs1, rfl⟩ | ⟨hs1, rfl⟩
    ·
     have pz := Lib.hid hs1
     clear hs1 Gd
     go_wp2_with fail
     go_region
     all_goals go_wp2_with fail
     exact bodyPost_ret (v := .tuple #[(Value.agg #[.int .i64 ln, .int .i64 ld]), (Value.agg #[.int .i64 c, .int .i64 e])]) (by simp [results, Tryz.results60, go_sem, r0, r1, r2, r3, hs]) rfl
      ⟨⟨ln, ld, c, e, d, s, _, aa bmp, .inl ⟨pz.out, rfl⟩⟩, ((Qb.grown (fq _ _ _ _) Qb.size (fun k hk => by injection hk with hk; omega)).grown (fq _ _ _ _) (Nat.le_trans Qb.size (fq w' (w.heap.size + 1) (.int .i64 ln) (.int .i64 ld)).size) (fun k hk => by injection hk with hk; omega)).drew⟩
    ·
     have pz := Lib.hid hs1
     clear hs1 Gd
     go_wp2_with fail
     go_region
     all_goals go_wp2_with fail
     exact bodyPost_ret (v := .tuple #[(Value.agg #[.int .i64 c, .int .i64 e]), (Value.agg #[.int .i64 ln, .int .i64 ld])]) (by simp [results, Tryz.results60, go_sem, r0, r1, r2, r3, hs]) rfl
      ⟨⟨ln, ld, c, e, d, s, _, aa bmp, .inr ⟨pz.out, rfl⟩⟩, ((Qb.grown (fq _ _ _ _) Qb.size (fun k hk => by injection hk with hk; omega)).grown (fq _ _ _ _) (Nat.le_trans Qb.size (fq w' (w.heap.size + 1) (.int .i64 c) (.int .i64 e)).size) (fun k hk => by injection hk with hk; omega)).drew⟩
  ·
   have hst := HS.out.next ok hmD ha hx hy om
   have q1a : wrap64 (a * d) = a * d := IntWalk.wrap64_in _ (by have := HS.out.inv.d0; have e3 := Int.mul_ediv_add_emod n d; have e1 := Int.emod_nonneg n (show d ≠ 0 by omega); have e2 := Int.emod_lt_of_pos n hdp; rw [← ha, Int.mul_comm] at e3; generalize a * d = v at *; omega)
   have q1b : IntKind.i64.wrap (a * d) = a * d := IntWalk.i64_in _ (by have e3 := Int.mul_ediv_add_emod n d; have e1 := Int.emod_nonneg n (show d ≠ 0 by omega); have e2 := Int.emod_lt_of_pos n hdp; rw [← ha, Int.mul_comm] at e3; generalize a * d = v at *; omega)
   have hrd := hst.dp; have hrb := hst.way
   obtain ⟨p, hp⟩ : ∃ p, p = a * d := ⟨_, rfl⟩
   have q1 : wrap64 (a * d) = p := q1a.trans hp.symm
   have q1' : IntKind.i64.wrap (a * d) = p := q1b.trans hp.symm
   clear q1a q1b
   rw [← hp] at hst hrd hrb
   obtain ⟨r, hr⟩ : ∃ r, r = n - p := ⟨_, rfl⟩
   rw [← hr] at hst hrd hrb
   have q2 : wrap64 (n - p) = r := by rw [← hr]; exact IntWalk.wrap64_in _ om
   have q2' : IntKind.i64.wrap (n - p) = r := by rw [← hr]; exact IntWalk.i64_in _ om
   have q3 : wrap64 (n - a * d) = r := by rw [← hp]; exact q2
   have q6 : decide (m < ny) = false := decide_eq_false hlt
   have HN := hide hst
   have bbk := hide (show r.toNat < d.toNat by omega)
   have EP := Lib.hid hp
   clear hst hrd hrb hr hlt hnx hdp hnb hdb o1 o2 o3 o4 bam hkc hkd bjt bjs ha hx hy hw HS ok hm1 hmD
   go_wp2_with fail
   refine ((aa HF) _).mono ?_
   rintro e w1 ⟨rfl, hW1⟩
   obtain rfl : wr = w1 := hW1.symm
   clear hW1
   dsimp only
   go_wp2_with fail
   refine ((aa HMD) _).mono ?_
   rintro e w2 ⟨rfl, hb⟩
   have hw2 := ((aa HW).step hb).step (je (Below.refl _ _) (.cells #[.int .i64 nx, .int .i64 ny] 23))
   have hn := heap_alloc_new w2 (.cells #[.int .i64 nx, .int .i64 ny] 23)
   have HN2 := hide (show w.heap.size + 1 + 1 + 1 + 1 < w2.heap.size from lt_of_block ((aa HW).step hb).last)
   clear b0 b1 l0 l1 hb HW
   have c0 : (w2.alloc (.cells #[.int .i64 nx, .int .i64 ny] 23)).cell? ⟨w.heap.size + 1 + 1 + 1 + 1, 0, none⟩ = some (.int .i64 ln) := ag hw2.last 0
   have c1 : (w2.alloc (.cells #[.int .i64 nx, .int .i64 ny] 23)).cell? ⟨w.heap.size + 1 + 1 + 1 + 1, 1, none⟩ = some (.int .i64 ld) := ag hw2.last 1
   have c2 : (w2.alloc (.cells #[.int .i64 nx, .int .i64 ny] 23)).cell? ⟨w.heap.size + 1 + 1 + 1, 0, none⟩ = some (.int .i64 bn) := ag hw2.Ga 0
   have c3 : (w2.alloc (.cells #[.int .i64 nx, .int .i64 ny] 23)).cell? ⟨w.heap.size + 1 + 1 + 1, 1, none⟩ = some (.int .i64 bd) := ag hw2.Ga 1
   have d0_ : (w2.alloc (.cells #[.int .i64 nx, .int .i64 ny] 23)).cell? ⟨w2.heap.size, 0, none⟩ = some (.int .i64 nx) := ag hn 0
   have d1_ : (w2.alloc (.cells #[.int .i64 nx, .int .i64 ny] 23)).cell? ⟨w2.heap.size, 1, none⟩ = some (.int .i64 ny) := ag hn 1
   have f0 := ah hw2.last 0
   have f1 := ah hw2.last 1
   have f2 := ah hw2.Ga 0
   have f3 := ah hw2.Ga 1
   have HW2 := hide hw2
   clear hw2 hn
   go_upto_region 5 with fail
   generalize w2.alloc (.cells #[.int .i64 nx, .int .i64 ny] 23) = w3 at *
   obtain ⟨p_, hp_⟩ : ∃ p, p = w2.heap.size := ⟨_, rfl⟩
   rw [← hp_] at d0_ d1_ ⊢
   have hpn : w.heap.size + 1 + 1 + 1 + 1 < p_ := by rw [hp_]; exact aa HN2
   clear HN2 hp_
   go_wp2_with fail
   go_region
   all_goals go_wp2_with fail
   go_roundw
   case rel => exact ⟨ln, ld, nx, ny, d, r, -s, by first | rfl | go_num, by (rw [q3]), ((aa HW2).step (Below.refl _ _).drew).set ln ld nx ny, HN⟩
   case measure => first | exact aa bbk | (rw [q3]; exact aa bbk) | (dsimp only; rw [q3]; exact aa bbk)
end Go.Proofs.YtpjgoogeokbaaaaGreatDoor
namespace Go.Proofs.YtpjgoogeokbaaaaGreatDoor
open Go.RowKit

theorem Pz {z p : Int} (hp : 0 < p) : gm (z * p) = gm z := by
 unfold gm
 rcases Int.lt_trichotomy z 0 with h | h | h
 ·
  rw [if_pos h, if_pos (Int.mul_neg_of_neg_of_pos h hp)]
 ·
  rw [h, Int.zero_mul]
 ·
  have := Int.mul_pos h hp
  rw [if_neg (show ¬ z < 0 by omega), if_pos h, if_neg (show ¬ z * p < 0 by omega), if_pos this]
theorem Yx {x y x' y' : Int} (hy : 0 < y) (hy' : 0 < y') :
  gm ((Rat.divInt x y).num * ((Rat.divInt x' y').den : Int) - (Rat.divInt x' y').num * ((Rat.divInt x y).den : Int)) = gm (x * y' - x' * y) := by
 have A : (Rat.divInt x y).num * y = x * ((Rat.divInt x y).den : Int) := (Rat.divInt_eq_divInt_iff (by have := (Rat.divInt x y).den_nz; omega) om).1 (Rat.num_divInt_den (Rat.divInt x y))
 have B : (Rat.divInt x' y').num * y' = x' * ((Rat.divInt x' y').den : Int) := (Rat.divInt_eq_divInt_iff (by have := (Rat.divInt x' y').den_nz; omega) om).1 (Rat.num_divInt_den (Rat.divInt x' y'))
 have p1 : 0 < ((Rat.divInt x y).den : Int) := by have := (Rat.divInt x y).den_pos; omega
 have p2 : 0 < ((Rat.divInt x' y').den : Int) := by have := (Rat.divInt x' y').den_pos; omega
 generalize (Rat.divInt x y).num = n1 at *
 generalize ((Rat.divInt x y).den : Int) = d1 at *
 generalize (Rat.divInt x' y').num = n2 at *
 generalize ((Rat.divInt x' y').den : Int) = d2 at *
 rw [← Pz (z := n1 * d2 - n2 * d1) (Int.mul_pos hy hy'), ← Pz (z := x * y' - x' * y) (Int.mul_pos p1 p2), Int.sub_mul, Int.sub_mul]
 have i1 : n1 * d2 * (y * y') = x * y' * (d1 * d2) := by
  calc n1 * d2 * (y * y') = n1 * y * (d2 * y') := by ac_rfl
   _ = x * d1 * (d2 * y') := by rw [A]
   _ = x * y' * (d1 * d2) := by ac_rfl
 have i2 : n2 * d1 * (y * y') = x' * y * (d1 * d2) := by
  calc n2 * d1 * (y * y') = n2 * y' * (d1 * y) := by ac_rfl
   _ = x' * d2 * (d1 * y) := by rw [B]
   _ = x' * y * (d1 * d2) := by ac_rfl
 rw [i1, i2]
theorem bfw {N D a b c e : Int} (hD : 0 < D) (hb : 0 < b) (he : 0 < e) :
  gm ((Wd.qR N D - Wd.qR a b).num * (Wd.qR c e - Wd.qR N D).den - (Wd.qR c e - Wd.qR N D).num * (Wd.qR N D - Wd.qR a b).den) = gm ((N * b - a * D) * e - (c * D - N * e) * b) := by
 have i1 : (N * b - a * D) * (e * D) = (N * b - a * D) * e * D := by ac_rfl
 have i2 : (c * D - N * e) * (D * b) = (c * D - N * e) * b * D := by ac_rfl
 rw [Wd.Zb hD hb, Wd.Zb he hD, Yx (Int.mul_pos hD hb) (Int.mul_pos he hD), ← Pz (z := (N * b - a * D) * e - (c * D - N * e) * b) hD, Int.sub_mul ((N * b - a * D) * e), i1, i2]
theorem aui (N D a b c e : Int) (hD : 0 < D) (hb : 0 < b) (he : 0 < e) :
  (gm ((Wd.qR N D - Wd.qR a b).num * (Wd.qR c e - Wd.qR N D).den - (Wd.qR c e - Wd.qR N D).num * (Wd.qR N D - Wd.qR a b).den) = -1 ∧ Wd.pick N D a b c e = (a, b)) ∨
  (gm ((Wd.qR N D - Wd.qR a b).num * (Wd.qR c e - Wd.qR N D).den - (Wd.qR c e - Wd.qR N D).num * (Wd.qR N D - Wd.qR a b).den) = 0 ∧ b ≤ e ∧ Wd.pick N D a b c e = (a, b)) ∨
  (gm ((Wd.qR N D - Wd.qR a b).num * (Wd.qR c e - Wd.qR N D).den - (Wd.qR c e - Wd.qR N D).num * (Wd.qR N D - Wd.qR a b).den) = 0 ∧ ¬ b ≤ e ∧ Wd.pick N D a b c e = (c, e)) ∨
  (gm ((Wd.qR N D - Wd.qR a b).num * (Wd.qR c e - Wd.qR N D).den - (Wd.qR c e - Wd.qR N D).num * (Wd.qR N D - Wd.qR a b).den) = 1 ∧ Wd.pick N D a b c e = (c, e)) := by
 rw [bfw hD hb he]
 unfold Wd.pick gm
 generalize (N * b - a * D) * e = x
 generalize (c * D - N * e) * b = y
 rcases Int.lt_trichotomy x y with h | h | h
 ·
  exact .inl ⟨if_pos om, if_pos (.inl h)⟩
 ·
  by_cases hbe : b ≤ e
  ·
   exact .inr (.inl ⟨by rw [if_neg om, if_neg om], hbe, if_pos (.inr ⟨h, hbe⟩)⟩)
  ·
   exact .inr (.inr (.inl ⟨by rw [if_neg om, if_neg om], hbe, if_neg om⟩))
 ·
  exact .inr (.inr (.inr ⟨by rw [if_neg om, if_pos om], if_neg om⟩))
theorem azf (N D m : Int) (w : World) (hT : rz w) (ok : Wd.nu N D) (hm1 : 1 ≤ m) (hmD : m < D) :
  Calls Tryz.prog 60 #[(Value.agg #[.int .i64 N, .int .i64 D]), .int .i64 m] w fun e' w' => ∃ a b c e, Wd.Ac N D m a b c e ∧ Wd.nu a b ∧ Wd.nu c e ∧ e' = .returned (.tuple #[(Value.agg #[.int .i64 a, .int .i64 b]), (Value.agg #[.int .i64 c, .int .i64 e])]) ∧ Below w.heap.size w w' := by
 refine (bip N D m w hT ok hm1 hmD).mono ?_
 rintro e' w' ⟨⟨ln, ld, c, e, d, s, u, hend, hres⟩, hb⟩
 obtain ⟨o1, o2⟩ := avr hend ok hmD
 rcases hres with ⟨hs, he⟩ | ⟨hs, he⟩
 ·
  exact ⟨ln, ld, c, e, (Wd.Ac.aug hend).1 hs, o2, o1, he, hb⟩
 ·
  exact ⟨c, e, ln, ld, (Wd.Ac.aug hend).2 hs, o1, o2, he, hb⟩

set_option maxHeartbeats 16000000 in
theorem azc (N D m : Int) (w : World) (hT : rz w) (ok : ¬ Wd.nu N D) :
  Calls Tryz.prog 18 #[(Value.agg #[.int .i64 N, .int .i64 D]), .int .i64 m] w fun e w' => e = .returned (.tuple #[(Value.agg #[.int .i64 0, .int .i64 0]), .int .i64 1]) ∧ Below w.heap.size w w' := by
 have HV := hide (Ah N D)
 rw [show Cz N D = 1 from if_neg ok] at HV
 have HT := hide hT
 clear hT ok
 go_enter Tryz.func18, Tryz.ntmps18
 go_wp2_with fail
 obtain ⟨El, Ej, hsz, hw0⟩ := jm w (.cells #[.int .i64 N, .int .i64 D] 23) (.cells #[.int .i64 0, .int .i64 0] 23)
 generalize ((w.alloc (.cells #[.int .i64 N, .int .i64 D] 23)).alloc (.cells #[.int .i64 0, .int .i64 0] 23)) = W0 at *
 clear hsz
 refine ((aa HV) _ ((aa HT).below hw0)).mono ?_
 rintro e W1 ⟨rfl, hb⟩
 have x1 := (hb.block _ (lt_of_block El)).trans El
 have r1 := (hb.block _ (lt_of_block Ej)).trans Ej
 have hw1 := au hw0 hb
 clear El Ej hb hw0 W0
 have k0 : W1.cell? ⟨w.heap.size, 0, none⟩ = some (.int .i64 N) := ag x1 0
 have k1 : W1.cell? ⟨w.heap.size, 1, none⟩ = some (.int .i64 D) := ag x1 1
 have X1 := hide x1
 have R1 := hide r1
 clear x1 r1
 have r0 : W1.cell? ⟨w.heap.size + 1, 0, none⟩ = some (.int .i64 0) := ag (aa R1) 0
 have r1 : W1.cell? ⟨w.heap.size + 1, 1, none⟩ = some (.int .i64 0) := ag (aa R1) 1
 have f0 : W1.frozen? ⟨w.heap.size + 1, 0, none⟩ = false := ah (aa R1) 0
 have f1 : W1.frozen? ⟨w.heap.size + 1, 1, none⟩ = false := ah (aa R1) 1
 go_wp2_with fail
 exact bodyPost_ret (v := .tuple #[(Value.agg #[.int .i64 0, .int .i64 0]), .int .i64 1]) (by simp [results, Tryz.results18, go_sem, r0, r1]) rfl
  ⟨rfl, hw1.grown (fq _ _ _ _) hw1.size (fun k hk => by injection hk with hk; omega)⟩

set_option maxHeartbeats 16000000 in
theorem aza (N D m : Int) (w : World) (hT : rz w) (ok : Wd.nu N D) (hm : m < 1) :
  Calls Tryz.prog 18 #[(Value.agg #[.int .i64 N, .int .i64 D]), .int .i64 m] w fun e w' => e = .returned (.tuple #[(Value.agg #[.int .i64 0, .int .i64 0]), .int .i64 1]) ∧ Below w.heap.size w w' := by
 have HV := hide (Ah N D)
 rw [show Cz N D = 0 from if_pos ok] at HV
 have q0 : decide (m < 1) = true := decide_eq_true om
 clear hm
 have HT := hide hT
 clear hT ok
 go_enter Tryz.func18, Tryz.ntmps18
 go_wp2_with fail
 obtain ⟨El, Ej, hsz, hw0⟩ := jm w (.cells #[.int .i64 N, .int .i64 D] 23) (.cells #[.int .i64 0, .int .i64 0] 23)
 generalize ((w.alloc (.cells #[.int .i64 N, .int .i64 D] 23)).alloc (.cells #[.int .i64 0, .int .i64 0] 23)) = W0 at *
 clear hsz
 refine ((aa HV) _ ((aa HT).below hw0)).mono ?_
 rintro e W1 ⟨rfl, hb⟩
 have x1 := (hb.block _ (lt_of_block El)).trans El
 have r1 := (hb.block _ (lt_of_block Ej)).trans Ej
 have hw1 := au hw0 hb
 clear El Ej hb hw0 W0
 have k0 : W1.cell? ⟨w.heap.size, 0, none⟩ = some (.int .i64 N) := ag x1 0
 have k1 : W1.cell? ⟨w.heap.size, 1, none⟩ = some (.int .i64 D) := ag x1 1
 have X1 := hide x1
 have R1 := hide r1
 clear x1 r1
 have r0 : W1.cell? ⟨w.heap.size + 1, 0, none⟩ = some (.int .i64 0) := ag (aa R1) 0
 have r1 : W1.cell? ⟨w.heap.size + 1, 1, none⟩ = some (.int .i64 0) := ag (aa R1) 1
 have f0 : W1.frozen? ⟨w.heap.size + 1, 0, none⟩ = false := ah (aa R1) 0
 have f1 : W1.frozen? ⟨w.heap.size + 1, 1, none⟩ = false := ah (aa R1) 1
 go_wp2_with fail
 exact bodyPost_ret (v := .tuple #[(Value.agg #[.int .i64 0, .int .i64 0]), .int .i64 1]) (by simp [results, Tryz.results18, go_sem, r0, r1]) rfl
  ⟨rfl, hw1.grown (fq _ _ _ _) hw1.size (fun k hk => by injection hk with hk; omega)⟩

set_option maxHeartbeats 16000000 in
theorem auk (N D m : Int) (w : World) (hT : rz w) (ok : Wd.nu N D) (hm : 1000000000000 < m) :
  Calls Tryz.prog 18 #[(Value.agg #[.int .i64 N, .int .i64 D]), .int .i64 m] w fun e w' => e = .returned (.tuple #[(Value.agg #[.int .i64 0, .int .i64 0]), .int .i64 1]) ∧ Below w.heap.size w w' := by
 have HV := hide (Ah N D)
 rw [show Cz N D = 0 from if_pos ok] at HV
 have q0 : decide (m < 1) = false := decide_eq_false om
 have q1 : decide (1000000000000 < m) = true := decide_eq_true om
 clear hm
 have HT := hide hT
 clear hT ok
 go_enter Tryz.func18, Tryz.ntmps18
 go_wp2_with fail
 obtain ⟨El, Ej, hsz, hw0⟩ := jm w (.cells #[.int .i64 N, .int .i64 D] 23) (.cells #[.int .i64 0, .int .i64 0] 23)
 generalize ((w.alloc (.cells #[.int .i64 N, .int .i64 D] 23)).alloc (.cells #[.int .i64 0, .int .i64 0] 23)) = W0 at *
 clear hsz
 refine ((aa HV) _ ((aa HT).below hw0)).mono ?_
 rintro e W1 ⟨rfl, hb⟩
 have x1 := (hb.block _ (lt_of_block El)).trans El
 have r1 := (hb.block _ (lt_of_block Ej)).trans Ej
 have hw1 := au hw0 hb
 clear El Ej hb hw0 W0
 have k0 : W1.cell? ⟨w.heap.size, 0, none⟩ = some (.int .i64 N) := ag x1 0
 have k1 : W1.cell? ⟨w.heap.size, 1, none⟩ = some (.int .i64 D) := ag x1 1
 have X1 := hide x1
 have R1 := hide r1
 clear x1 r1
 have r0 : W1.cell? ⟨w.heap.size + 1, 0, none⟩ = some (.int .i64 0) := ag (aa R1) 0
 have r1 : W1.cell? ⟨w.heap.size + 1, 1, none⟩ = some (.int .i64 0) := ag (aa R1) 1
 have f0 : W1.frozen? ⟨w.heap.size + 1, 0, none⟩ = false := ah (aa R1) 0
 have f1 : W1.frozen? ⟨w.heap.size + 1, 1, none⟩ = false := ah (aa R1) 1
 go_wp2_with fail
 exact bodyPost_ret (v := .tuple #[(Value.agg #[.int .i64 0, .int .i64 0]), .int .i64 1]) (by simp [results, Tryz.results18, go_sem, r0, r1]) rfl
  ⟨rfl, hw1.grown (fq _ _ _ _) hw1.size (fun k hk => by injection hk with hk; omega)⟩

set_option maxHeartbeats 16000000 in
theorem auj (N D m : Int) (w : World) (hT : rz w) (ok : Wd.nu N D) (hm : 1 ≤ m) (hm2 : m ≤ 1000000000000) (hD : D ≤ m) :
  Calls Tryz.prog 18 #[(Value.agg #[.int .i64 N, .int .i64 D]), .int .i64 m] w fun e w' => e = .returned (.tuple #[(Value.agg #[.int .i64 N, .int .i64 D]), .int .i64 0]) ∧ Below w.heap.size w w' := by
 have HV := hide (Ah N D)
 rw [show Cz N D = 0 from if_pos ok] at HV
 have q0 : decide (m < 1) = false := decide_eq_false om
 have q1 : decide (1000000000000 < m) = false := decide_eq_false om
 have q2 : decide (D ≤ m) = true := decide_eq_true om
 clear hm hm2 hD
 have HT := hide hT
 clear hT ok
 go_enter Tryz.func18, Tryz.ntmps18
 go_wp2_with fail
 obtain ⟨El, Ej, hsz, hw0⟩ := jm w (.cells #[.int .i64 N, .int .i64 D] 23) (.cells #[.int .i64 0, .int .i64 0] 23)
 generalize ((w.alloc (.cells #[.int .i64 N, .int .i64 D] 23)).alloc (.cells #[.int .i64 0, .int .i64 0] 23)) = W0 at *
 clear hsz
 refine ((aa HV) _ ((aa HT).below hw0)).mono ?_
 rintro e W1 ⟨rfl, hb⟩
 have x1 := (hb.block _ (lt_of_block El)).trans El
 have r1 := (hb.block _ (lt_of_block Ej)).trans Ej
 have hw1 := au hw0 hb
 clear El Ej hb hw0 W0
 have k0 : W1.cell? ⟨w.heap.size, 0, none⟩ = some (.int .i64 N) := ag x1 0
 have k1 : W1.cell? ⟨w.heap.size, 1, none⟩ = some (.int .i64 D) := ag x1 1
 have X1 := hide x1
 have R1 := hide r1
 clear x1 r1
 have r0 : W1.cell? ⟨w.heap.size + 1, 0, none⟩ = some (.int .i64 0) := ag (aa R1) 0
 have r1 : W1.cell? ⟨w.heap.size + 1, 1, none⟩ = some (.int .i64 0) := ag (aa R1) 1
 have f0 : W1.frozen? ⟨w.heap.size + 1, 0, none⟩ = false := ah (aa R1) 0
 have f1 : W1.frozen? ⟨w.heap.size + 1, 1, none⟩ = false := ah (aa R1) 1
 go_wp2_with fail
 exact bodyPost_ret (v := .tuple #[(Value.agg #[.int .i64 N, .int .i64 D]), .int .i64 0]) (by simp [results, Tryz.results18, go_sem, r0, r1]) rfl
  ⟨rfl, hw1.grown (fq _ _ _ _) hw1.size (fun k hk => by injection hk with hk; omega)⟩

end Go.Proofs.YtpjgoogeokbaaaaGreatDoor
namespace Go.Proofs.YtpjgoogeokbaaaaGreatDoor
open Go.RowKit

theorem Ox (w : World) : oh w w := Below.refl _ _
theorem Mo {a b c e : Int} (Ba : Bd a) (Bb : Bd b) (Bc : Bd c) (Be : Bd e) (b0 : 0 < b) (e0 : 0 < e) (W : World) (v0 v1 : Value) (h0 : ek (Rat.divInt a b) W v0) (h1 : ek (Rat.divInt c e) W v1) : Calls Tryz.prog 44 #[v0, v1] W (qz (ek (Rat.divInt (a * e - c * b) (b * e))) W) := by
 have h := afy (K := 4) (Ba.Nv Bb om) (Bc.Nv Be om) om W v0 v1 h0 h1
 rwa [Rat.divInt_sub_divInt _ _ om om] at h
theorem Uj {p q r s : Int} (Bp : Bd p) (Bq : Bd q) (Br : Bd r) (Bs : Bd s) (q0 : 0 < q) (s0 : 0 < s) (W : World) (v0 v1 : Value) (h0 : ek (Rat.divInt p q) W v0) (h1 : ek (Rat.divInt r s) W v1) : Calls Tryz.prog 64 #[v0, v1] W (qz (Rg.ji (.int .i64 (gm (p * s - r * q)))) W) := by
 have h := aql (K := 4) (Bp.Nv Bq om) (Br.Nv Bs om) om W v0 v1 h0 h1
 rwa [Yx q0 s0] at h

end Go.Proofs.YtpjgoogeokbaaaaGreatDoor
namespace Go.Proofs.YtpjgoogeokbaaaaGreatDoor
open Go.RowKit

def Fa (n d g : Int) : Int := if d < 2 * (n * g - n * g / d * d) ∨ (d = 2 * (n * g - n * g / d * d) ∧ ¬ (n * g / d).tmod 2 = 0) then n * g / d + 1 else n * g / d
noncomputable def Za (n d g : Int) : Wd.Told := if Wd.nu n d ∧ 1 ≤ g ∧ g ≤ 1000000 then mkE (Fa n d g) g else ⟨0, 0, 1⟩
theorem aeq {n d g : Int} (ok : Wd.nu n d) (g1 : 1 ≤ g) (g2 : g ≤ 1000000) : -1000000000000000000 ≤ n * g ∧ n * g ≤ 1000000000000000000 := by
 obtain ⟨_, _, h3, h4, _⟩ := ok
 have a := Int.mul_le_mul_of_nonneg_right h4 (show 0 ≤ g by omega)
 have b := Int.mul_le_mul_of_nonneg_right h3 (show 0 ≤ g by omega)
 omega
theorem aam {p d : Int} (h1 : 1 ≤ d) (hp : -1000000000000000000 ≤ p ∧ p ≤ 1000000000000000000) : -1000000000000000000 ≤ p / d ∧ p / d ≤ 1000000000000000000 ∧ p / d * d ≤ p ∧ p < p / d * d + d := by
 have a := Int.ediv_mul_le p (show d ≠ 0 by omega)
 have b := Int.lt_ediv_add_one_mul_self p (show 0 < d by omega)
 rw [Int.add_mul, Int.one_mul] at b
 refine ⟨?_, ?_, a, b⟩
 ·
  by_cases h : -1000000000000000000 ≤ p / d
  ·
   exact h
  ·
   have c := Int.mul_le_mul_of_nonneg_right (show p / d ≤ -1000000000000000001 by omega) (show 0 ≤ d by omega)
   omega
 ·
  by_cases h : p / d ≤ 1000000000000000000
  ·
   exact h
  ·
   have c := Int.mul_le_mul_of_nonneg_right (show 1000000000000000001 ≤ p / d by omega) (show 0 ≤ d by omega)
   omega
set_option maxHeartbeats 16000000 in
theorem aom (n d g : Int) (w : World) (hT : rz w) (ok : ¬ Wd.nu n d) :
  Calls Tryz.prog 16 #[.agg #[.int .i64 n, .int .i64 d], .int .i64 g] w fun e w' => Bz w (⟨0, 0, 1⟩) e w' := by
 have HV := hide (fun W (hW : Below w.heap.size w W) => Ah n d W (hT.below hW))
 rw [show Cz n d = 1 from if_neg ok] at HV
 clear ok hT
 go_enter Tryz.func16, Tryz.ntmps16
 go_upto_region 1 with fail
 obtain ⟨np, n0, hsz, hw0⟩ := jm w (.cells #[.int .i64 n, .int .i64 d] 23) (.cells #[.int .i64 0, .int .i64 0] 23)
 generalize ((w.alloc (.cells #[.int .i64 n, .int .i64 d] 23)).alloc (.cells #[.int .i64 0, .int .i64 0] 23)) = W0 at *
 have p0 : W0.cell? ⟨w.heap.size, 0, none⟩ = some (.int .i64 n) := ag np 0
 have p1 : W0.cell? ⟨w.heap.size, 1, none⟩ = some (.int .i64 d) := ag np 1
 have r0 : W0.cell? ⟨w.heap.size + 1, 0, none⟩ = some (.int .i64 0) := ag n0 0
 have r1 : W0.cell? ⟨w.heap.size + 1, 1, none⟩ = some (.int .i64 0) := ag n0 1
 have f0 := ah n0 0; have f1 := ah n0 1
 have qp := lt_of_block np
 have q0 := lt_of_block n0
 clear np n0 hsz
 go_wp2_with fail
 refine ((aa HV) _ (by first | exact hw0 | exact hw0.drew)).mono ?_
 rintro e W1 ⟨rfl, hb⟩
 obtain ⟨hc, hfz⟩ := az hb
 replace p0 := (hc _ _ qp).trans p0
 replace p1 := (hc _ _ qp).trans p1
 replace r0 := (hc _ _ q0).trans r0
 replace r1 := (hc _ _ q0).trans r1
 replace f0 := (hfz _ _ q0).trans f0
 replace f1 := (hfz _ _ q0).trans f1
 replace qp := Nat.lt_of_lt_of_le qp hb.size
 replace q0 := Nat.lt_of_lt_of_le q0 hb.size
 replace hw0 := au hw0 hb
 clear hc hfz
 clear hb
 go_wp2_with fail
 exact bodyPost_ret (v := .tuple #[.agg #[.int .i64 0, .int .i64 0], .int .i64 1]) (by simp [results, Tryz.results16, go_sem, r0, r1, q0]) rfl
  ⟨rfl, hw0.grown (fq _ _ _ _) hw0.size (fun k hk => by injection hk with hk; omega)⟩
set_option maxHeartbeats 16000000 in
theorem aty (n d g : Int) (w : World) (hT : rz w) (ok : Wd.nu n d) (hg : g < 1) :
  Calls Tryz.prog 16 #[.agg #[.int .i64 n, .int .i64 d], .int .i64 g] w fun e w' => Bz w (⟨0, 0, 1⟩) e w' := by
 have HV := hide (fun W (hW : Below w.heap.size w W) => Ah n d W (hT.below hW))
 rw [show Cz n d = 0 from if_pos ok] at HV
 have dk1 : decide (g < 1) = true := decide_eq_true om
 have dk2 : decide (1000000 < g) = false := decide_eq_false om
 clear ok hT hg
 go_enter Tryz.func16, Tryz.ntmps16
 go_upto_region 1 with fail
 obtain ⟨np, n0, hsz, hw0⟩ := jm w (.cells #[.int .i64 n, .int .i64 d] 23) (.cells #[.int .i64 0, .int .i64 0] 23)
 generalize ((w.alloc (.cells #[.int .i64 n, .int .i64 d] 23)).alloc (.cells #[.int .i64 0, .int .i64 0] 23)) = W0 at *
 have p0 : W0.cell? ⟨w.heap.size, 0, none⟩ = some (.int .i64 n) := ag np 0
 have p1 : W0.cell? ⟨w.heap.size, 1, none⟩ = some (.int .i64 d) := ag np 1
 have r0 : W0.cell? ⟨w.heap.size + 1, 0, none⟩ = some (.int .i64 0) := ag n0 0
 have r1 : W0.cell? ⟨w.heap.size + 1, 1, none⟩ = some (.int .i64 0) := ag n0 1
 have f0 := ah n0 0; have f1 := ah n0 1
 have qp := lt_of_block np
 have q0 := lt_of_block n0
 clear np n0 hsz
 go_wp2_with fail
 refine ((aa HV) _ (by first | exact hw0 | exact hw0.drew)).mono ?_
 rintro e W1 ⟨rfl, hb⟩
 obtain ⟨hc, hfz⟩ := az hb
 replace p0 := (hc _ _ qp).trans p0
 replace p1 := (hc _ _ qp).trans p1
 replace r0 := (hc _ _ q0).trans r0
 replace r1 := (hc _ _ q0).trans r1
 replace f0 := (hfz _ _ q0).trans f0
 replace f1 := (hfz _ _ q0).trans f1
 replace qp := Nat.lt_of_lt_of_le qp hb.size
 replace q0 := Nat.lt_of_lt_of_le q0 hb.size
 replace hw0 := au hw0 hb
 clear hc hfz
 clear hb
 go_wp2_with fail
 exact bodyPost_ret (v := .tuple #[.agg #[.int .i64 0, .int .i64 0], .int .i64 1]) (by simp [results, Tryz.results16, go_sem, r0, r1, q0]) rfl
  ⟨rfl, hw0.grown (fq _ _ _ _) hw0.size (fun k hk => by injection hk with hk; omega)⟩
set_option maxHeartbeats 16000000 in
theorem atz (n d g : Int) (w : World) (hT : rz w) (ok : Wd.nu n d) (hg : 1000000 < g) :
  Calls Tryz.prog 16 #[.agg #[.int .i64 n, .int .i64 d], .int .i64 g] w fun e w' => Bz w (⟨0, 0, 1⟩) e w' := by
 have HV := hide (fun W (hW : Below w.heap.size w W) => Ah n d W (hT.below hW))
 rw [show Cz n d = 0 from if_pos ok] at HV
 have dk1 : decide (g < 1) = false := decide_eq_false om
 have dk2 : decide (1000000 < g) = true := decide_eq_true om
 clear ok hT hg
 go_enter Tryz.func16, Tryz.ntmps16
 go_upto_region 1 with fail
 obtain ⟨np, n0, hsz, hw0⟩ := jm w (.cells #[.int .i64 n, .int .i64 d] 23) (.cells #[.int .i64 0, .int .i64 0] 23)
 generalize ((w.alloc (.cells #[.int .i64 n, .int .i64 d] 23)).alloc (.cells #[.int .i64 0, .int .i64 0] 23)) = W0 at *
 have p0 : W0.cell? ⟨w.heap.size, 0, none⟩ = some (.int .i64 n) := ag np 0
 have p1 : W0.cell? ⟨w.heap.size, 1, none⟩ = some (.int .i64 d) := ag np 1
 have r0 : W0.cell? ⟨w.heap.size + 1, 0, none⟩ = some (.int .i64 0) := ag n0 0
 have r1 : W0.cell? ⟨w.heap.size + 1, 1, none⟩ = some (.int .i64 0) := ag n0 1
 have f0 := ah n0 0; have f1 := ah n0 1
 have qp := lt_of_block np
 have q0 := lt_of_block n0
 clear np n0 hsz
 go_wp2_with fail
 refine ((aa HV) _ (by first | exact hw0 | exact hw0.drew)).mono ?_
 rintro e W1 ⟨rfl, hb⟩
 obtain ⟨hc, hfz⟩ := az hb
 replace p0 := (hc _ _ qp).trans p0
 replace p1 := (hc _ _ qp).trans p1
 replace r0 := (hc _ _ q0).trans r0
 replace r1 := (hc _ _ q0).trans r1
 replace f0 := (hfz _ _ q0).trans f0
 replace f1 := (hfz _ _ q0).trans f1
 replace qp := Nat.lt_of_lt_of_le qp hb.size
 replace q0 := Nat.lt_of_lt_of_le q0 hb.size
 replace hw0 := au hw0 hb
 clear hc hfz
 clear hb
 go_wp2_with fail
 exact bodyPost_ret (v := .tuple #[.agg #[.int .i64 0, .int .i64 0], .int .i64 1]) (by simp [results, Tryz.results16, go_sem, r0, r1, q0]) rfl
  ⟨rfl, hw0.grown (fq _ _ _ _) hw0.size (fun k hk => by injection hk with hk; omega)⟩
theorem aqc (n g d : Int) (w : World) (hp : -1000000000000000000 ≤ n * g ∧ n * g ≤ 1000000000000000000) (hd : 1 ≤ d) (hd2 : d ≤ 1000000000000) : Calls Tryz.prog 55 #[.int .i64 (n * g), .int .i64 d] w fun e w' => e = .returned (.int .i64 (n * g / d)) ∧ w' = w :=
 Ou (n * g) d w om om om om
set_option maxHeartbeats 16000000 in
theorem atx (n d g : Int) (w : World) (hT : rz w) (ok : Wd.nu n d) (g1 : 1 ≤ g) (g2 : g ≤ 1000000) :
  Calls Tryz.prog 16 #[.agg #[.int .i64 n, .int .i64 d], .int .i64 g] w fun e w' => Bz w (mkE (Fa n d g) g) e w' := by
 have HV := hide (fun W (hW : Below w.heap.size w W) => Ah n d W (hT.below hW))
 rw [show Cz n d = 0 from if_pos ok] at HV
 have dk1 : decide (g < 1) = false := decide_eq_false om
 have dk2 : decide (1000000 < g) = false := decide_eq_false om
 have hpb := aeq ok g1 g2
 have hd1 : 1 ≤ d := ok.1
 have hd2 : d ≤ 1000000000000 := ok.2.1
 obtain ⟨q1, q2, q3, q4⟩ := aam hd1 hpb
 have HFD := hide (fun W => aqc n g d W hpb hd1 hd2)
 have HMK := hide (fun k (h1 : -1000000000000000001 ≤ k) (h2 : k ≤ 1000000000000000001) W (hW : Below w.heap.size w W) => aiy k g W (hT.below hW) om om om om)
 unfold Fa
 obtain ⟨p, hp⟩ : ∃ z, z = n * g := ⟨_, rfl⟩
 rw [← hp] at hpb q1 q2 q3 q4 HFD ⊢
 obtain ⟨q, hq⟩ : ∃ z, z = p / d := ⟨_, rfl⟩
 rw [← hq] at q1 q2 q3 q4 HFD ⊢
 obtain ⟨s, hs⟩ : ∃ z, z = q * d := ⟨_, rfl⟩
 rw [← hs] at q3 q4 ⊢
 obtain ⟨a, ha⟩ : ∃ z, z = 2 * (p - s) := ⟨_, rfl⟩
 rw [← ha]
 have B1 : -9223372036854775808 ≤ p ∧ p ≤ 9223372036854775807 := by omega
 have B2 : -9223372036854775808 ≤ s ∧ s ≤ 9223372036854775807 := by omega
 have B3 : -9223372036854775808 ≤ p - s ∧ p - s ≤ 9223372036854775807 := by omega
 have B4 : -9223372036854775808 ≤ a ∧ a ≤ 9223372036854775807 := by omega
 have B5 : -9223372036854775808 ≤ q + 1 ∧ q + 1 ≤ 9223372036854775807 := by omega
 obtain ⟨r, hr⟩ : ∃ r, r = (if d < a ∨ (d = a ∧ ¬ q.tmod 2 = 0) then q + 1 else q) := ⟨_, rfl⟩
 rw [← hr]
 have hcase : ((d < a ∧ r = q + 1) ∨ (¬ d < a ∧ ¬ a = d ∧ r = q) ∨ (¬ d < a ∧ a = d ∧ q.tmod 2 = 0 ∧ r = q) ∨ (¬ d < a ∧ a = d ∧ ¬ q.tmod 2 = 0 ∧ r = q + 1)) := by
  by_cases c1 : d < a
  ·
   exact .inl ⟨c1, by rw [hr, if_pos (.inl c1)]⟩
  by_cases c2 : a = d
  ·
   by_cases c3 : q.tmod 2 = 0
   ·
    exact .inr (.inr (.inl ⟨c1, c2, c3, by rw [hr, if_neg (fun h => h.elim c1 (fun h => h.2 c3))]⟩))
   ·
    exact .inr (.inr (.inr ⟨c1, c2, c3, by rw [hr, if_pos (.inr ⟨c2.symm, c3⟩)]⟩))
  ·
   exact .inr (.inl ⟨c1, c2, by rw [hr, if_neg (fun h => h.elim c1 (fun h => c2 h.1.symm))]⟩)
 have abj := hide hcase
 have Tw := hide ((aa HMK) r (by rcases hcase with h | h | h | h <;> omega) (by rcases hcase with h | h | h | h <;> omega))
 obtain ⟨T, Lb⟩ : ∃ T, T = mkE r g := ⟨_, rfl⟩
 rw [← Lb] at Tw ⊢
 clear Lb
 have w1 : IntKind.i64.wrap (n * g) = p := by rw [← hp]; exact IntWalk.i64_in _ B1
 have w2 : IntKind.i64.wrap (q * d) = s := by rw [← hs]; exact IntWalk.i64_in _ B2
 have w3 : IntKind.i64.wrap (p - s) = p - s := IntWalk.i64_in _ B3
 have w4 : IntKind.i64.wrap (2 * (p - s)) = a := by rw [← ha]; exact IntWalk.i64_in _ B4
 have w5 : IntKind.i64.wrap (q + 1) = q + 1 := IntWalk.i64_in _ B5
 have v1 : wrap64 (n * g) = p := by rw [← hp]; exact IntWalk.wrap64_in _ B1
 have v2 : wrap64 (q * d) = s := by rw [← hs]; exact IntWalk.wrap64_in _ B2
 have v3 : wrap64 (p - s) = p - s := IntWalk.wrap64_in _ B3
 have v4 : wrap64 (2 * (p - s)) = a := by rw [← ha]; exact IntWalk.wrap64_in _ B4
 have v5 : wrap64 (q + 1) = q + 1 := IntWalk.wrap64_in _ B5
 clear B1 B2 B3 B4 B5
 clear ok hT g1 g2 hpb hd1 hd2 q1 q2 q3 q4 hp hq hs ha hr hcase HMK
 go_enter Tryz.func16, Tryz.ntmps16
 go_upto_region 1 with fail
 obtain ⟨np, n0, hsz, hw0⟩ := jm w (.cells #[.int .i64 n, .int .i64 d] 23) (.cells #[.int .i64 0, .int .i64 0] 23)
 generalize ((w.alloc (.cells #[.int .i64 n, .int .i64 d] 23)).alloc (.cells #[.int .i64 0, .int .i64 0] 23)) = W0 at *
 have p0 : W0.cell? ⟨w.heap.size, 0, none⟩ = some (.int .i64 n) := ag np 0
 have p1 : W0.cell? ⟨w.heap.size, 1, none⟩ = some (.int .i64 d) := ag np 1
 have r0 : W0.cell? ⟨w.heap.size + 1, 0, none⟩ = some (.int .i64 0) := ag n0 0
 have r1 : W0.cell? ⟨w.heap.size + 1, 1, none⟩ = some (.int .i64 0) := ag n0 1
 have f0 := ah n0 0; have f1 := ah n0 1
 have qp := lt_of_block np
 have q0 := lt_of_block n0
 clear np n0 hsz
 go_wp2_with fail
 refine ((aa HV) _ (by first | exact hw0 | exact hw0.drew)).mono ?_
 rintro e W1 ⟨rfl, hb⟩
 obtain ⟨hc, hfz⟩ := az hb
 replace p0 := (hc _ _ qp).trans p0
 replace p1 := (hc _ _ qp).trans p1
 replace r0 := (hc _ _ q0).trans r0
 replace r1 := (hc _ _ q0).trans r1
 replace f0 := (hfz _ _ q0).trans f0
 replace f1 := (hfz _ _ q0).trans f1
 replace qp := Nat.lt_of_lt_of_le qp hb.size
 replace q0 := Nat.lt_of_lt_of_le q0 hb.size
 replace hw0 := au hw0 hb
 clear hc hfz
 clear hb
 go_wp2_with fail
 refine ((aa HFD) _).mono ?_
 rintro e W2 ⟨rfl, Em⟩
 replace Em := Em.symm
 subst Em
 rcases aa abj with ⟨c1, hr⟩ | ⟨c1, c2, hr⟩ | ⟨c1, c2, c3, hr⟩ | ⟨c1, c2, c3, hr⟩
 ·
  clear abj
  rw [hr] at Tw
  have x1 : decide (d < a) = true := decide_eq_true c1
  clear c1 hr
  go_wp2_with fail
  clear w1 w2 w3 w4 w5 v1 v2 v3 v4 v5
  refine ((aa Tw) _ (by first | exact hw0 | exact hw0.drew)).mono ?_
  rintro e W5 ⟨rfl, hb⟩
  obtain ⟨hc, hfz⟩ := az hb
  replace p0 := (hc _ _ qp).trans p0
  replace p1 := (hc _ _ qp).trans p1
  replace r0 := (hc _ _ q0).trans r0
  replace r1 := (hc _ _ q0).trans r1
  replace f0 := (hfz _ _ q0).trans f0
  replace f1 := (hfz _ _ q0).trans f1
  replace qp := Nat.lt_of_lt_of_le qp hb.size
  replace q0 := Nat.lt_of_lt_of_le q0 hb.size
  replace hw0 := au hw0 hb
  clear hc hfz
  clear hb
  go_wp2_with fail
  exact bodyPost_ret (v := .tuple #[.agg #[.int .i64 T.n, .int .i64 T.d], .int .i64 T.e]) (by simp [results, Tryz.results16, go_sem, r0, r1, q0]) rfl
   ⟨rfl, hw0.grown (fq _ _ _ _) hw0.size (fun k hk => by injection hk with hk; omega)⟩
 ·
  clear abj
  rw [hr] at Tw
  have x1 : decide (d < a) = false := decide_eq_false om
  have x2 : (a == d) = false := beq_eq_false_iff_ne.2 c2
  clear c1 c2 hr
  go_wp2_with fail
  clear w1 w2 w3 w4 w5 v1 v2 v3 v4 v5
  refine ((aa Tw) _ (by first | exact hw0 | exact hw0.drew)).mono ?_
  rintro e W5 ⟨rfl, hb⟩
  obtain ⟨hc, hfz⟩ := az hb
  replace p0 := (hc _ _ qp).trans p0
  replace p1 := (hc _ _ qp).trans p1
  replace r0 := (hc _ _ q0).trans r0
  replace r1 := (hc _ _ q0).trans r1
  replace f0 := (hfz _ _ q0).trans f0
  replace f1 := (hfz _ _ q0).trans f1
  replace qp := Nat.lt_of_lt_of_le qp hb.size
  replace q0 := Nat.lt_of_lt_of_le q0 hb.size
  replace hw0 := au hw0 hb
  clear hc hfz
  clear hb
  go_wp2_with fail
  exact bodyPost_ret (v := .tuple #[.agg #[.int .i64 T.n, .int .i64 T.d], .int .i64 T.e]) (by simp [results, Tryz.results16, go_sem, r0, r1, q0]) rfl
   ⟨rfl, hw0.grown (fq _ _ _ _) hw0.size (fun k hk => by injection hk with hk; omega)⟩
 ·
  clear abj
  rw [hr] at Tw
  have x1 : decide (d < a) = false := decide_eq_false om
  have x2 : (a == d) = true := by rw [c2]; exact beq_self_eq_true d
  have x3 : (q.tmod 2 == 0) = true := by rw [c3]; rfl
  clear c1 c2 c3 hr
  go_wp2_with fail
  clear w1 w2 w3 w4 w5 v1 v2 v3 v4 v5
  refine ((aa Tw) _ (by first | exact hw0 | exact hw0.drew)).mono ?_
  rintro e W5 ⟨rfl, hb⟩
  obtain ⟨hc, hfz⟩ := az hb
  replace p0 := (hc _ _ qp).trans p0
  replace p1 := (hc _ _ qp).trans p1
  replace r0 := (hc _ _ q0).trans r0
  replace r1 := (hc _ _ q0).trans r1
  replace f0 := (hfz _ _ q0).trans f0
  replace f1 := (hfz _ _ q0).trans f1
  replace qp := Nat.lt_of_lt_of_le qp hb.size
  replace q0 := Nat.lt_of_lt_of_le q0 hb.size
  replace hw0 := au hw0 hb
  clear hc hfz
  clear hb
  go_wp2_with fail
  exact bodyPost_ret (v := .tuple #[.agg #[.int .i64 T.n, .int .i64 T.d], .int .i64 T.e]) (by simp [results, Tryz.results16, go_sem, r0, r1, q0]) rfl
   ⟨rfl, hw0.grown (fq _ _ _ _) hw0.size (fun k hk => by injection hk with hk; omega)⟩
 ·
  clear abj
  rw [hr] at Tw
  have x1 : decide (d < a) = false := decide_eq_false om
  have x2 : (a == d) = true := by rw [c2]; exact beq_self_eq_true d
  have x3 : (q.tmod 2 == 0) = false := beq_eq_false_iff_ne.2 c3
  clear c1 c2 c3 hr
  go_wp2_with fail
  clear w1 w2 w3 w4 w5 v1 v2 v3 v4 v5
  refine ((aa Tw) _ (by first | exact hw0 | exact hw0.drew)).mono ?_
  rintro e W5 ⟨rfl, hb⟩
  obtain ⟨hc, hfz⟩ := az hb
  replace p0 := (hc _ _ qp).trans p0
  replace p1 := (hc _ _ qp).trans p1
  replace r0 := (hc _ _ q0).trans r0
  replace r1 := (hc _ _ q0).trans r1
  replace f0 := (hfz _ _ q0).trans f0
  replace f1 := (hfz _ _ q0).trans f1
  replace qp := Nat.lt_of_lt_of_le qp hb.size
  replace q0 := Nat.lt_of_lt_of_le q0 hb.size
  replace hw0 := au hw0 hb
  clear hc hfz
  clear hb
  go_wp2_with fail
  exact bodyPost_ret (v := .tuple #[.agg #[.int .i64 T.n, .int .i64 T.d], .int .i64 T.e]) (by simp [results, Tryz.results16, go_sem, r0, r1, q0]) rfl
   ⟨rfl, hw0.grown (fq _ _ _ _) hw0.size (fun k hk => by injection hk with hk; omega)⟩
theorem aon (n d g : Int) (w : World) (hT : rz w) :
  Calls Tryz.prog 16 #[.agg #[.int .i64 n, .int .i64 d], .int .i64 g] w fun e w' => Bz w (Za n d g) e w' := by
 unfold Za
 by_cases ok : Wd.nu n d
 ·
  by_cases h1 : g < 1
  ·
   rw [if_neg om]; exact aty n d g w hT ok h1
  by_cases h2 : 1000000 < g
  ·
   rw [if_neg om]; exact atz n d g w hT ok h2
  rw [if_pos ⟨ok, by omega, by omega⟩]
  exact atx n d g w hT ok om om
 ·
  rw [if_neg (fun h => ok h.1)]; exact aom n d g w hT ok

end Go.Proofs.YtpjgoogeokbaaaaGreatDoor
