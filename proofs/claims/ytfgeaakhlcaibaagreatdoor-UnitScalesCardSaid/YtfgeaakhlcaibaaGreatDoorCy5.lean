/- Texts beneath a law of layer 1. -/
import Derived.Test.YtfgeaakhlcaibaaGreatDoorCy4
import Derived.IntWalk
set_option maxRecDepth 100000
set_option maxHeartbeats 16000000
namespace Go.Proofs.YtfgeaakhlcaibaaGreatDoor
open Go.RowKit

theorem aib (z1 z2 : Int) : (if decide (lh z1 * lh z2 < 0) = true then -((z1.natAbs / z2.natAbs : Nat) : Int) else ((z1.natAbs / z2.natAbs : Nat) : Int)) = z1.tdiv z2 := by
 rcases Int.lt_trichotomy z1 0 with a | a | a <;> rcases Int.lt_trichotomy z2 0 with b | b | b
 all_goals
  first
   | (subst a; simp [lh])
   | (subst b; simp [lh])
   | skip
 all_goals
  simp only [lh, a, b, if_true, if_neg (Int.not_lt.2 (Int.le_of_lt a)), if_neg (Int.not_lt.2 (Int.le_of_lt b))]
 ·
  obtain ⟨x, hx⟩ : ∃ x : Nat, z1 = -(x : Int) := ⟨z1.natAbs, by omega⟩
  obtain ⟨y, hy⟩ : ∃ y : Nat, z2 = -(y : Int) := ⟨z2.natAbs, by omega⟩
  subst hx; subst hy
  rw [Int.natAbs_neg, Int.natAbs_neg, Int.natAbs_natCast, Int.natAbs_natCast, Int.neg_tdiv, Int.tdiv_neg, Int.neg_neg]
  simp [Int.ofNat_tdiv]
 ·
  obtain ⟨x, hx⟩ : ∃ x : Nat, z1 = -(x : Int) := ⟨z1.natAbs, by omega⟩
  obtain ⟨y, hy⟩ : ∃ y : Nat, z2 = (y : Int) := ⟨z2.natAbs, by omega⟩
  subst hx; subst hy
  rw [Int.natAbs_neg, Int.natAbs_natCast, Int.natAbs_natCast, Int.neg_tdiv]
  simp [Int.ofNat_tdiv]
 ·
  obtain ⟨x, hx⟩ : ∃ x : Nat, z1 = (x : Int) := ⟨z1.natAbs, by omega⟩
  obtain ⟨y, hy⟩ : ∃ y : Nat, z2 = -(y : Int) := ⟨z2.natAbs, by omega⟩
  subst hx; subst hy
  rw [Int.natAbs_neg, Int.natAbs_natCast, Int.natAbs_natCast, Int.tdiv_neg]
  simp [Int.ofNat_tdiv]
 ·
  obtain ⟨x, hx⟩ : ∃ x : Nat, z1 = (x : Int) := ⟨z1.natAbs, by omega⟩
  obtain ⟨y, hy⟩ : ∃ y : Nat, z2 = (y : Int) := ⟨z2.natAbs, by omega⟩
  subst hx; subst hy
  rw [Int.natAbs_natCast, Int.natAbs_natCast]
  simp [Int.ofNat_tdiv]

theorem auc (s1 : Int) (cz : Bool) (A1 : Option Addr) (c1 : Nat) (l1 : List Nat) (z1 : Int) (s2 : Int) (cu : Bool) (A2 : Option Addr) (c2 : Nat) (l2 : List Nat) (z2 : Int) (w : World)
  (h1 : fq w s1 cz A1 c1 l1 z1) (h2 : fq w s2 cu A2 c2 l2 z2) (hl1 : l1.length ≤ lim) (hl2 : l2.length ≤ lim) (hz0 : z2 ≠ 0) :
  Calls Tryz.prog 165 #[.agg #[.int .i64 s1, .bool cz, .slice A1 l1.length c1], .agg #[.int .i64 s2, .bool cu, .slice A2 l2.length c2]] w fun e w' => Bq w (z1.tdiv z2) e w' := by
 have nz := hide (fun W => qi s1 cz A1 c1 l1.length W)
 have HS2 := hide (fun W => qi s2 cu A2 c2 l2.length W)
 have hz := aib z1 z2
 have Pp : ∀ (W : World) (A5 : Option Addr) (c5 : Nat) (l5 : List Nat) (_ : Unit), ku W A5 c5 l5 z1.natAbs → l5.length ≤ lim ∧ l5.length + 1 ≤ 35184372088832 := fun _ _ _ _ _ g => h1.Ib hl1 g
 have Uk : ∀ (W : World) (A5 : Option Addr) (c5 : Nat) (l5 : List Nat) (_ : Unit), ku W A5 c5 l5 z2.natAbs → l5.length ≤ lim ∧ l5.length + 1 ≤ 35184372088832 := fun _ _ _ _ _ g => h2.Ib hl2 g
 have G1 : ∀ W0, Below w.heap.size w W0 → Hid (∀ W, Below W0.heap.size W0 W → Calls Tryz.prog 159 #[.agg #[.int .i64 s1, .bool cz, .slice A1 l1.length c1]] W fun e w' => e = .returned (.int .i64 (lh z1)) ∧ Below W.heap.size W w') := fun W0 h0 W hW => ve s1 cz A1 c1 l1 z1 W (fq.below h1 (bg h0 hW))
 have G2 : ∀ W0, Below w.heap.size w W0 → Hid (∀ W, Below W0.heap.size W0 W → Calls Tryz.prog 159 #[.agg #[.int .i64 s2, .bool cu, .slice A2 l2.length c2]] W fun e w' => e = .returned (.int .i64 (lh z2)) ∧ Below W.heap.size W w') := fun W0 h0 W hW => ve s2 cu A2 c2 l2 z2 W (fq.below h2 (bg h0 hW))
 have B1 : ∀ W0, Below w.heap.size w W0 → Hid (∀ W, Below W0.heap.size W0 W → Calls Tryz.prog 191 #[.agg #[.int .i64 s1, .bool cz, .slice A1 l1.length c1]] W fun e w' => Eb W z1.natAbs e w') := fun W0 h0 W hW => Ck s1 cz A1 c1 l1 z1 W (fq.below h1 (bg h0 hW))
 have B2 : ∀ W0, Below w.heap.size w W0 → Hid (∀ W, Below W0.heap.size W0 W → Calls Tryz.prog 191 #[.agg #[.int .i64 s2, .bool cu, .slice A2 l2.length c2]] W fun e w' => Eb W z2.natAbs e w') := fun W0 h0 W hW => Ck s2 cu A2 c2 l2 z2 W (fq.below h2 (bg h0 hW))
 have ho1 : -1 ≤ lh z1 * lh z2 ∧ lh z1 * lh z2 ≤ 1 := by unfold lh; (repeat' split) <;> omega
 have hsz1 : l1.length = 0 → s1 = z1 ∧ z1.natAbs < Iq := fun h => by obtain ⟨e, _, e3⟩ := h1.zh h; exact ⟨e, e3⟩
 have hsz2 : l2.length = 0 → s2 = z2 ∧ z2.natAbs < Iq := fun h => by obtain ⟨e, _, e3⟩ := h2.zh h; exact ⟨e, e3⟩
 have amk : 0 < z2.natAbs := by omega
 by_cases hs : l1.length = 0 ∧ l2.length = 0
 ·
  obtain ⟨a1, a2⟩ := hs
  rw [decide_eq_true a1] at nz
  rw [decide_eq_true a2] at HS2
  obtain ⟨y1, y2⟩ := hsz1 a1
  obtain ⟨y3, y4⟩ := hsz2 a2
  subst y1; subst y3
  have hq : (s1.tdiv s2).natAbs < Iq := by rw [Int.natAbs_tdiv]; exact Nat.lt_of_le_of_lt (Nat.div_le_self _ _) y2
  have eq : IntKind.i64.wrap (s1.tdiv s2) = s1.tdiv s2 := IntWalk.i64_in _ (by rw [uq] at hq; omega)
  have eq' : wrap64 (s1.tdiv s2) = s1.tdiv s2 := IntWalk.wrap64_in _ (by rw [uq] at hq; omega)
  have HQ := hide hq
  have b0 : (s2 == 0) = false := beq_eq_false_iff_ne.2 hz0
  clear hz Pp Uk G1 G2 B1 B2 ho1 hsz1 hsz2 amk h1 h2 hl1 hl2 a1 a2 y2 y4 hq
  go_enter Tryz.func165, Tryz.ntmps165
  go_wp2_with fail
  obtain ⟨n1, n2, n3, hsz, hw0⟩ := oh w (.cells #[.int .i64 s1, .bool cz, .slice A1 l1.length c1] 77) (.cells #[.int .i64 s2, .bool cu, .slice A2 l2.length c2] 77) (.cells #[.int .i64 0, .bool false, .slice none 0 0] 77)
  generalize (((w.alloc (.cells #[.int .i64 s1, .bool cz, .slice A1 l1.length c1] 77)).alloc (.cells #[.int .i64 s2, .bool cu, .slice A2 l2.length c2] 77)).alloc (.cells #[.int .i64 0, .bool false, .slice none 0 0] 77)) = W0 at *
  have k1 := ag n1 0
  have k2 := ag n1 1
  have k3 := ag n1 2
  simp only [Array.getElem?_eq_getElem, jd, jc, jb] at k1 k2 k3
  have k4 := ag n2 0
  have k5 := ag n2 1
  have k6 := ag n2 2
  simp only [Array.getElem?_eq_getElem, jd, jc, jb] at k4 k5 k6
  have q0 : w.heap.size < W0.heap.size := by omega
  have q1 : w.heap.size + 1 < W0.heap.size := by omega
  have q2 : w.heap.size + 1 + 1 < W0.heap.size := by omega
  have k7 := ag n3 0
  have k8 := ag n3 1
  have k9 := ag n3 2
  simp only [Array.getElem?_eq_getElem, jd, jc, jb] at k7 k8 k9
  have f7 := ai n3 0
  have f8 := ai n3 1
  have f9 := ai n3 2
  have N3 := Lib.hid n3
  clear n3
  clear n1 n2
  refine ((aa nz) _).mono ?_
  rintro e w1 ⟨rfl, hw1⟩
  have tq := mo (w := W0) bem hw1
  obtain ⟨hc, hfz⟩ := dz tq
  clear hw1
  go_wp2_with fail
  refine ((aa HS2) _).mono ?_
  rintro e w2 ⟨rfl, hw2⟩
  have hbw2 := mo (w := W0) bem hw2
  obtain ⟨hc, hfz⟩ := dz hbw2
  clear hw2
  go_wp2_with fail
  refine bodyPost_ret (v := .agg #[.int .i64 (s1.tdiv s2), .bool false, .slice none 0 0]) (by simp [results, Tryz.results165, go_sem, hc, k7, k8, k9, q2]) rfl ⟨s1.tdiv s2, false, none, 0, [], rfl, fq.small (aa HQ), ?_⟩
  have jh : Below w.heap.size w w2 := bg hw0 hbw2
  exact jh.grown (ik _ _ _ _ _) jh.size (fun k hk => by injection hk with hk; omega)
 ·
  
  obtain ⟨m1, hm1⟩ : ∃ o, o = z1.natAbs := ⟨_, rfl⟩
  obtain ⟨m2, hm2⟩ : ∃ o, o = z2.natAbs := ⟨_, rfl⟩
  obtain ⟨o1, afx⟩ : ∃ o, o = lh z1 := ⟨_, rfl⟩
  obtain ⟨o2, afw⟩ : ∃ o, o = lh z2 := ⟨_, rfl⟩
  rw [← hm1] at B1 Pp hz
  rw [← hm2] at B2 Uk hz amk
  rw [← afx] at G1 hz ho1
  rw [← afw] at G2 hz ho1
  obtain ⟨op, hop⟩ : ∃ o, o = o1 * o2 := ⟨_, rfl⟩
  have e1 : IntKind.i64.wrap (o1 * o2) = op := by rw [hop]; exact IntWalk.i64_in _ om
  have e1' : wrap64 (o1 * o2) = op := by rw [hop]; exact IntWalk.wrap64_in _ om
  rw [← hop] at hz
  obtain ⟨ng, hng⟩ : ∃ b, b = decide (op < 0) := ⟨_, rfl⟩
  rw [← hng] at hz
  obtain ⟨Z, hZ⟩ : ∃ o, o = z1.tdiv z2 := ⟨_, rfl⟩
  rw [← hZ] at hz ⊢
  have HZ := Lib.hid hz.symm
  have Cb := hide G1; have HG2 := hide G2; have HB1 := hide B1; have HB2 := hide B2; have HLEN := hide Pp; have Dc := hide Uk
  have ngE := hng.symm
  clear hm1 hm2 afx afw ho1 hop hng hz hZ G1 G2 B1 B2 h1 h2 Pp Uk hl1 hl2 hz0
  by_cases a1 : l1.length = 0
  ·
   have a2 : ¬ l2.length = 0 := fun h => hs ⟨a1, h⟩
   rw [decide_eq_true a1] at nz
   rw [decide_eq_false a2] at HS2
   clear hsz1 hsz2 hs a1 a2
   go_enter Tryz.func165, Tryz.ntmps165
   go_wp2_with fail
   obtain ⟨n1, n2, n3, hsz, hw0⟩ := oh w (.cells #[.int .i64 s1, .bool cz, .slice A1 l1.length c1] 77) (.cells #[.int .i64 s2, .bool cu, .slice A2 l2.length c2] 77) (.cells #[.int .i64 0, .bool false, .slice none 0 0] 77)
   generalize (((w.alloc (.cells #[.int .i64 s1, .bool cz, .slice A1 l1.length c1] 77)).alloc (.cells #[.int .i64 s2, .bool cu, .slice A2 l2.length c2] 77)).alloc (.cells #[.int .i64 0, .bool false, .slice none 0 0] 77)) = W0 at *
   have k1 := ag n1 0
   have k2 := ag n1 1
   have k3 := ag n1 2
   simp only [Array.getElem?_eq_getElem, jd, jc, jb] at k1 k2 k3
   have k4 := ag n2 0
   have k5 := ag n2 1
   have k6 := ag n2 2
   simp only [Array.getElem?_eq_getElem, jd, jc, jb] at k4 k5 k6
   have q0 : w.heap.size < W0.heap.size := by omega
   have q1 : w.heap.size + 1 < W0.heap.size := by omega
   have q2 : w.heap.size + 1 + 1 < W0.heap.size := by omega
   have k7 := ag n3 0
   have k8 := ag n3 1
   have k9 := ag n3 2
   simp only [Array.getElem?_eq_getElem, jd, jc, jb] at k7 k8 k9
   have f7 := ai n3 0
   have f8 := ai n3 1
   have f9 := ai n3 2
   have N3 := Lib.hid n3
   clear n3
   clear n1 n2
   have G1 := (aa Cb) W0 hw0; have G2 := (aa HG2) W0 hw0; have B1 := (aa HB1) W0 hw0; have B2 := (aa HB2) W0 hw0
   refine ((aa nz) _).mono ?_
   rintro e w1 ⟨rfl, hw1⟩
   have tq := mo (w := W0) bem hw1
   obtain ⟨hc, hfz⟩ := dz tq
   clear hw1
   go_wp2_with fail
   refine ((aa HS2) _).mono ?_
   rintro e w2 ⟨rfl, hw2⟩
   have hbw2 := mo (w := W0) bem hw2
   obtain ⟨hc, hfz⟩ := dz hbw2
   clear hw2
   go_wp2_with fail
   go_region_with (first | (go_at_call_of 191 (Value.agg #[.int .i64 s1, .bool cz, .slice A1 l1.length c1]); refine ((aa B1) _ bem).mono ?_; rintro e w' ⟨A5, cap5, l5, rfl, xc, hb⟩; have hbw := bz (w := W0) bem hb; obtain ⟨hc, hfz⟩ := dz hbw) | (go_at_call_of 191 (Value.agg #[.int .i64 s2, .bool cu, .slice A2 l2.length c2]); refine ((aa B2) _ bem).mono ?_; rintro e w' ⟨A6, cap6, l6, rfl, mq, hb⟩; have jl := xc.below hb; have hbw := bz (w := W0) bem hb; obtain ⟨hc, hfz⟩ := dz hbw) | (go_at_call 201; refine (aaq A5 A6 cap5 cap6 l5 l6 m1 m2 _ (by exact jl) (by exact mq) amk ((aa HLEN) _ _ _ _ () jl).2 ((aa Dc) _ _ _ _ () mq).2).mono ?_; rintro e w' ⟨A7, vv, l7, A8, bnm, l8, rfl, vo, hn8, hb⟩; have hbw := bz (w := W0) bem hb; obtain ⟨hc, hfz⟩ := dz hbw))
   all_goals
    go_wp2_with fail
    go_region_with (first | (go_at_call_of 159 (Value.agg #[.int .i64 s1, .bool cz, .slice A1 l1.length c1]); refine ((aa G1) _ bem).mono ?_; rintro e w' ⟨rfl, hb⟩; have vo : ku w' A7 vv l7 (m1 / m2) := (by first | exact vo.below hb | exact ku.below (ku.drew vo) hb | exact ku.below (w := World.drew _) vo hb); have hbw := bz (w := W0) bem hb; obtain ⟨hc, hfz⟩ := dz hbw) | (go_at_call_of 159 (Value.agg #[.int .i64 s2, .bool cu, .slice A2 l2.length c2]); refine ((aa G2) _ bem).mono ?_; rintro e w' ⟨rfl, hb⟩; have vo : ku w' A7 vv l7 (m1 / m2) := (by first | exact vo.below hb | exact ku.below (ku.drew vo) hb | exact ku.below (w := World.drew _) vo hb); have hbw := bz (w := W0) bem hb; obtain ⟨hc, hfz⟩ := dz hbw) | (go_at_call 190; refine (yg ng A7 vv l7 (m1 / m2) _ (by exact vo)).mono ?_; rw [← HZ.out]; rintro e w' ⟨s, oz, A', cap', l', rfl, hf, hb⟩; have hbw := bz (w := W0) bem hb; obtain ⟨hc, hfz⟩ := dz hbw))
    all_goals
     have hblk : w'.heap[w.heap.size + 1 + 1]? = some (.cells #[.int .i64 0, .bool false, .slice none 0 0] 77 (0, 0)) := (hbw.block _ q2).trans N3.out
     have jy := Lib.hid hblk
     have jh : Below w.heap.size w w' := bg hw0 hbw
     clear hblk
     go_wp2_with fail
     exact bodyPost_ret (v := .agg #[.int .i64 s, .bool oz, .slice A' l'.length cap']) (by simp [results, Tryz.results165, go_sem, hc, k7, k8, k9, q2]) rfl
      ⟨s, oz, A', cap', l', rfl, hf.upto jy.out (si _ _ _ _ _) (ik _ _ _ _ _), jh.grown (ik _ _ _ _ _) jh.size (fun k hk => by injection hk with hk; omega)⟩
  ·
   skip
   rw [decide_eq_false a1] at nz
   clear hsz1 hsz2 hs a1
   go_enter Tryz.func165, Tryz.ntmps165
   go_wp2_with fail
   obtain ⟨n1, n2, n3, hsz, hw0⟩ := oh w (.cells #[.int .i64 s1, .bool cz, .slice A1 l1.length c1] 77) (.cells #[.int .i64 s2, .bool cu, .slice A2 l2.length c2] 77) (.cells #[.int .i64 0, .bool false, .slice none 0 0] 77)
   generalize (((w.alloc (.cells #[.int .i64 s1, .bool cz, .slice A1 l1.length c1] 77)).alloc (.cells #[.int .i64 s2, .bool cu, .slice A2 l2.length c2] 77)).alloc (.cells #[.int .i64 0, .bool false, .slice none 0 0] 77)) = W0 at *
   have k1 := ag n1 0
   have k2 := ag n1 1
   have k3 := ag n1 2
   simp only [Array.getElem?_eq_getElem, jd, jc, jb] at k1 k2 k3
   have k4 := ag n2 0
   have k5 := ag n2 1
   have k6 := ag n2 2
   simp only [Array.getElem?_eq_getElem, jd, jc, jb] at k4 k5 k6
   have q0 : w.heap.size < W0.heap.size := by omega
   have q1 : w.heap.size + 1 < W0.heap.size := by omega
   have q2 : w.heap.size + 1 + 1 < W0.heap.size := by omega
   have k7 := ag n3 0
   have k8 := ag n3 1
   have k9 := ag n3 2
   simp only [Array.getElem?_eq_getElem, jd, jc, jb] at k7 k8 k9
   have f7 := ai n3 0
   have f8 := ai n3 1
   have f9 := ai n3 2
   have N3 := Lib.hid n3
   clear n3
   clear n1 n2
   have G1 := (aa Cb) W0 hw0; have G2 := (aa HG2) W0 hw0; have B1 := (aa HB1) W0 hw0; have B2 := (aa HB2) W0 hw0
   refine ((aa nz) _).mono ?_
   rintro e w1 ⟨rfl, hw1⟩
   have tq := mo (w := W0) bem hw1
   obtain ⟨hc, hfz⟩ := dz tq
   clear hw1
   go_wp2_with fail
   go_region_with (first | (go_at_call_of 191 (Value.agg #[.int .i64 s1, .bool cz, .slice A1 l1.length c1]); refine ((aa B1) _ bem).mono ?_; rintro e w' ⟨A5, cap5, l5, rfl, xc, hb⟩; have hbw := bz (w := W0) bem hb; obtain ⟨hc, hfz⟩ := dz hbw) | (go_at_call_of 191 (Value.agg #[.int .i64 s2, .bool cu, .slice A2 l2.length c2]); refine ((aa B2) _ bem).mono ?_; rintro e w' ⟨A6, cap6, l6, rfl, mq, hb⟩; have jl := xc.below hb; have hbw := bz (w := W0) bem hb; obtain ⟨hc, hfz⟩ := dz hbw) | (go_at_call 201; refine (aaq A5 A6 cap5 cap6 l5 l6 m1 m2 _ (by exact jl) (by exact mq) amk ((aa HLEN) _ _ _ _ () jl).2 ((aa Dc) _ _ _ _ () mq).2).mono ?_; rintro e w' ⟨A7, vv, l7, A8, bnm, l8, rfl, vo, hn8, hb⟩; have hbw := bz (w := W0) bem hb; obtain ⟨hc, hfz⟩ := dz hbw))
   all_goals
    go_wp2_with fail
    go_region_with (first | (go_at_call_of 159 (Value.agg #[.int .i64 s1, .bool cz, .slice A1 l1.length c1]); refine ((aa G1) _ bem).mono ?_; rintro e w' ⟨rfl, hb⟩; have vo : ku w' A7 vv l7 (m1 / m2) := (by first | exact vo.below hb | exact ku.below (ku.drew vo) hb | exact ku.below (w := World.drew _) vo hb); have hbw := bz (w := W0) bem hb; obtain ⟨hc, hfz⟩ := dz hbw) | (go_at_call_of 159 (Value.agg #[.int .i64 s2, .bool cu, .slice A2 l2.length c2]); refine ((aa G2) _ bem).mono ?_; rintro e w' ⟨rfl, hb⟩; have vo : ku w' A7 vv l7 (m1 / m2) := (by first | exact vo.below hb | exact ku.below (ku.drew vo) hb | exact ku.below (w := World.drew _) vo hb); have hbw := bz (w := W0) bem hb; obtain ⟨hc, hfz⟩ := dz hbw) | (go_at_call 190; refine (yg ng A7 vv l7 (m1 / m2) _ (by exact vo)).mono ?_; rw [← HZ.out]; rintro e w' ⟨s, oz, A', cap', l', rfl, hf, hb⟩; have hbw := bz (w := W0) bem hb; obtain ⟨hc, hfz⟩ := dz hbw))
    all_goals
     have hblk : w'.heap[w.heap.size + 1 + 1]? = some (.cells #[.int .i64 0, .bool false, .slice none 0 0] 77 (0, 0)) := (hbw.block _ q2).trans N3.out
     have jy := Lib.hid hblk
     have jh : Below w.heap.size w w' := bg hw0 hbw
     clear hblk
     go_wp2_with fail
     exact bodyPost_ret (v := .agg #[.int .i64 s, .bool oz, .slice A' l'.length cap']) (by simp [results, Tryz.results165, go_sem, hc, k7, k8, k9, q2]) rfl
      ⟨s, oz, A', cap', l', rfl, hf.upto jy.out (si _ _ _ _ _) (ik _ _ _ _ _), jh.grown (ik _ _ _ _ _) jh.size (fun k hk => by injection hk with hk; omega)⟩


theorem amb (s1 : Int) (cz : Bool) (A1 : Option Addr) (c1 : Nat) (l1 : List Nat) (z1 : Int) (s2 : Int) (cu : Bool) (A2 : Option Addr) (c2 : Nat) (l2 : List Nat) (z2 : Int) (w : World)
  (h1 : fq w s1 cz A1 c1 l1 z1) (h2 : fq w s2 cu A2 c2 l2 z2) (hl1 : l1.length ≤ lim) (hl2 : l2.length ≤ lim) (a1 : l1.length = 0) (a2 : l2.length = 0) (hz : (z1 + z2).natAbs < Iq) :
  Calls Tryz.prog 166 #[.agg #[.int .i64 s1, .bool cz, .slice A1 l1.length c1], .agg #[.int .i64 s2, .bool cu, .slice A2 l2.length c2]] w fun e w' => Bq w (z1 + z2) e w' := by
 have nz := hide (fun W => qi s1 cz A1 c1 l1.length W)
 have HS2 := hide (fun W => qi s2 cu A2 c2 l2.length W)
 rw [decide_eq_true a1] at nz
 rw [decide_eq_true a2] at HS2
 obtain ⟨e1, en1, b1⟩ := h1.zh a1
 obtain ⟨e2, en2, b2⟩ := h2.zh a2
 clear en1 en2
 subst e1 e2
 obtain ⟨Z, hZ⟩ : ∃ o, o = s1 + s2 := ⟨_, rfl⟩
 rw [← hZ] at hz ⊢
 rw [uq] at b1 b2
 have hz' := hz
 rw [uq] at hz'
 have w1 : IntKind.i64.wrap (s1 + s2) = Z := by rw [hZ]; exact IntWalk.i64_in _ om
 have w2 : wrap64 (s1 + s2) = Z := by rw [hZ]; exact IntWalk.wrap64_in _ om
 have n1 : (Z == -9223372036854775808) = false := beq_eq_false_iff_ne.2 om
 have n2 : (Z != -9223372036854775808) = true := by simp [bne, n1]
 have HZ := hide hz
 by_cases hp : 0 < s2
 ·
  have d1 : decide (s1 < Z) = true := decide_eq_true om
  have d2 : decide (0 < s2) = true := decide_eq_true hp
  clear h1 h2 hl1 hl2 a1 a2 hz hz' hZ b1 b2 hp
  go_enter Tryz.func166, Tryz.ntmps166
  go_wp2_with fail
  obtain ⟨n1, n2, n3, hsz, hw0⟩ := oh w (.cells #[.int .i64 s1, .bool cz, .slice A1 l1.length c1] 77) (.cells #[.int .i64 s2, .bool cu, .slice A2 l2.length c2] 77) (.cells #[.int .i64 0, .bool false, .slice none 0 0] 77)
  generalize (((w.alloc (.cells #[.int .i64 s1, .bool cz, .slice A1 l1.length c1] 77)).alloc (.cells #[.int .i64 s2, .bool cu, .slice A2 l2.length c2] 77)).alloc (.cells #[.int .i64 0, .bool false, .slice none 0 0] 77)) = W0 at *
  have k1 := ag n1 0
  have k2 := ag n1 1
  have k3 := ag n1 2
  simp only [Array.getElem?_eq_getElem, jd, jc, jb] at k1 k2 k3
  have k4 := ag n2 0
  have k5 := ag n2 1
  have k6 := ag n2 2
  simp only [Array.getElem?_eq_getElem, jd, jc, jb] at k4 k5 k6
  have q0 : w.heap.size < W0.heap.size := by omega
  have q1 : w.heap.size + 1 < W0.heap.size := by omega
  have q2 : w.heap.size + 1 + 1 < W0.heap.size := by omega
  have k7 := ag n3 0
  have k8 := ag n3 1
  have k9 := ag n3 2
  simp only [Array.getElem?_eq_getElem, jd, jc, jb] at k7 k8 k9
  have f7 := ai n3 0
  have f8 := ai n3 1
  have f9 := ai n3 2
  have N3 := Lib.hid n3
  clear n3
  clear n1 n2
  refine ((aa nz) _).mono ?_
  rintro e w1 ⟨rfl, hw1⟩
  have tq := mo (w := W0) bem hw1
  obtain ⟨hc, hfz⟩ := dz tq
  clear hw1
  go_wp2_with fail
  refine ((aa HS2) _).mono ?_
  rintro e w2 ⟨rfl, hw2⟩
  have hbw2 := mo (w := W0) bem hw2
  obtain ⟨hc, hfz⟩ := dz hbw2
  clear hw2
  go_wp2_with fail
  have hbw : Below W0.heap.size W0 w2 := by (first | assumption | (repeat (first | exact Below.refl _ _ | assumption | refine Below.drew ?_ | (refine Below.alloc ?_ (by simp <;> omega) _))))
  have hblk : w2.heap[w.heap.size + 1 + 1]? = some (.cells #[.int .i64 0, .bool false, .slice none 0 0] 77 (0, 0)) := (hbw.block _ q2).trans N3.out
  have jh : Below w.heap.size w w2 := bg hw0 hbw
  exact bodyPost_ret (v := .agg #[.int .i64 Z, .bool false, .slice none 0 0]) (by simp [results, Tryz.results166, go_sem, hc, k7, k8, k9, q2]) rfl
   ⟨Z, false, none, 0, [], rfl, fq.small (aa HZ), jh.grown (ik _ _ _ _ _) jh.size (fun k hk => by injection hk with hk; omega)⟩
 ·
  have d1 : decide (s1 < Z) = false := decide_eq_false om
  have d2 : decide (0 < s2) = false := decide_eq_false hp
  clear h1 h2 hl1 hl2 a1 a2 hz hz' hZ b1 b2 hp
  go_enter Tryz.func166, Tryz.ntmps166
  go_wp2_with fail
  obtain ⟨n1, n2, n3, hsz, hw0⟩ := oh w (.cells #[.int .i64 s1, .bool cz, .slice A1 l1.length c1] 77) (.cells #[.int .i64 s2, .bool cu, .slice A2 l2.length c2] 77) (.cells #[.int .i64 0, .bool false, .slice none 0 0] 77)
  generalize (((w.alloc (.cells #[.int .i64 s1, .bool cz, .slice A1 l1.length c1] 77)).alloc (.cells #[.int .i64 s2, .bool cu, .slice A2 l2.length c2] 77)).alloc (.cells #[.int .i64 0, .bool false, .slice none 0 0] 77)) = W0 at *
  have k1 := ag n1 0
  have k2 := ag n1 1
  have k3 := ag n1 2
  simp only [Array.getElem?_eq_getElem, jd, jc, jb] at k1 k2 k3
  have k4 := ag n2 0
  have k5 := ag n2 1
  have k6 := ag n2 2
  simp only [Array.getElem?_eq_getElem, jd, jc, jb] at k4 k5 k6
  have q0 : w.heap.size < W0.heap.size := by omega
  have q1 : w.heap.size + 1 < W0.heap.size := by omega
  have q2 : w.heap.size + 1 + 1 < W0.heap.size := by omega
  have k7 := ag n3 0
  have k8 := ag n3 1
  have k9 := ag n3 2
  simp only [Array.getElem?_eq_getElem, jd, jc, jb] at k7 k8 k9
  have f7 := ai n3 0
  have f8 := ai n3 1
  have f9 := ai n3 2
  have N3 := Lib.hid n3
  clear n3
  clear n1 n2
  refine ((aa nz) _).mono ?_
  rintro e w1 ⟨rfl, hw1⟩
  have tq := mo (w := W0) bem hw1
  obtain ⟨hc, hfz⟩ := dz tq
  clear hw1
  go_wp2_with fail
  refine ((aa HS2) _).mono ?_
  rintro e w2 ⟨rfl, hw2⟩
  have hbw2 := mo (w := W0) bem hw2
  obtain ⟨hc, hfz⟩ := dz hbw2
  clear hw2
  go_wp2_with fail
  have hbw : Below W0.heap.size W0 w2 := by (first | assumption | (repeat (first | exact Below.refl _ _ | assumption | refine Below.drew ?_ | (refine Below.alloc ?_ (by simp <;> omega) _))))
  have hblk : w2.heap[w.heap.size + 1 + 1]? = some (.cells #[.int .i64 0, .bool false, .slice none 0 0] 77 (0, 0)) := (hbw.block _ q2).trans N3.out
  have jh : Below w.heap.size w w2 := bg hw0 hbw
  exact bodyPost_ret (v := .agg #[.int .i64 Z, .bool false, .slice none 0 0]) (by simp [results, Tryz.results166, go_sem, hc, k7, k8, k9, q2]) rfl
   ⟨Z, false, none, 0, [], rfl, fq.small (aa HZ), jh.grown (ik _ _ _ _ _) jh.size (fun k hk => by injection hk with hk; omega)⟩


theorem aqi (s1 : Int) (cz : Bool) (A1 : Option Addr) (c1 : Nat) (l1 : List Nat) (z1 : Int) (s2 : Int) (cu : Bool) (A2 : Option Addr) (c2 : Nat) (l2 : List Nat) (z2 : Int) (w : World)
  (h1 : fq w s1 cz A1 c1 l1 z1) (h2 : fq w s2 cu A2 c2 l2 z2) (hl1 : l1.length ≤ lim) (hl2 : l2.length ≤ lim) (a1 : l1.length = 0) (a2 : l2.length = 0) (hz : Iq ≤ (z1 + z2).natAbs) :
  Calls Tryz.prog 166 #[.agg #[.int .i64 s1, .bool cz, .slice A1 l1.length c1], .agg #[.int .i64 s2, .bool cu, .slice A2 l2.length c2]] w fun e w' => Bq w (z1 + z2) e w' := by
 have HLEN := hide (fun (W : World) (A5 : Option Addr) (c5 : Nat) (l5 : List Nat) (_ : Unit) (g : ku W A5 c5 l5 z1.natAbs) => h1.Ib hl1 g)
 have Dc := hide (fun (W : World) (A5 : Option Addr) (c5 : Nat) (l5 : List Nat) (_ : Unit) (g : ku W A5 c5 l5 z2.natAbs) => h2.Ib hl2 g)
 have G1 : ∀ W0, Below w.heap.size w W0 → Hid (∀ W, Below W0.heap.size W0 W → Calls Tryz.prog 159 #[.agg #[.int .i64 s1, .bool cz, .slice A1 l1.length c1]] W fun e w' => e = .returned (.int .i64 (lh z1)) ∧ Below W.heap.size W w') := fun W0 h0 W hW => ve s1 cz A1 c1 l1 z1 W (fq.below h1 (bg h0 hW))
 have G2 : ∀ W0, Below w.heap.size w W0 → Hid (∀ W, Below W0.heap.size W0 W → Calls Tryz.prog 159 #[.agg #[.int .i64 s2, .bool cu, .slice A2 l2.length c2]] W fun e w' => e = .returned (.int .i64 (lh z2)) ∧ Below W.heap.size W w') := fun W0 h0 W hW => ve s2 cu A2 c2 l2 z2 W (fq.below h2 (bg h0 hW))
 have B1 : ∀ W0, Below w.heap.size w W0 → Hid (∀ W, Below W0.heap.size W0 W → Calls Tryz.prog 191 #[.agg #[.int .i64 s1, .bool cz, .slice A1 l1.length c1]] W fun e w' => Eb W z1.natAbs e w') := fun W0 h0 W hW => Ck s1 cz A1 c1 l1 z1 W (fq.below h1 (bg h0 hW))
 have B2 : ∀ W0, Below w.heap.size w W0 → Hid (∀ W, Below W0.heap.size W0 W → Calls Tryz.prog 191 #[.agg #[.int .i64 s2, .bool cu, .slice A2 l2.length c2]] W fun e w' => Eb W z2.natAbs e w') := fun W0 h0 W hW => Ck s2 cu A2 c2 l2 z2 W (fq.below h2 (bg h0 hW))
 obtain ⟨m1, hm1⟩ : ∃ o, o = z1.natAbs := ⟨_, rfl⟩
 obtain ⟨m2, hm2⟩ : ∃ o, o = z2.natAbs := ⟨_, rfl⟩
 obtain ⟨o1, ho1⟩ : ∃ o, o = lh z1 := ⟨_, rfl⟩
 obtain ⟨o2, ho2⟩ : ∃ o, o = lh z2 := ⟨_, rfl⟩
 obtain ⟨Z, hZ⟩ : ∃ o, o = z1 + z2 := ⟨_, rfl⟩
 have hs1 : (o1 < 0) ↔ z1 < 0 := by rw [ho1]; exact Ht z1
 have hs2 : (o2 < 0) ↔ z2 < 0 := by rw [ho2]; exact Ht z2
 have nz := hide (fun W => qi s1 cz A1 c1 l1.length W)
 have HS2 := hide (fun W => qi s2 cu A2 c2 l2.length W)
 rw [← ho1] at G1
 rw [← ho2] at G2
 rw [← hm1] at B1 HLEN
 rw [← hm2] at B2 Dc
 rw [← hZ]
 have Cb := hide G1; have HG2 := hide G2; have HB1 := hide B1; have HB2 := hide B2
 clear G1 G2 B1 B2
 rw [decide_eq_true a1] at nz
 rw [decide_eq_true a2] at HS2
 obtain ⟨e1, en1, b1⟩ := h1.zh a1
 obtain ⟨e2, en2, b2⟩ := h2.zh a2
 clear en1 en2
 subst e1 e2
 rw [uq] at b1 b2 hz
 obtain ⟨T, hT⟩ : ∃ o, o = wrap64 (s1 + s2) := ⟨_, rfl⟩
 have w2 : wrap64 (s1 + s2) = T := hT.symm
 have w1 : IntKind.i64.wrap (s1 + s2) = T := by rw [hT]; exact IntWalk.i64_left _
 have hT2 : T = (s1 + s2 + 9223372036854775808) % 18446744073709551616 - 9223372036854775808 := by rw [hT, ← IntWalk.i64_left]; exact IntKind.wrap_i64 _
 by_cases hp : 0 < s2
 ·
  have d1 : decide (s1 < T) = false := decide_eq_false (by rw [hT2]; omega)
  have d2 : decide (0 < s2) = true := decide_eq_true hp
  have D1 : decide (o1 < 0) = false := decide_eq_false (by rw [hs1]; omega)
  have D2 : decide (o2 < 0) = false := decide_eq_false (by rw [hs2]; omega)
  have La := hide (fun (W : World) (A : Option Addr) (c : Nat) (l : List Nat) (g : ku W A c l (m1 + m2)) => (show Calls Tryz.prog 190 #[.bool (false), .slice A l.length c] W fun e w' => Bq W Z e w' by
   have := yg (false) A c l (m1 + m2) W g
   rw [show (if (false) = true then -(((m1 + m2) : Nat) : Int) else (((m1 + m2) : Nat) : Int)) = Z by rw [if_neg Bool.false_ne_true, hZ, hm1, hm2]; omega] at this
   exact this))
  clear h1 h2 hl1 hl2 a1 a2 hz hZ b1 b2 hp hm1 hm2 ho1 ho2 hs1 hs2 hT hT2
  go_enter Tryz.func166, Tryz.ntmps166
  go_wp2_with fail
  obtain ⟨n1, n2, n3, hsz, hw0⟩ := oh w (.cells #[.int .i64 s1, .bool cz, .slice A1 l1.length c1] 77) (.cells #[.int .i64 s2, .bool cu, .slice A2 l2.length c2] 77) (.cells #[.int .i64 0, .bool false, .slice none 0 0] 77)
  generalize (((w.alloc (.cells #[.int .i64 s1, .bool cz, .slice A1 l1.length c1] 77)).alloc (.cells #[.int .i64 s2, .bool cu, .slice A2 l2.length c2] 77)).alloc (.cells #[.int .i64 0, .bool false, .slice none 0 0] 77)) = W0 at *
  have k1 := ag n1 0
  have k2 := ag n1 1
  have k3 := ag n1 2
  simp only [Array.getElem?_eq_getElem, jd, jc, jb] at k1 k2 k3
  have k4 := ag n2 0
  have k5 := ag n2 1
  have k6 := ag n2 2
  simp only [Array.getElem?_eq_getElem, jd, jc, jb] at k4 k5 k6
  have q0 : w.heap.size < W0.heap.size := by omega
  have q1 : w.heap.size + 1 < W0.heap.size := by omega
  have q2 : w.heap.size + 1 + 1 < W0.heap.size := by omega
  have k7 := ag n3 0
  have k8 := ag n3 1
  have k9 := ag n3 2
  simp only [Array.getElem?_eq_getElem, jd, jc, jb] at k7 k8 k9
  have f7 := ai n3 0
  have f8 := ai n3 1
  have f9 := ai n3 2
  have N3 := Lib.hid n3
  clear n3
  clear n1 n2
  refine ((aa nz) _).mono ?_
  rintro e w1 ⟨rfl, hw1⟩
  have tq := mo (w := W0) bem hw1
  obtain ⟨hc, hfz⟩ := dz tq
  clear hw1
  go_wp2_with fail
  refine ((aa HS2) _).mono ?_
  rintro e w2 ⟨rfl, hw2⟩
  have hbw2 := mo (w := W0) bem hw2
  obtain ⟨hc, hfz⟩ := dz hbw2
  clear hw2
  go_wp2_with fail
  have B1 := (aa HB1) W0 hw0; have B2 := (aa HB2) W0 hw0; have G1 := (aa Cb) W0 hw0; have G2 := (aa HG2) W0 hw0
  go_region_held3 (fun w' => w'.cell? ⟨w.heap.size, 0, none⟩ = some (.int .i64 s1) ∧ w'.cell? ⟨w.heap.size, 1, none⟩ = some (.bool cz) ∧ w'.cell? ⟨w.heap.size, 2, none⟩ = some (.slice A1 l1.length c1) ∧ w'.cell? ⟨w.heap.size + 1, 0, none⟩ = some (.int .i64 s2) ∧ w'.cell? ⟨w.heap.size + 1, 1, none⟩ = some (.bool cu) ∧ w'.cell? ⟨w.heap.size + 1, 2, none⟩ = some (.slice A2 l2.length c2)) ((first | with_reducible exact ⟨(hc _ _ q0).trans k1, (hc _ _ q0).trans k2, (hc _ _ q0).trans k3, (hc _ _ q1).trans k4, (hc _ _ q1).trans k5, (hc _ _ q1).trans k6⟩ | with_reducible exact ⟨k1, k2, k3, k4, k5, k6⟩ | with_reducible exact ⟨(gu _ _ _ _ _ om).trans ((hc _ _ q0).trans k1), (gu _ _ _ _ _ om).trans ((hc _ _ q0).trans k2), (gu _ _ _ _ _ om).trans ((hc _ _ q0).trans k3), (gu _ _ _ _ _ om).trans ((hc _ _ q1).trans k4), (gu _ _ _ _ _ om).trans ((hc _ _ q1).trans k5), (gu _ _ _ _ _ om).trans ((hc _ _ q1).trans k6)⟩ | exact ⟨(hc _ _ q0).trans k1, (hc _ _ q0).trans k2, (hc _ _ q0).trans k3, (hc _ _ q1).trans k4, (hc _ _ q1).trans k5, (hc _ _ q1).trans k6⟩ | exact ⟨k1, k2, k3, k4, k5, k6⟩)) (first | (go_at_call_of 191 (Value.agg #[.int .i64 s1, .bool cz, .slice A1 l1.length c1]); refine ((aa B1) _ bem).mono ?_; rintro e w' ⟨A5, cap5, l5, rfl, xc, hb⟩; have hbw := bz (w := W0) bem hb; obtain ⟨hc, hfz⟩ := dz hbw) | (go_at_call_of 191 (Value.agg #[.int .i64 s2, .bool cu, .slice A2 l2.length c2]); refine ((aa B2) _ bem).mono ?_; rintro e w' ⟨A6, cap6, l6, rfl, mq, hb⟩; have jl := xc.below hb; have hbw := bz (w := W0) bem hb; obtain ⟨hc, hfz⟩ := dz hbw))
  go_wp2_with fail
  refine ((aa G1) _ bem).mono ?_
  rintro e w6 ⟨rfl, hb⟩
  replace jl := jl.below hb
  replace mq := mq.below hb
  have hbw := bz (w := W0) bem hb
  obtain ⟨hc, hfz⟩ := dz hbw
  go_wp2_with fail
  refine ((aa G2) _ bem).mono ?_
  rintro e w7 ⟨rfl, hb⟩
  replace jl := jl.below hb
  replace mq := mq.below hb
  have hbw := bz (w := W0) bem hb
  obtain ⟨hc, hfz⟩ := dz hbw
  go_wp2_with fail
  refine (Pn A5 A6 cap5 cap6 l5 l6 m1 m2 _ (by exact jl) (by exact mq) ((aa HLEN) _ _ _ _ () jl).1 ((aa Dc) _ _ _ _ () mq).1).mono ?_
  rintro e w8 ⟨A7, vv, l7, rfl, vo, hb⟩
  have hbw := bz (w := W0) bem hb
  obtain ⟨hc, hfz⟩ := dz hbw
  go_wp2_with fail
  refine ((aa La) _ A7 vv l7 vo).mono ?_
  rintro e w' ⟨s, oz, A', cap', l', rfl, hf, hb⟩
  have hbw := bz (w := W0) bem hb
  obtain ⟨hc, hfz⟩ := dz hbw
  have hblk : w'.heap[w.heap.size + 1 + 1]? = some (.cells #[.int .i64 0, .bool false, .slice none 0 0] 77 (0, 0)) := (hbw.block _ q2).trans N3.out
  have jy := Lib.hid hblk
  have jh : Below w.heap.size w w' := bg hw0 hbw
  clear hblk
  go_wp2_with fail
  exact bodyPost_ret (v := .agg #[.int .i64 s, .bool oz, .slice A' l'.length cap']) (by simp [results, Tryz.results166, go_sem, hc, k7, k8, k9, q2]) rfl
   ⟨s, oz, A', cap', l', rfl, hf.upto jy.out (si _ _ _ _ _) (ik _ _ _ _ _), jh.grown (ik _ _ _ _ _) jh.size (fun k hk => by injection hk with hk; omega)⟩
 ·
  have d2 : decide (0 < s2) = false := decide_eq_false hp
  have D1 : decide (o1 < 0) = true := decide_eq_true (by rw [hs1]; omega)
  have D2 : decide (o2 < 0) = true := decide_eq_true (by rw [hs2]; omega)
  have La := hide (fun (W : World) (A : Option Addr) (c : Nat) (l : List Nat) (g : ku W A c l (m1 + m2)) => (show Calls Tryz.prog 190 #[.bool (true), .slice A l.length c] W fun e w' => Bq W Z e w' by
   have := yg (true) A c l (m1 + m2) W g
   rw [show (if (true) = true then -(((m1 + m2) : Nat) : Int) else (((m1 + m2) : Nat) : Int)) = Z by rw [if_pos rfl, hZ, hm1, hm2]; omega] at this
   exact this))
  by_cases hq : s1 < T
  ·
   have d1 : decide (s1 < T) = true := decide_eq_true hq
   clear h1 h2 hl1 hl2 a1 a2 hz hZ b1 b2 hp hq hm1 hm2 ho1 ho2 hs1 hs2 hT hT2
   go_enter Tryz.func166, Tryz.ntmps166
   go_wp2_with fail
   obtain ⟨n1, n2, n3, hsz, hw0⟩ := oh w (.cells #[.int .i64 s1, .bool cz, .slice A1 l1.length c1] 77) (.cells #[.int .i64 s2, .bool cu, .slice A2 l2.length c2] 77) (.cells #[.int .i64 0, .bool false, .slice none 0 0] 77)
   generalize (((w.alloc (.cells #[.int .i64 s1, .bool cz, .slice A1 l1.length c1] 77)).alloc (.cells #[.int .i64 s2, .bool cu, .slice A2 l2.length c2] 77)).alloc (.cells #[.int .i64 0, .bool false, .slice none 0 0] 77)) = W0 at *
   have k1 := ag n1 0
   have k2 := ag n1 1
   have k3 := ag n1 2
   simp only [Array.getElem?_eq_getElem, jd, jc, jb] at k1 k2 k3
   have k4 := ag n2 0
   have k5 := ag n2 1
   have k6 := ag n2 2
   simp only [Array.getElem?_eq_getElem, jd, jc, jb] at k4 k5 k6
   have q0 : w.heap.size < W0.heap.size := by omega
   have q1 : w.heap.size + 1 < W0.heap.size := by omega
   have q2 : w.heap.size + 1 + 1 < W0.heap.size := by omega
   have k7 := ag n3 0
   have k8 := ag n3 1
   have k9 := ag n3 2
   simp only [Array.getElem?_eq_getElem, jd, jc, jb] at k7 k8 k9
   have f7 := ai n3 0
   have f8 := ai n3 1
   have f9 := ai n3 2
   have N3 := Lib.hid n3
   clear n3
   clear n1 n2
   refine ((aa nz) _).mono ?_
   rintro e w1 ⟨rfl, hw1⟩
   have tq := mo (w := W0) bem hw1
   obtain ⟨hc, hfz⟩ := dz tq
   clear hw1
   go_wp2_with fail
   refine ((aa HS2) _).mono ?_
   rintro e w2 ⟨rfl, hw2⟩
   have hbw2 := mo (w := W0) bem hw2
   obtain ⟨hc, hfz⟩ := dz hbw2
   clear hw2
   go_wp2_with fail
   have B1 := (aa HB1) W0 hw0; have B2 := (aa HB2) W0 hw0; have G1 := (aa Cb) W0 hw0; have G2 := (aa HG2) W0 hw0
   go_region_held3 (fun w' => w'.cell? ⟨w.heap.size, 0, none⟩ = some (.int .i64 s1) ∧ w'.cell? ⟨w.heap.size, 1, none⟩ = some (.bool cz) ∧ w'.cell? ⟨w.heap.size, 2, none⟩ = some (.slice A1 l1.length c1) ∧ w'.cell? ⟨w.heap.size + 1, 0, none⟩ = some (.int .i64 s2) ∧ w'.cell? ⟨w.heap.size + 1, 1, none⟩ = some (.bool cu) ∧ w'.cell? ⟨w.heap.size + 1, 2, none⟩ = some (.slice A2 l2.length c2)) ((first | with_reducible exact ⟨(hc _ _ q0).trans k1, (hc _ _ q0).trans k2, (hc _ _ q0).trans k3, (hc _ _ q1).trans k4, (hc _ _ q1).trans k5, (hc _ _ q1).trans k6⟩ | with_reducible exact ⟨k1, k2, k3, k4, k5, k6⟩ | with_reducible exact ⟨(gu _ _ _ _ _ om).trans ((hc _ _ q0).trans k1), (gu _ _ _ _ _ om).trans ((hc _ _ q0).trans k2), (gu _ _ _ _ _ om).trans ((hc _ _ q0).trans k3), (gu _ _ _ _ _ om).trans ((hc _ _ q1).trans k4), (gu _ _ _ _ _ om).trans ((hc _ _ q1).trans k5), (gu _ _ _ _ _ om).trans ((hc _ _ q1).trans k6)⟩ | exact ⟨(hc _ _ q0).trans k1, (hc _ _ q0).trans k2, (hc _ _ q0).trans k3, (hc _ _ q1).trans k4, (hc _ _ q1).trans k5, (hc _ _ q1).trans k6⟩ | exact ⟨k1, k2, k3, k4, k5, k6⟩)) (first | (go_at_call_of 191 (Value.agg #[.int .i64 s1, .bool cz, .slice A1 l1.length c1]); refine ((aa B1) _ bem).mono ?_; rintro e w' ⟨A5, cap5, l5, rfl, xc, hb⟩; have hbw := bz (w := W0) bem hb; obtain ⟨hc, hfz⟩ := dz hbw) | (go_at_call_of 191 (Value.agg #[.int .i64 s2, .bool cu, .slice A2 l2.length c2]); refine ((aa B2) _ bem).mono ?_; rintro e w' ⟨A6, cap6, l6, rfl, mq, hb⟩; have jl := xc.below hb; have hbw := bz (w := W0) bem hb; obtain ⟨hc, hfz⟩ := dz hbw))
   go_wp2_with fail
   refine ((aa G1) _ bem).mono ?_
   rintro e w6 ⟨rfl, hb⟩
   replace jl := jl.below hb
   replace mq := mq.below hb
   have hbw := bz (w := W0) bem hb
   obtain ⟨hc, hfz⟩ := dz hbw
   go_wp2_with fail
   refine ((aa G2) _ bem).mono ?_
   rintro e w7 ⟨rfl, hb⟩
   replace jl := jl.below hb
   replace mq := mq.below hb
   have hbw := bz (w := W0) bem hb
   obtain ⟨hc, hfz⟩ := dz hbw
   go_wp2_with fail
   refine (Pn A5 A6 cap5 cap6 l5 l6 m1 m2 _ (by exact jl) (by exact mq) ((aa HLEN) _ _ _ _ () jl).1 ((aa Dc) _ _ _ _ () mq).1).mono ?_
   rintro e w8 ⟨A7, vv, l7, rfl, vo, hb⟩
   have hbw := bz (w := W0) bem hb
   obtain ⟨hc, hfz⟩ := dz hbw
   go_wp2_with fail
   refine ((aa La) _ A7 vv l7 vo).mono ?_
   rintro e w' ⟨s, oz, A', cap', l', rfl, hf, hb⟩
   have hbw := bz (w := W0) bem hb
   obtain ⟨hc, hfz⟩ := dz hbw
   have hblk : w'.heap[w.heap.size + 1 + 1]? = some (.cells #[.int .i64 0, .bool false, .slice none 0 0] 77 (0, 0)) := (hbw.block _ q2).trans N3.out
   have jy := Lib.hid hblk
   have jh : Below w.heap.size w w' := bg hw0 hbw
   clear hblk
   go_wp2_with fail
   exact bodyPost_ret (v := .agg #[.int .i64 s, .bool oz, .slice A' l'.length cap']) (by simp [results, Tryz.results166, go_sem, hc, k7, k8, k9, q2]) rfl
    ⟨s, oz, A', cap', l', rfl, hf.upto jy.out (si _ _ _ _ _) (ik _ _ _ _ _), jh.grown (ik _ _ _ _ _) jh.size (fun k hk => by injection hk with hk; omega)⟩
  ·
   have d1 : decide (s1 < T) = false := decide_eq_false hq
   have n1 : (T == -9223372036854775808) = true := beq_iff_eq.2 (by rw [hT2] at hq ⊢; omega)
   have n2 : (T != -9223372036854775808) = false := by simp [bne, n1]
   clear h1 h2 hl1 hl2 a1 a2 hz hZ b1 b2 hp hq hm1 hm2 ho1 ho2 hs1 hs2 hT hT2
   go_enter Tryz.func166, Tryz.ntmps166
   go_wp2_with fail
   obtain ⟨n1, n2, n3, hsz, hw0⟩ := oh w (.cells #[.int .i64 s1, .bool cz, .slice A1 l1.length c1] 77) (.cells #[.int .i64 s2, .bool cu, .slice A2 l2.length c2] 77) (.cells #[.int .i64 0, .bool false, .slice none 0 0] 77)
   generalize (((w.alloc (.cells #[.int .i64 s1, .bool cz, .slice A1 l1.length c1] 77)).alloc (.cells #[.int .i64 s2, .bool cu, .slice A2 l2.length c2] 77)).alloc (.cells #[.int .i64 0, .bool false, .slice none 0 0] 77)) = W0 at *
   have k1 := ag n1 0
   have k2 := ag n1 1
   have k3 := ag n1 2
   simp only [Array.getElem?_eq_getElem, jd, jc, jb] at k1 k2 k3
   have k4 := ag n2 0
   have k5 := ag n2 1
   have k6 := ag n2 2
   simp only [Array.getElem?_eq_getElem, jd, jc, jb] at k4 k5 k6
   have q0 : w.heap.size < W0.heap.size := by omega
   have q1 : w.heap.size + 1 < W0.heap.size := by omega
   have q2 : w.heap.size + 1 + 1 < W0.heap.size := by omega
   have k7 := ag n3 0
   have k8 := ag n3 1
   have k9 := ag n3 2
   simp only [Array.getElem?_eq_getElem, jd, jc, jb] at k7 k8 k9
   have f7 := ai n3 0
   have f8 := ai n3 1
   have f9 := ai n3 2
   have N3 := Lib.hid n3
   clear n3
   clear n1 n2
   refine ((aa nz) _).mono ?_
   rintro e w1 ⟨rfl, hw1⟩
   have tq := mo (w := W0) bem hw1
   obtain ⟨hc, hfz⟩ := dz tq
   clear hw1
   go_wp2_with fail
   refine ((aa HS2) _).mono ?_
   rintro e w2 ⟨rfl, hw2⟩
   have hbw2 := mo (w := W0) bem hw2
   obtain ⟨hc, hfz⟩ := dz hbw2
   clear hw2
   go_wp2_with fail
   have B1 := (aa HB1) W0 hw0; have B2 := (aa HB2) W0 hw0; have G1 := (aa Cb) W0 hw0; have G2 := (aa HG2) W0 hw0
   go_region_held3 (fun w' => w'.cell? ⟨w.heap.size, 0, none⟩ = some (.int .i64 s1) ∧ w'.cell? ⟨w.heap.size, 1, none⟩ = some (.bool cz) ∧ w'.cell? ⟨w.heap.size, 2, none⟩ = some (.slice A1 l1.length c1) ∧ w'.cell? ⟨w.heap.size + 1, 0, none⟩ = some (.int .i64 s2) ∧ w'.cell? ⟨w.heap.size + 1, 1, none⟩ = some (.bool cu) ∧ w'.cell? ⟨w.heap.size + 1, 2, none⟩ = some (.slice A2 l2.length c2)) ((first | with_reducible exact ⟨(hc _ _ q0).trans k1, (hc _ _ q0).trans k2, (hc _ _ q0).trans k3, (hc _ _ q1).trans k4, (hc _ _ q1).trans k5, (hc _ _ q1).trans k6⟩ | with_reducible exact ⟨k1, k2, k3, k4, k5, k6⟩ | with_reducible exact ⟨(gu _ _ _ _ _ om).trans ((hc _ _ q0).trans k1), (gu _ _ _ _ _ om).trans ((hc _ _ q0).trans k2), (gu _ _ _ _ _ om).trans ((hc _ _ q0).trans k3), (gu _ _ _ _ _ om).trans ((hc _ _ q1).trans k4), (gu _ _ _ _ _ om).trans ((hc _ _ q1).trans k5), (gu _ _ _ _ _ om).trans ((hc _ _ q1).trans k6)⟩ | exact ⟨(hc _ _ q0).trans k1, (hc _ _ q0).trans k2, (hc _ _ q0).trans k3, (hc _ _ q1).trans k4, (hc _ _ q1).trans k5, (hc _ _ q1).trans k6⟩ | exact ⟨k1, k2, k3, k4, k5, k6⟩)) (first | (go_at_call_of 191 (Value.agg #[.int .i64 s1, .bool cz, .slice A1 l1.length c1]); refine ((aa B1) _ bem).mono ?_; rintro e w' ⟨A5, cap5, l5, rfl, xc, hb⟩; have hbw := bz (w := W0) bem hb; obtain ⟨hc, hfz⟩ := dz hbw) | (go_at_call_of 191 (Value.agg #[.int .i64 s2, .bool cu, .slice A2 l2.length c2]); refine ((aa B2) _ bem).mono ?_; rintro e w' ⟨A6, cap6, l6, rfl, mq, hb⟩; have jl := xc.below hb; have hbw := bz (w := W0) bem hb; obtain ⟨hc, hfz⟩ := dz hbw))
   go_wp2_with fail
   refine ((aa G1) _ bem).mono ?_
   rintro e w6 ⟨rfl, hb⟩
   replace jl := jl.below hb
   replace mq := mq.below hb
   have hbw := bz (w := W0) bem hb
   obtain ⟨hc, hfz⟩ := dz hbw
   go_wp2_with fail
   refine ((aa G2) _ bem).mono ?_
   rintro e w7 ⟨rfl, hb⟩
   replace jl := jl.below hb
   replace mq := mq.below hb
   have hbw := bz (w := W0) bem hb
   obtain ⟨hc, hfz⟩ := dz hbw
   go_wp2_with fail
   refine (Pn A5 A6 cap5 cap6 l5 l6 m1 m2 _ (by exact jl) (by exact mq) ((aa HLEN) _ _ _ _ () jl).1 ((aa Dc) _ _ _ _ () mq).1).mono ?_
   rintro e w8 ⟨A7, vv, l7, rfl, vo, hb⟩
   have hbw := bz (w := W0) bem hb
   obtain ⟨hc, hfz⟩ := dz hbw
   go_wp2_with fail
   refine ((aa La) _ A7 vv l7 vo).mono ?_
   rintro e w' ⟨s, oz, A', cap', l', rfl, hf, hb⟩
   have hbw := bz (w := W0) bem hb
   obtain ⟨hc, hfz⟩ := dz hbw
   have hblk : w'.heap[w.heap.size + 1 + 1]? = some (.cells #[.int .i64 0, .bool false, .slice none 0 0] 77 (0, 0)) := (hbw.block _ q2).trans N3.out
   have jy := Lib.hid hblk
   have jh : Below w.heap.size w w' := bg hw0 hbw
   clear hblk
   go_wp2_with fail
   exact bodyPost_ret (v := .agg #[.int .i64 s, .bool oz, .slice A' l'.length cap']) (by simp [results, Tryz.results166, go_sem, hc, k7, k8, k9, q2]) rfl
    ⟨s, oz, A', cap', l', rfl, hf.upto jy.out (si _ _ _ _ _) (ik _ _ _ _ _), jh.grown (ik _ _ _ _ _) jh.size (fun k hk => by injection hk with hk; omega)⟩


theorem aug (s1 : Int) (cz : Bool) (A1 : Option Addr) (c1 : Nat) (l1 : List Nat) (z1 : Int) (s2 : Int) (cu : Bool) (A2 : Option Addr) (c2 : Nat) (l2 : List Nat) (z2 : Int) (w : World)
  (h1 : fq w s1 cz A1 c1 l1 z1) (h2 : fq w s2 cu A2 c2 l2 z2) (hl1 : l1.length ≤ lim) (hl2 : l2.length ≤ lim) (a : ¬ (l1.length = 0 ∧ l2.length = 0)) :
  Calls Tryz.prog 166 #[.agg #[.int .i64 s1, .bool cz, .slice A1 l1.length c1], .agg #[.int .i64 s2, .bool cu, .slice A2 l2.length c2]] w fun e w' => Bq w (z1 + z2) e w' := by
 have HLEN := hide (fun (W : World) (A5 : Option Addr) (c5 : Nat) (l5 : List Nat) (_ : Unit) (g : ku W A5 c5 l5 z1.natAbs) => h1.Ib hl1 g)
 have Dc := hide (fun (W : World) (A5 : Option Addr) (c5 : Nat) (l5 : List Nat) (_ : Unit) (g : ku W A5 c5 l5 z2.natAbs) => h2.Ib hl2 g)
 have G1 : ∀ W0, Below w.heap.size w W0 → Hid (∀ W, Below W0.heap.size W0 W → Calls Tryz.prog 159 #[.agg #[.int .i64 s1, .bool cz, .slice A1 l1.length c1]] W fun e w' => e = .returned (.int .i64 (lh z1)) ∧ Below W.heap.size W w') := fun W0 h0 W hW => ve s1 cz A1 c1 l1 z1 W (fq.below h1 (bg h0 hW))
 have G2 : ∀ W0, Below w.heap.size w W0 → Hid (∀ W, Below W0.heap.size W0 W → Calls Tryz.prog 159 #[.agg #[.int .i64 s2, .bool cu, .slice A2 l2.length c2]] W fun e w' => e = .returned (.int .i64 (lh z2)) ∧ Below W.heap.size W w') := fun W0 h0 W hW => ve s2 cu A2 c2 l2 z2 W (fq.below h2 (bg h0 hW))
 have B1 : ∀ W0, Below w.heap.size w W0 → Hid (∀ W, Below W0.heap.size W0 W → Calls Tryz.prog 191 #[.agg #[.int .i64 s1, .bool cz, .slice A1 l1.length c1]] W fun e w' => Eb W z1.natAbs e w') := fun W0 h0 W hW => Ck s1 cz A1 c1 l1 z1 W (fq.below h1 (bg h0 hW))
 have B2 : ∀ W0, Below w.heap.size w W0 → Hid (∀ W, Below W0.heap.size W0 W → Calls Tryz.prog 191 #[.agg #[.int .i64 s2, .bool cu, .slice A2 l2.length c2]] W fun e w' => Eb W z2.natAbs e w') := fun W0 h0 W hW => Ck s2 cu A2 c2 l2 z2 W (fq.below h2 (bg h0 hW))
 obtain ⟨m1, hm1⟩ : ∃ o, o = z1.natAbs := ⟨_, rfl⟩
 obtain ⟨m2, hm2⟩ : ∃ o, o = z2.natAbs := ⟨_, rfl⟩
 obtain ⟨o1, ho1⟩ : ∃ o, o = lh z1 := ⟨_, rfl⟩
 obtain ⟨o2, ho2⟩ : ∃ o, o = lh z2 := ⟨_, rfl⟩
 obtain ⟨Z, hZ⟩ : ∃ o, o = z1 + z2 := ⟨_, rfl⟩
 have hs1 : (o1 < 0) ↔ z1 < 0 := by rw [ho1]; exact Ht z1
 have hs2 : (o2 < 0) ↔ z2 < 0 := by rw [ho2]; exact Ht z2
 have nz := hide (fun W => qi s1 cz A1 c1 l1.length W)
 have HS2 := hide (fun W => qi s2 cu A2 c2 l2.length W)
 rw [← ho1] at G1
 rw [← ho2] at G2
 rw [← hm1] at B1 HLEN
 rw [← hm2] at B2 Dc
 rw [← hZ]
 have Cb := hide G1; have HG2 := hide G2; have HB1 := hide B1; have HB2 := hide B2
 clear G1 G2 B1 B2
 obtain ⟨n1, hn1⟩ : ∃ b, b = decide (o1 < 0) := ⟨_, rfl⟩
 obtain ⟨n2, hn2⟩ : ∃ b, b = decide (o2 < 0) := ⟨_, rfl⟩
 have D1 := hn1.symm
 have D2 := hn2.symm
 have q1 : n1 = true ↔ z1 < 0 := by rw [hn1, decide_eq_true_iff, hs1]
 have q2 : n2 = true ↔ z2 < 0 := by rw [hn2, decide_eq_true_iff, hs2]
 obtain ⟨od, hod⟩ : ∃ o, o = rq m1 m2 := ⟨_, rfl⟩
 have HOD := Lib.hid hod
 have hcase : (l1.length = 0 ∧ ¬ l2.length = 0) ∨ ¬ l1.length = 0 := by omega
 clear hs1 hs2 ho1 ho2 hn1 hn2 h1 h2 hl1 hl2
 by_cases he : n1 = n2
 ·
  have EQ : (n1 == n2) = true := beq_iff_eq.2 he
  have La := hide (fun (W : World) (A : Option Addr) (c : Nat) (l : List Nat) (g : ku W A c l (m1 + m2)) => (show Calls Tryz.prog 190 #[.bool (n1), .slice A l.length c] W fun e w' => Bq W Z e w' by
   have := yg (n1) A c l (m1 + m2) W g
   rw [show (if (n1) = true then -(((m1 + m2) : Nat) : Int) else (((m1 + m2) : Nat) : Int)) = Z by cases n1 <;> cases n2 <;> simp at he q1 q2 ⊢ <;> omega] at this
   exact this))
  clear hod he q1 q2 hZ hm1 hm2
  rcases hcase with ⟨a1, a2⟩ | a1
  ·
   rw [decide_eq_true a1] at nz
   rw [decide_eq_false a2] at HS2
   clear a a1 a2
   go_enter Tryz.func166, Tryz.ntmps166
   go_wp2_with fail
   obtain ⟨n1, n2, n3, hsz, hw0⟩ := oh w (.cells #[.int .i64 s1, .bool cz, .slice A1 l1.length c1] 77) (.cells #[.int .i64 s2, .bool cu, .slice A2 l2.length c2] 77) (.cells #[.int .i64 0, .bool false, .slice none 0 0] 77)
   generalize (((w.alloc (.cells #[.int .i64 s1, .bool cz, .slice A1 l1.length c1] 77)).alloc (.cells #[.int .i64 s2, .bool cu, .slice A2 l2.length c2] 77)).alloc (.cells #[.int .i64 0, .bool false, .slice none 0 0] 77)) = W0 at *
   have k1 := ag n1 0
   have k2 := ag n1 1
   have k3 := ag n1 2
   simp only [Array.getElem?_eq_getElem, jd, jc, jb] at k1 k2 k3
   have k4 := ag n2 0
   have k5 := ag n2 1
   have k6 := ag n2 2
   simp only [Array.getElem?_eq_getElem, jd, jc, jb] at k4 k5 k6
   have q0 : w.heap.size < W0.heap.size := by omega
   have q1 : w.heap.size + 1 < W0.heap.size := by omega
   have q2 : w.heap.size + 1 + 1 < W0.heap.size := by omega
   have k7 := ag n3 0
   have k8 := ag n3 1
   have k9 := ag n3 2
   simp only [Array.getElem?_eq_getElem, jd, jc, jb] at k7 k8 k9
   have f7 := ai n3 0
   have f8 := ai n3 1
   have f9 := ai n3 2
   have N3 := Lib.hid n3
   clear n3
   clear n1 n2
   refine ((aa nz) _).mono ?_
   rintro e w1 ⟨rfl, hw1⟩
   have tq := mo (w := W0) bem hw1
   obtain ⟨hc, hfz⟩ := dz tq
   clear hw1
   go_wp2_with fail
   refine ((aa HS2) _).mono ?_
   rintro e w2 ⟨rfl, hw2⟩
   have hbw2 := mo (w := W0) bem hw2
   obtain ⟨hc, hfz⟩ := dz hbw2
   clear hw2
   go_wp2_with fail
   have B1 := (aa HB1) W0 hw0; have B2 := (aa HB2) W0 hw0; have G1 := (aa Cb) W0 hw0; have G2 := (aa HG2) W0 hw0
   go_region_held3 (fun w' => w'.cell? ⟨w.heap.size, 0, none⟩ = some (.int .i64 s1) ∧ w'.cell? ⟨w.heap.size, 1, none⟩ = some (.bool cz) ∧ w'.cell? ⟨w.heap.size, 2, none⟩ = some (.slice A1 l1.length c1) ∧ w'.cell? ⟨w.heap.size + 1, 0, none⟩ = some (.int .i64 s2) ∧ w'.cell? ⟨w.heap.size + 1, 1, none⟩ = some (.bool cu) ∧ w'.cell? ⟨w.heap.size + 1, 2, none⟩ = some (.slice A2 l2.length c2)) ((first | with_reducible exact ⟨(hc _ _ q0).trans k1, (hc _ _ q0).trans k2, (hc _ _ q0).trans k3, (hc _ _ q1).trans k4, (hc _ _ q1).trans k5, (hc _ _ q1).trans k6⟩ | with_reducible exact ⟨k1, k2, k3, k4, k5, k6⟩ | with_reducible exact ⟨(gu _ _ _ _ _ om).trans ((hc _ _ q0).trans k1), (gu _ _ _ _ _ om).trans ((hc _ _ q0).trans k2), (gu _ _ _ _ _ om).trans ((hc _ _ q0).trans k3), (gu _ _ _ _ _ om).trans ((hc _ _ q1).trans k4), (gu _ _ _ _ _ om).trans ((hc _ _ q1).trans k5), (gu _ _ _ _ _ om).trans ((hc _ _ q1).trans k6)⟩ | exact ⟨(hc _ _ q0).trans k1, (hc _ _ q0).trans k2, (hc _ _ q0).trans k3, (hc _ _ q1).trans k4, (hc _ _ q1).trans k5, (hc _ _ q1).trans k6⟩ | exact ⟨k1, k2, k3, k4, k5, k6⟩)) (first | (go_at_call_of 191 (Value.agg #[.int .i64 s1, .bool cz, .slice A1 l1.length c1]); refine ((aa B1) _ bem).mono ?_; rintro e w' ⟨A5, cap5, l5, rfl, xc, hb⟩; have hbw := bz (w := W0) bem hb; obtain ⟨hc, hfz⟩ := dz hbw) | (go_at_call_of 191 (Value.agg #[.int .i64 s2, .bool cu, .slice A2 l2.length c2]); refine ((aa B2) _ bem).mono ?_; rintro e w' ⟨A6, cap6, l6, rfl, mq, hb⟩; have jl := xc.below hb; have hbw := bz (w := W0) bem hb; obtain ⟨hc, hfz⟩ := dz hbw))
   go_wp2_with fail
   refine ((aa G1) _ bem).mono ?_
   rintro e w6 ⟨rfl, hb⟩
   replace jl := jl.below hb
   replace mq := mq.below hb
   have hbw := bz (w := W0) bem hb
   obtain ⟨hc, hfz⟩ := dz hbw
   go_wp2_with fail
   refine ((aa G2) _ bem).mono ?_
   rintro e w7 ⟨rfl, hb⟩
   replace jl := jl.below hb
   replace mq := mq.below hb
   have hbw := bz (w := W0) bem hb
   obtain ⟨hc, hfz⟩ := dz hbw
   go_wp2_with fail
   refine (Pn A5 A6 cap5 cap6 l5 l6 m1 m2 _ (by exact jl) (by exact mq) ((aa HLEN) _ _ _ _ () jl).1 ((aa Dc) _ _ _ _ () mq).1).mono ?_
   rintro e w8 ⟨A7, vv, l7, rfl, vo, hb⟩
   have hbw := bz (w := W0) bem hb
   obtain ⟨hc, hfz⟩ := dz hbw
   go_wp2_with fail
   refine ((aa La) _ A7 vv l7 vo).mono ?_
   rintro e w' ⟨s, oz, A', cap', l', rfl, hf, hb⟩
   have hbw := bz (w := W0) bem hb
   obtain ⟨hc, hfz⟩ := dz hbw
   have hblk : w'.heap[w.heap.size + 1 + 1]? = some (.cells #[.int .i64 0, .bool false, .slice none 0 0] 77 (0, 0)) := (hbw.block _ q2).trans N3.out
   have jy := Lib.hid hblk
   have jh : Below w.heap.size w w' := bg hw0 hbw
   clear hblk
   go_wp2_with fail
   exact bodyPost_ret (v := .agg #[.int .i64 s, .bool oz, .slice A' l'.length cap']) (by simp [results, Tryz.results166, go_sem, hc, k7, k8, k9, q2]) rfl
    ⟨s, oz, A', cap', l', rfl, hf.upto jy.out (si _ _ _ _ _) (ik _ _ _ _ _), jh.grown (ik _ _ _ _ _) jh.size (fun k hk => by injection hk with hk; omega)⟩
  ·
   rw [decide_eq_false a1] at nz
   clear a a1
   go_enter Tryz.func166, Tryz.ntmps166
   go_wp2_with fail
   obtain ⟨n1, n2, n3, hsz, hw0⟩ := oh w (.cells #[.int .i64 s1, .bool cz, .slice A1 l1.length c1] 77) (.cells #[.int .i64 s2, .bool cu, .slice A2 l2.length c2] 77) (.cells #[.int .i64 0, .bool false, .slice none 0 0] 77)
   generalize (((w.alloc (.cells #[.int .i64 s1, .bool cz, .slice A1 l1.length c1] 77)).alloc (.cells #[.int .i64 s2, .bool cu, .slice A2 l2.length c2] 77)).alloc (.cells #[.int .i64 0, .bool false, .slice none 0 0] 77)) = W0 at *
   have k1 := ag n1 0
   have k2 := ag n1 1
   have k3 := ag n1 2
   simp only [Array.getElem?_eq_getElem, jd, jc, jb] at k1 k2 k3
   have k4 := ag n2 0
   have k5 := ag n2 1
   have k6 := ag n2 2
   simp only [Array.getElem?_eq_getElem, jd, jc, jb] at k4 k5 k6
   have q0 : w.heap.size < W0.heap.size := by omega
   have q1 : w.heap.size + 1 < W0.heap.size := by omega
   have q2 : w.heap.size + 1 + 1 < W0.heap.size := by omega
   have k7 := ag n3 0
   have k8 := ag n3 1
   have k9 := ag n3 2
   simp only [Array.getElem?_eq_getElem, jd, jc, jb] at k7 k8 k9
   have f7 := ai n3 0
   have f8 := ai n3 1
   have f9 := ai n3 2
   have N3 := Lib.hid n3
   clear n3
   clear n1 n2
   refine ((aa nz) _).mono ?_
   rintro e w1 ⟨rfl, hw1⟩
   have tq := mo (w := W0) bem hw1
   obtain ⟨hc, hfz⟩ := dz tq
   clear hw1
   go_wp2_with fail
   have B1 := (aa HB1) W0 hw0; have B2 := (aa HB2) W0 hw0; have G1 := (aa Cb) W0 hw0; have G2 := (aa HG2) W0 hw0
   go_region_held3 (fun w' => w'.cell? ⟨w.heap.size, 0, none⟩ = some (.int .i64 s1) ∧ w'.cell? ⟨w.heap.size, 1, none⟩ = some (.bool cz) ∧ w'.cell? ⟨w.heap.size, 2, none⟩ = some (.slice A1 l1.length c1) ∧ w'.cell? ⟨w.heap.size + 1, 0, none⟩ = some (.int .i64 s2) ∧ w'.cell? ⟨w.heap.size + 1, 1, none⟩ = some (.bool cu) ∧ w'.cell? ⟨w.heap.size + 1, 2, none⟩ = some (.slice A2 l2.length c2)) ((first | with_reducible exact ⟨(hc _ _ q0).trans k1, (hc _ _ q0).trans k2, (hc _ _ q0).trans k3, (hc _ _ q1).trans k4, (hc _ _ q1).trans k5, (hc _ _ q1).trans k6⟩ | with_reducible exact ⟨k1, k2, k3, k4, k5, k6⟩ | with_reducible exact ⟨(gu _ _ _ _ _ om).trans ((hc _ _ q0).trans k1), (gu _ _ _ _ _ om).trans ((hc _ _ q0).trans k2), (gu _ _ _ _ _ om).trans ((hc _ _ q0).trans k3), (gu _ _ _ _ _ om).trans ((hc _ _ q1).trans k4), (gu _ _ _ _ _ om).trans ((hc _ _ q1).trans k5), (gu _ _ _ _ _ om).trans ((hc _ _ q1).trans k6)⟩ | exact ⟨(hc _ _ q0).trans k1, (hc _ _ q0).trans k2, (hc _ _ q0).trans k3, (hc _ _ q1).trans k4, (hc _ _ q1).trans k5, (hc _ _ q1).trans k6⟩ | exact ⟨k1, k2, k3, k4, k5, k6⟩)) (first | (go_at_call_of 191 (Value.agg #[.int .i64 s1, .bool cz, .slice A1 l1.length c1]); refine ((aa B1) _ bem).mono ?_; rintro e w' ⟨A5, cap5, l5, rfl, xc, hb⟩; have hbw := bz (w := W0) bem hb; obtain ⟨hc, hfz⟩ := dz hbw) | (go_at_call_of 191 (Value.agg #[.int .i64 s2, .bool cu, .slice A2 l2.length c2]); refine ((aa B2) _ bem).mono ?_; rintro e w' ⟨A6, cap6, l6, rfl, mq, hb⟩; have jl := xc.below hb; have hbw := bz (w := W0) bem hb; obtain ⟨hc, hfz⟩ := dz hbw))
   go_wp2_with fail
   refine ((aa G1) _ bem).mono ?_
   rintro e w6 ⟨rfl, hb⟩
   replace jl := jl.below hb
   replace mq := mq.below hb
   have hbw := bz (w := W0) bem hb
   obtain ⟨hc, hfz⟩ := dz hbw
   go_wp2_with fail
   refine ((aa G2) _ bem).mono ?_
   rintro e w7 ⟨rfl, hb⟩
   replace jl := jl.below hb
   replace mq := mq.below hb
   have hbw := bz (w := W0) bem hb
   obtain ⟨hc, hfz⟩ := dz hbw
   go_wp2_with fail
   refine (Pn A5 A6 cap5 cap6 l5 l6 m1 m2 _ (by exact jl) (by exact mq) ((aa HLEN) _ _ _ _ () jl).1 ((aa Dc) _ _ _ _ () mq).1).mono ?_
   rintro e w8 ⟨A7, vv, l7, rfl, vo, hb⟩
   have hbw := bz (w := W0) bem hb
   obtain ⟨hc, hfz⟩ := dz hbw
   go_wp2_with fail
   refine ((aa La) _ A7 vv l7 vo).mono ?_
   rintro e w' ⟨s, oz, A', cap', l', rfl, hf, hb⟩
   have hbw := bz (w := W0) bem hb
   obtain ⟨hc, hfz⟩ := dz hbw
   have hblk : w'.heap[w.heap.size + 1 + 1]? = some (.cells #[.int .i64 0, .bool false, .slice none 0 0] 77 (0, 0)) := (hbw.block _ q2).trans N3.out
   have jy := Lib.hid hblk
   have jh : Below w.heap.size w w' := bg hw0 hbw
   clear hblk
   go_wp2_with fail
   exact bodyPost_ret (v := .agg #[.int .i64 s, .bool oz, .slice A' l'.length cap']) (by simp [results, Tryz.results166, go_sem, hc, k7, k8, k9, q2]) rfl
    ⟨s, oz, A', cap', l', rfl, hf.upto jy.out (si _ _ _ _ _) (ik _ _ _ _ _), jh.grown (ik _ _ _ _ _) jh.size (fun k hk => by injection hk with hk; omega)⟩
 ·
  have EQ : (n1 == n2) = false := beq_eq_false_iff_ne.2 he
  by_cases hlt : m1 < m2
  ·
   have d9 : decide (od < 0) = true := decide_eq_true (by rw [hod]; unfold rq; rw [if_pos hlt]; omega)
   have HLE := hide (Nat.le_of_lt hlt)
   have La := hide (fun (W : World) (A : Option Addr) (c : Nat) (l : List Nat) (g : ku W A c l (m2 - m1)) => (show Calls Tryz.prog 190 #[.bool (!n1), .slice A l.length c] W fun e w' => Bq W Z e w' by
    have := yg (!n1) A c l (m2 - m1) W g
    rw [show (if (!n1) = true then -(((m2 - m1) : Nat) : Int) else (((m2 - m1) : Nat) : Int)) = Z by cases n1 <;> cases n2 <;> simp at he q1 q2 ⊢ <;> omega] at this
    exact this))
   clear hod he q1 q2 hZ hm1 hm2 hlt
   rcases hcase with ⟨a1, a2⟩ | a1
   ·
    rw [decide_eq_true a1] at nz
    rw [decide_eq_false a2] at HS2
    clear a a1 a2
    go_enter Tryz.func166, Tryz.ntmps166
    go_wp2_with fail
    obtain ⟨n1, n2, n3, hsz, hw0⟩ := oh w (.cells #[.int .i64 s1, .bool cz, .slice A1 l1.length c1] 77) (.cells #[.int .i64 s2, .bool cu, .slice A2 l2.length c2] 77) (.cells #[.int .i64 0, .bool false, .slice none 0 0] 77)
    generalize (((w.alloc (.cells #[.int .i64 s1, .bool cz, .slice A1 l1.length c1] 77)).alloc (.cells #[.int .i64 s2, .bool cu, .slice A2 l2.length c2] 77)).alloc (.cells #[.int .i64 0, .bool false, .slice none 0 0] 77)) = W0 at *
    have k1 := ag n1 0
    have k2 := ag n1 1
    have k3 := ag n1 2
    simp only [Array.getElem?_eq_getElem, jd, jc, jb] at k1 k2 k3
    have k4 := ag n2 0
    have k5 := ag n2 1
    have k6 := ag n2 2
    simp only [Array.getElem?_eq_getElem, jd, jc, jb] at k4 k5 k6
    have q0 : w.heap.size < W0.heap.size := by omega
    have q1 : w.heap.size + 1 < W0.heap.size := by omega
    have q2 : w.heap.size + 1 + 1 < W0.heap.size := by omega
    have k7 := ag n3 0
    have k8 := ag n3 1
    have k9 := ag n3 2
    simp only [Array.getElem?_eq_getElem, jd, jc, jb] at k7 k8 k9
    have f7 := ai n3 0
    have f8 := ai n3 1
    have f9 := ai n3 2
    have N3 := Lib.hid n3
    clear n3
    clear n1 n2
    refine ((aa nz) _).mono ?_
    rintro e w1 ⟨rfl, hw1⟩
    have tq := mo (w := W0) bem hw1
    obtain ⟨hc, hfz⟩ := dz tq
    clear hw1
    go_wp2_with fail
    refine ((aa HS2) _).mono ?_
    rintro e w2 ⟨rfl, hw2⟩
    have hbw2 := mo (w := W0) bem hw2
    obtain ⟨hc, hfz⟩ := dz hbw2
    clear hw2
    go_wp2_with fail
    have B1 := (aa HB1) W0 hw0; have B2 := (aa HB2) W0 hw0; have G1 := (aa Cb) W0 hw0; have G2 := (aa HG2) W0 hw0
    go_region_held3 (fun w' => w'.cell? ⟨w.heap.size, 0, none⟩ = some (.int .i64 s1) ∧ w'.cell? ⟨w.heap.size, 1, none⟩ = some (.bool cz) ∧ w'.cell? ⟨w.heap.size, 2, none⟩ = some (.slice A1 l1.length c1) ∧ w'.cell? ⟨w.heap.size + 1, 0, none⟩ = some (.int .i64 s2) ∧ w'.cell? ⟨w.heap.size + 1, 1, none⟩ = some (.bool cu) ∧ w'.cell? ⟨w.heap.size + 1, 2, none⟩ = some (.slice A2 l2.length c2)) ((first | with_reducible exact ⟨(hc _ _ q0).trans k1, (hc _ _ q0).trans k2, (hc _ _ q0).trans k3, (hc _ _ q1).trans k4, (hc _ _ q1).trans k5, (hc _ _ q1).trans k6⟩ | with_reducible exact ⟨k1, k2, k3, k4, k5, k6⟩ | with_reducible exact ⟨(gu _ _ _ _ _ om).trans ((hc _ _ q0).trans k1), (gu _ _ _ _ _ om).trans ((hc _ _ q0).trans k2), (gu _ _ _ _ _ om).trans ((hc _ _ q0).trans k3), (gu _ _ _ _ _ om).trans ((hc _ _ q1).trans k4), (gu _ _ _ _ _ om).trans ((hc _ _ q1).trans k5), (gu _ _ _ _ _ om).trans ((hc _ _ q1).trans k6)⟩ | exact ⟨(hc _ _ q0).trans k1, (hc _ _ q0).trans k2, (hc _ _ q0).trans k3, (hc _ _ q1).trans k4, (hc _ _ q1).trans k5, (hc _ _ q1).trans k6⟩ | exact ⟨k1, k2, k3, k4, k5, k6⟩)) (first | (go_at_call_of 191 (Value.agg #[.int .i64 s1, .bool cz, .slice A1 l1.length c1]); refine ((aa B1) _ bem).mono ?_; rintro e w' ⟨A5, cap5, l5, rfl, xc, hb⟩; have hbw := bz (w := W0) bem hb; obtain ⟨hc, hfz⟩ := dz hbw) | (go_at_call_of 191 (Value.agg #[.int .i64 s2, .bool cu, .slice A2 l2.length c2]); refine ((aa B2) _ bem).mono ?_; rintro e w' ⟨A6, cap6, l6, rfl, mq, hb⟩; have jl := xc.below hb; have hbw := bz (w := W0) bem hb; obtain ⟨hc, hfz⟩ := dz hbw))
    go_wp2_with fail
    refine ((aa G1) _ bem).mono ?_
    rintro e w6 ⟨rfl, hb⟩
    replace jl := jl.below hb
    replace mq := mq.below hb
    have hbw := bz (w := W0) bem hb
    obtain ⟨hc, hfz⟩ := dz hbw
    go_wp2_with fail
    refine ((aa G2) _ bem).mono ?_
    rintro e w7 ⟨rfl, hb⟩
    replace jl := jl.below hb
    replace mq := mq.below hb
    have hbw := bz (w := W0) bem hb
    obtain ⟨hc, hfz⟩ := dz hbw
    go_wp2_with fail
    refine (Jl A5 A6 cap5 cap6 l5 l6 m1 m2 _ (by exact jl) (by exact mq)).mono ?_
    rintro e w8 ⟨rfl, kd, hw8⟩
    subst hw8
    rw [← HOD.out]
    replace jl := jl.below (mi (Below.refl _ _) kd)
    replace mq := mq.below (mi (Below.refl _ _) kd)
    have hbw := mi hbw kd
    obtain ⟨hc, hfz⟩ := dz hbw
    go_wp2_with fail
    refine (Uy A6 A5 cap6 cap5 l6 l5 m2 m1 _ (by exact mq) (by exact jl) ((aa HLE)) (Nat.le_trans (Nat.le_succ _) ((aa Dc) _ _ _ _ () mq).2)).mono ?_
    rintro e w9 ⟨A7, vv, l7, rfl, vo, hb⟩
    have hbw := bz (w := W0) bem hb
    obtain ⟨hc, hfz⟩ := dz hbw
    go_wp2_with fail
    refine ((aa La) _ A7 vv l7 vo).mono ?_
    rintro e w' ⟨s, oz, A', cap', l', rfl, hf, hb⟩
    have hbw := bz (w := W0) bem hb
    obtain ⟨hc, hfz⟩ := dz hbw
    have hblk : w'.heap[w.heap.size + 1 + 1]? = some (.cells #[.int .i64 0, .bool false, .slice none 0 0] 77 (0, 0)) := (hbw.block _ q2).trans N3.out
    have jy := Lib.hid hblk
    have jh : Below w.heap.size w w' := bg hw0 hbw
    clear hblk
    go_wp2_with fail
    exact bodyPost_ret (v := .agg #[.int .i64 s, .bool oz, .slice A' l'.length cap']) (by simp [results, Tryz.results166, go_sem, hc, k7, k8, k9, q2]) rfl
     ⟨s, oz, A', cap', l', rfl, hf.upto jy.out (si _ _ _ _ _) (ik _ _ _ _ _), jh.grown (ik _ _ _ _ _) jh.size (fun k hk => by injection hk with hk; omega)⟩
   ·
    rw [decide_eq_false a1] at nz
    clear a a1
    go_enter Tryz.func166, Tryz.ntmps166
    go_wp2_with fail
    obtain ⟨n1, n2, n3, hsz, hw0⟩ := oh w (.cells #[.int .i64 s1, .bool cz, .slice A1 l1.length c1] 77) (.cells #[.int .i64 s2, .bool cu, .slice A2 l2.length c2] 77) (.cells #[.int .i64 0, .bool false, .slice none 0 0] 77)
    generalize (((w.alloc (.cells #[.int .i64 s1, .bool cz, .slice A1 l1.length c1] 77)).alloc (.cells #[.int .i64 s2, .bool cu, .slice A2 l2.length c2] 77)).alloc (.cells #[.int .i64 0, .bool false, .slice none 0 0] 77)) = W0 at *
    have k1 := ag n1 0
    have k2 := ag n1 1
    have k3 := ag n1 2
    simp only [Array.getElem?_eq_getElem, jd, jc, jb] at k1 k2 k3
    have k4 := ag n2 0
    have k5 := ag n2 1
    have k6 := ag n2 2
    simp only [Array.getElem?_eq_getElem, jd, jc, jb] at k4 k5 k6
    have q0 : w.heap.size < W0.heap.size := by omega
    have q1 : w.heap.size + 1 < W0.heap.size := by omega
    have q2 : w.heap.size + 1 + 1 < W0.heap.size := by omega
    have k7 := ag n3 0
    have k8 := ag n3 1
    have k9 := ag n3 2
    simp only [Array.getElem?_eq_getElem, jd, jc, jb] at k7 k8 k9
    have f7 := ai n3 0
    have f8 := ai n3 1
    have f9 := ai n3 2
    have N3 := Lib.hid n3
    clear n3
    clear n1 n2
    refine ((aa nz) _).mono ?_
    rintro e w1 ⟨rfl, hw1⟩
    have tq := mo (w := W0) bem hw1
    obtain ⟨hc, hfz⟩ := dz tq
    clear hw1
    go_wp2_with fail
    have B1 := (aa HB1) W0 hw0; have B2 := (aa HB2) W0 hw0; have G1 := (aa Cb) W0 hw0; have G2 := (aa HG2) W0 hw0
    go_region_held3 (fun w' => w'.cell? ⟨w.heap.size, 0, none⟩ = some (.int .i64 s1) ∧ w'.cell? ⟨w.heap.size, 1, none⟩ = some (.bool cz) ∧ w'.cell? ⟨w.heap.size, 2, none⟩ = some (.slice A1 l1.length c1) ∧ w'.cell? ⟨w.heap.size + 1, 0, none⟩ = some (.int .i64 s2) ∧ w'.cell? ⟨w.heap.size + 1, 1, none⟩ = some (.bool cu) ∧ w'.cell? ⟨w.heap.size + 1, 2, none⟩ = some (.slice A2 l2.length c2)) ((first | with_reducible exact ⟨(hc _ _ q0).trans k1, (hc _ _ q0).trans k2, (hc _ _ q0).trans k3, (hc _ _ q1).trans k4, (hc _ _ q1).trans k5, (hc _ _ q1).trans k6⟩ | with_reducible exact ⟨k1, k2, k3, k4, k5, k6⟩ | with_reducible exact ⟨(gu _ _ _ _ _ om).trans ((hc _ _ q0).trans k1), (gu _ _ _ _ _ om).trans ((hc _ _ q0).trans k2), (gu _ _ _ _ _ om).trans ((hc _ _ q0).trans k3), (gu _ _ _ _ _ om).trans ((hc _ _ q1).trans k4), (gu _ _ _ _ _ om).trans ((hc _ _ q1).trans k5), (gu _ _ _ _ _ om).trans ((hc _ _ q1).trans k6)⟩ | exact ⟨(hc _ _ q0).trans k1, (hc _ _ q0).trans k2, (hc _ _ q0).trans k3, (hc _ _ q1).trans k4, (hc _ _ q1).trans k5, (hc _ _ q1).trans k6⟩ | exact ⟨k1, k2, k3, k4, k5, k6⟩)) (first | (go_at_call_of 191 (Value.agg #[.int .i64 s1, .bool cz, .slice A1 l1.length c1]); refine ((aa B1) _ bem).mono ?_; rintro e w' ⟨A5, cap5, l5, rfl, xc, hb⟩; have hbw := bz (w := W0) bem hb; obtain ⟨hc, hfz⟩ := dz hbw) | (go_at_call_of 191 (Value.agg #[.int .i64 s2, .bool cu, .slice A2 l2.length c2]); refine ((aa B2) _ bem).mono ?_; rintro e w' ⟨A6, cap6, l6, rfl, mq, hb⟩; have jl := xc.below hb; have hbw := bz (w := W0) bem hb; obtain ⟨hc, hfz⟩ := dz hbw))
    go_wp2_with fail
    refine ((aa G1) _ bem).mono ?_
    rintro e w6 ⟨rfl, hb⟩
    replace jl := jl.below hb
    replace mq := mq.below hb
    have hbw := bz (w := W0) bem hb
    obtain ⟨hc, hfz⟩ := dz hbw
    go_wp2_with fail
    refine ((aa G2) _ bem).mono ?_
    rintro e w7 ⟨rfl, hb⟩
    replace jl := jl.below hb
    replace mq := mq.below hb
    have hbw := bz (w := W0) bem hb
    obtain ⟨hc, hfz⟩ := dz hbw
    go_wp2_with fail
    refine (Jl A5 A6 cap5 cap6 l5 l6 m1 m2 _ (by exact jl) (by exact mq)).mono ?_
    rintro e w8 ⟨rfl, kd, hw8⟩
    subst hw8
    rw [← HOD.out]
    replace jl := jl.below (mi (Below.refl _ _) kd)
    replace mq := mq.below (mi (Below.refl _ _) kd)
    have hbw := mi hbw kd
    obtain ⟨hc, hfz⟩ := dz hbw
    go_wp2_with fail
    refine (Uy A6 A5 cap6 cap5 l6 l5 m2 m1 _ (by exact mq) (by exact jl) ((aa HLE)) (Nat.le_trans (Nat.le_succ _) ((aa Dc) _ _ _ _ () mq).2)).mono ?_
    rintro e w9 ⟨A7, vv, l7, rfl, vo, hb⟩
    have hbw := bz (w := W0) bem hb
    obtain ⟨hc, hfz⟩ := dz hbw
    go_wp2_with fail
    refine ((aa La) _ A7 vv l7 vo).mono ?_
    rintro e w' ⟨s, oz, A', cap', l', rfl, hf, hb⟩
    have hbw := bz (w := W0) bem hb
    obtain ⟨hc, hfz⟩ := dz hbw
    have hblk : w'.heap[w.heap.size + 1 + 1]? = some (.cells #[.int .i64 0, .bool false, .slice none 0 0] 77 (0, 0)) := (hbw.block _ q2).trans N3.out
    have jy := Lib.hid hblk
    have jh : Below w.heap.size w w' := bg hw0 hbw
    clear hblk
    go_wp2_with fail
    exact bodyPost_ret (v := .agg #[.int .i64 s, .bool oz, .slice A' l'.length cap']) (by simp [results, Tryz.results166, go_sem, hc, k7, k8, k9, q2]) rfl
     ⟨s, oz, A', cap', l', rfl, hf.upto jy.out (si _ _ _ _ _) (ik _ _ _ _ _), jh.grown (ik _ _ _ _ _) jh.size (fun k hk => by injection hk with hk; omega)⟩
  ·
   have d9 : decide (od < 0) = false := decide_eq_false (by rw [hod]; unfold rq; rw [if_neg hlt]; split <;> omega)
   have HLE := hide (Nat.le_of_not_lt hlt)
   have La := hide (fun (W : World) (A : Option Addr) (c : Nat) (l : List Nat) (g : ku W A c l (m1 - m2)) => (show Calls Tryz.prog 190 #[.bool (n1), .slice A l.length c] W fun e w' => Bq W Z e w' by
    have := yg (n1) A c l (m1 - m2) W g
    rw [show (if (n1) = true then -(((m1 - m2) : Nat) : Int) else (((m1 - m2) : Nat) : Int)) = Z by cases n1 <;> cases n2 <;> simp at he q1 q2 ⊢ <;> omega] at this
    exact this))
   clear hod he q1 q2 hZ hm1 hm2 hlt
   rcases hcase with ⟨a1, a2⟩ | a1
   ·
    rw [decide_eq_true a1] at nz
    rw [decide_eq_false a2] at HS2
    clear a a1 a2
    go_enter Tryz.func166, Tryz.ntmps166
    go_wp2_with fail
    obtain ⟨n1, n2, n3, hsz, hw0⟩ := oh w (.cells #[.int .i64 s1, .bool cz, .slice A1 l1.length c1] 77) (.cells #[.int .i64 s2, .bool cu, .slice A2 l2.length c2] 77) (.cells #[.int .i64 0, .bool false, .slice none 0 0] 77)
    generalize (((w.alloc (.cells #[.int .i64 s1, .bool cz, .slice A1 l1.length c1] 77)).alloc (.cells #[.int .i64 s2, .bool cu, .slice A2 l2.length c2] 77)).alloc (.cells #[.int .i64 0, .bool false, .slice none 0 0] 77)) = W0 at *
    have k1 := ag n1 0
    have k2 := ag n1 1
    have k3 := ag n1 2
    simp only [Array.getElem?_eq_getElem, jd, jc, jb] at k1 k2 k3
    have k4 := ag n2 0
    have k5 := ag n2 1
    have k6 := ag n2 2
    simp only [Array.getElem?_eq_getElem, jd, jc, jb] at k4 k5 k6
    have q0 : w.heap.size < W0.heap.size := by omega
    have q1 : w.heap.size + 1 < W0.heap.size := by omega
    have q2 : w.heap.size + 1 + 1 < W0.heap.size := by omega
    have k7 := ag n3 0
    have k8 := ag n3 1
    have k9 := ag n3 2
    simp only [Array.getElem?_eq_getElem, jd, jc, jb] at k7 k8 k9
    have f7 := ai n3 0
    have f8 := ai n3 1
    have f9 := ai n3 2
    have N3 := Lib.hid n3
    clear n3
    clear n1 n2
    refine ((aa nz) _).mono ?_
    rintro e w1 ⟨rfl, hw1⟩
    have tq := mo (w := W0) bem hw1
    obtain ⟨hc, hfz⟩ := dz tq
    clear hw1
    go_wp2_with fail
    refine ((aa HS2) _).mono ?_
    rintro e w2 ⟨rfl, hw2⟩
    have hbw2 := mo (w := W0) bem hw2
    obtain ⟨hc, hfz⟩ := dz hbw2
    clear hw2
    go_wp2_with fail
    have B1 := (aa HB1) W0 hw0; have B2 := (aa HB2) W0 hw0; have G1 := (aa Cb) W0 hw0; have G2 := (aa HG2) W0 hw0
    go_region_held3 (fun w' => w'.cell? ⟨w.heap.size, 0, none⟩ = some (.int .i64 s1) ∧ w'.cell? ⟨w.heap.size, 1, none⟩ = some (.bool cz) ∧ w'.cell? ⟨w.heap.size, 2, none⟩ = some (.slice A1 l1.length c1) ∧ w'.cell? ⟨w.heap.size + 1, 0, none⟩ = some (.int .i64 s2) ∧ w'.cell? ⟨w.heap.size + 1, 1, none⟩ = some (.bool cu) ∧ w'.cell? ⟨w.heap.size + 1, 2, none⟩ = some (.slice A2 l2.length c2)) ((first | with_reducible exact ⟨(hc _ _ q0).trans k1, (hc _ _ q0).trans k2, (hc _ _ q0).trans k3, (hc _ _ q1).trans k4, (hc _ _ q1).trans k5, (hc _ _ q1).trans k6⟩ | with_reducible exact ⟨k1, k2, k3, k4, k5, k6⟩ | with_reducible exact ⟨(gu _ _ _ _ _ om).trans ((hc _ _ q0).trans k1), (gu _ _ _ _ _ om).trans ((hc _ _ q0).trans k2), (gu _ _ _ _ _ om).trans ((hc _ _ q0).trans k3), (gu _ _ _ _ _ om).trans ((hc _ _ q1).trans k4), (gu _ _ _ _ _ om).trans ((hc _ _ q1).trans k5), (gu _ _ _ _ _ om).trans ((hc _ _ q1).trans k6)⟩ | exact ⟨(hc _ _ q0).trans k1, (hc _ _ q0).trans k2, (hc _ _ q0).trans k3, (hc _ _ q1).trans k4, (hc _ _ q1).trans k5, (hc _ _ q1).trans k6⟩ | exact ⟨k1, k2, k3, k4, k5, k6⟩)) (first | (go_at_call_of 191 (Value.agg #[.int .i64 s1, .bool cz, .slice A1 l1.length c1]); refine ((aa B1) _ bem).mono ?_; rintro e w' ⟨A5, cap5, l5, rfl, xc, hb⟩; have hbw := bz (w := W0) bem hb; obtain ⟨hc, hfz⟩ := dz hbw) | (go_at_call_of 191 (Value.agg #[.int .i64 s2, .bool cu, .slice A2 l2.length c2]); refine ((aa B2) _ bem).mono ?_; rintro e w' ⟨A6, cap6, l6, rfl, mq, hb⟩; have jl := xc.below hb; have hbw := bz (w := W0) bem hb; obtain ⟨hc, hfz⟩ := dz hbw))
    go_wp2_with fail
    refine ((aa G1) _ bem).mono ?_
    rintro e w6 ⟨rfl, hb⟩
    replace jl := jl.below hb
    replace mq := mq.below hb
    have hbw := bz (w := W0) bem hb
    obtain ⟨hc, hfz⟩ := dz hbw
    go_wp2_with fail
    refine ((aa G2) _ bem).mono ?_
    rintro e w7 ⟨rfl, hb⟩
    replace jl := jl.below hb
    replace mq := mq.below hb
    have hbw := bz (w := W0) bem hb
    obtain ⟨hc, hfz⟩ := dz hbw
    go_wp2_with fail
    refine (Jl A5 A6 cap5 cap6 l5 l6 m1 m2 _ (by exact jl) (by exact mq)).mono ?_
    rintro e w8 ⟨rfl, kd, hw8⟩
    subst hw8
    rw [← HOD.out]
    replace jl := jl.below (mi (Below.refl _ _) kd)
    replace mq := mq.below (mi (Below.refl _ _) kd)
    have hbw := mi hbw kd
    obtain ⟨hc, hfz⟩ := dz hbw
    go_wp2_with fail
    refine (Uy A5 A6 cap5 cap6 l5 l6 m1 m2 _ (by exact jl) (by exact mq) ((aa HLE)) (Nat.le_trans (Nat.le_succ _) ((aa HLEN) _ _ _ _ () jl).2)).mono ?_
    rintro e w9 ⟨A7, vv, l7, rfl, vo, hb⟩
    have hbw := bz (w := W0) bem hb
    obtain ⟨hc, hfz⟩ := dz hbw
    go_wp2_with fail
    refine ((aa La) _ A7 vv l7 vo).mono ?_
    rintro e w' ⟨s, oz, A', cap', l', rfl, hf, hb⟩
    have hbw := bz (w := W0) bem hb
    obtain ⟨hc, hfz⟩ := dz hbw
    have hblk : w'.heap[w.heap.size + 1 + 1]? = some (.cells #[.int .i64 0, .bool false, .slice none 0 0] 77 (0, 0)) := (hbw.block _ q2).trans N3.out
    have jy := Lib.hid hblk
    have jh : Below w.heap.size w w' := bg hw0 hbw
    clear hblk
    go_wp2_with fail
    exact bodyPost_ret (v := .agg #[.int .i64 s, .bool oz, .slice A' l'.length cap']) (by simp [results, Tryz.results166, go_sem, hc, k7, k8, k9, q2]) rfl
     ⟨s, oz, A', cap', l', rfl, hf.upto jy.out (si _ _ _ _ _) (ik _ _ _ _ _), jh.grown (ik _ _ _ _ _) jh.size (fun k hk => by injection hk with hk; omega)⟩
   ·
    rw [decide_eq_false a1] at nz
    clear a a1
    go_enter Tryz.func166, Tryz.ntmps166
    go_wp2_with fail
    obtain ⟨n1, n2, n3, hsz, hw0⟩ := oh w (.cells #[.int .i64 s1, .bool cz, .slice A1 l1.length c1] 77) (.cells #[.int .i64 s2, .bool cu, .slice A2 l2.length c2] 77) (.cells #[.int .i64 0, .bool false, .slice none 0 0] 77)
    generalize (((w.alloc (.cells #[.int .i64 s1, .bool cz, .slice A1 l1.length c1] 77)).alloc (.cells #[.int .i64 s2, .bool cu, .slice A2 l2.length c2] 77)).alloc (.cells #[.int .i64 0, .bool false, .slice none 0 0] 77)) = W0 at *
    have k1 := ag n1 0
    have k2 := ag n1 1
    have k3 := ag n1 2
    simp only [Array.getElem?_eq_getElem, jd, jc, jb] at k1 k2 k3
    have k4 := ag n2 0
    have k5 := ag n2 1
    have k6 := ag n2 2
    simp only [Array.getElem?_eq_getElem, jd, jc, jb] at k4 k5 k6
    have q0 : w.heap.size < W0.heap.size := by omega
    have q1 : w.heap.size + 1 < W0.heap.size := by omega
    have q2 : w.heap.size + 1 + 1 < W0.heap.size := by omega
    have k7 := ag n3 0
    have k8 := ag n3 1
    have k9 := ag n3 2
    simp only [Array.getElem?_eq_getElem, jd, jc, jb] at k7 k8 k9
    have f7 := ai n3 0
    have f8 := ai n3 1
    have f9 := ai n3 2
    have N3 := Lib.hid n3
    clear n3
    clear n1 n2
    refine ((aa nz) _).mono ?_
    rintro e w1 ⟨rfl, hw1⟩
    have tq := mo (w := W0) bem hw1
    obtain ⟨hc, hfz⟩ := dz tq
    clear hw1
    go_wp2_with fail
    have B1 := (aa HB1) W0 hw0; have B2 := (aa HB2) W0 hw0; have G1 := (aa Cb) W0 hw0; have G2 := (aa HG2) W0 hw0
    go_region_held3 (fun w' => w'.cell? ⟨w.heap.size, 0, none⟩ = some (.int .i64 s1) ∧ w'.cell? ⟨w.heap.size, 1, none⟩ = some (.bool cz) ∧ w'.cell? ⟨w.heap.size, 2, none⟩ = some (.slice A1 l1.length c1) ∧ w'.cell? ⟨w.heap.size + 1, 0, none⟩ = some (.int .i64 s2) ∧ w'.cell? ⟨w.heap.size + 1, 1, none⟩ = some (.bool cu) ∧ w'.cell? ⟨w.heap.size + 1, 2, none⟩ = some (.slice A2 l2.length c2)) ((first | with_reducible exact ⟨(hc _ _ q0).trans k1, (hc _ _ q0).trans k2, (hc _ _ q0).trans k3, (hc _ _ q1).trans k4, (hc _ _ q1).trans k5, (hc _ _ q1).trans k6⟩ | with_reducible exact ⟨k1, k2, k3, k4, k5, k6⟩ | with_reducible exact ⟨(gu _ _ _ _ _ om).trans ((hc _ _ q0).trans k1), (gu _ _ _ _ _ om).trans ((hc _ _ q0).trans k2), (gu _ _ _ _ _ om).trans ((hc _ _ q0).trans k3), (gu _ _ _ _ _ om).trans ((hc _ _ q1).trans k4), (gu _ _ _ _ _ om).trans ((hc _ _ q1).trans k5), (gu _ _ _ _ _ om).trans ((hc _ _ q1).trans k6)⟩ | exact ⟨(hc _ _ q0).trans k1, (hc _ _ q0).trans k2, (hc _ _ q0).trans k3, (hc _ _ q1).trans k4, (hc _ _ q1).trans k5, (hc _ _ q1).trans k6⟩ | exact ⟨k1, k2, k3, k4, k5, k6⟩)) (first | (go_at_call_of 191 (Value.agg #[.int .i64 s1, .bool cz, .slice A1 l1.length c1]); refine ((aa B1) _ bem).mono ?_; rintro e w' ⟨A5, cap5, l5, rfl, xc, hb⟩; have hbw := bz (w := W0) bem hb; obtain ⟨hc, hfz⟩ := dz hbw) | (go_at_call_of 191 (Value.agg #[.int .i64 s2, .bool cu, .slice A2 l2.length c2]); refine ((aa B2) _ bem).mono ?_; rintro e w' ⟨A6, cap6, l6, rfl, mq, hb⟩; have jl := xc.below hb; have hbw := bz (w := W0) bem hb; obtain ⟨hc, hfz⟩ := dz hbw))
    go_wp2_with fail
    refine ((aa G1) _ bem).mono ?_
    rintro e w6 ⟨rfl, hb⟩
    replace jl := jl.below hb
    replace mq := mq.below hb
    have hbw := bz (w := W0) bem hb
    obtain ⟨hc, hfz⟩ := dz hbw
    go_wp2_with fail
    refine ((aa G2) _ bem).mono ?_
    rintro e w7 ⟨rfl, hb⟩
    replace jl := jl.below hb
    replace mq := mq.below hb
    have hbw := bz (w := W0) bem hb
    obtain ⟨hc, hfz⟩ := dz hbw
    go_wp2_with fail
    refine (Jl A5 A6 cap5 cap6 l5 l6 m1 m2 _ (by exact jl) (by exact mq)).mono ?_
    rintro e w8 ⟨rfl, kd, hw8⟩
    subst hw8
    rw [← HOD.out]
    replace jl := jl.below (mi (Below.refl _ _) kd)
    replace mq := mq.below (mi (Below.refl _ _) kd)
    have hbw := mi hbw kd
    obtain ⟨hc, hfz⟩ := dz hbw
    go_wp2_with fail
    refine (Uy A5 A6 cap5 cap6 l5 l6 m1 m2 _ (by exact jl) (by exact mq) ((aa HLE)) (Nat.le_trans (Nat.le_succ _) ((aa HLEN) _ _ _ _ () jl).2)).mono ?_
    rintro e w9 ⟨A7, vv, l7, rfl, vo, hb⟩
    have hbw := bz (w := W0) bem hb
    obtain ⟨hc, hfz⟩ := dz hbw
    go_wp2_with fail
    refine ((aa La) _ A7 vv l7 vo).mono ?_
    rintro e w' ⟨s, oz, A', cap', l', rfl, hf, hb⟩
    have hbw := bz (w := W0) bem hb
    obtain ⟨hc, hfz⟩ := dz hbw
    have hblk : w'.heap[w.heap.size + 1 + 1]? = some (.cells #[.int .i64 0, .bool false, .slice none 0 0] 77 (0, 0)) := (hbw.block _ q2).trans N3.out
    have jy := Lib.hid hblk
    have jh : Below w.heap.size w w' := bg hw0 hbw
    clear hblk
    go_wp2_with fail
    exact bodyPost_ret (v := .agg #[.int .i64 s, .bool oz, .slice A' l'.length cap']) (by simp [results, Tryz.results166, go_sem, hc, k7, k8, k9, q2]) rfl
     ⟨s, oz, A', cap', l', rfl, hf.upto jy.out (si _ _ _ _ _) (ik _ _ _ _ _), jh.grown (ik _ _ _ _ _) jh.size (fun k hk => by injection hk with hk; omega)⟩


theorem afo (s1 : Int) (cz : Bool) (A1 : Option Addr) (c1 : Nat) (l1 : List Nat) (z1 : Int) (s2 : Int) (cu : Bool) (A2 : Option Addr) (c2 : Nat) (l2 : List Nat) (z2 : Int) (w : World)
  (h1 : fq w s1 cz A1 c1 l1 z1) (h2 : fq w s2 cu A2 c2 l2 z2) (hl1 : l1.length ≤ lim) (hl2 : l2.length ≤ lim) :
  Calls Tryz.prog 166 #[.agg #[.int .i64 s1, .bool cz, .slice A1 l1.length c1], .agg #[.int .i64 s2, .bool cu, .slice A2 l2.length c2]] w fun e w' => Bq w (z1 + z2) e w' := by
 by_cases a : l1.length = 0 ∧ l2.length = 0
 ·
  by_cases hz : (z1 + z2).natAbs < Iq
  ·
   exact amb s1 cz A1 c1 l1 z1 s2 cu A2 c2 l2 z2 w h1 h2 hl1 hl2 a.1 a.2 hz
  ·
   exact aqi s1 cz A1 c1 l1 z1 s2 cu A2 c2 l2 z2 w h1 h2 hl1 hl2 a.1 a.2 (Nat.le_of_not_lt hz)
 ·
  exact aug s1 cz A1 c1 l1 z1 s2 cu A2 c2 l2 z2 w h1 h2 hl1 hl2 a

end Go.Proofs.YtfgeaakhlcaibaaGreatDoor
