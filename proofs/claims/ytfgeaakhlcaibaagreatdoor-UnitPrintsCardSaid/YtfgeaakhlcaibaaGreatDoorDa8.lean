/- Texts beneath a law of layer 1. -/
import Derived.Test.YtfgeaakhlcaibaaGreatDoorDa7
import Derived.BigQuiet
import Derived.Deep.QuietTactic
import Derived.Laws.Bits64b
import Derived.Deep.CutBlock
import Derived.Deep.DeepCutAuto
set_option maxRecDepth 100000
set_option maxHeartbeats 16000000
namespace Go.Proofs.YtfgeaakhlcaibaaGreatDoor
open Go.RowKit

theorem auz (s1 : Int) (cz : Bool) (A1 : Option Addr) (c1 : Nat) (l1 : List Nat) (s2 : Int) (cu : Bool) (A2 : Option Addr) (c2 : Nat) (l2 : List Nat) (z1 z2 g r1 r2 : Int) (w : World) (f1 : fw w s1 cz A1 c1 l1 z1) (f2 : fw w s2 cu A2 c2 l2 z2) (hs : ¬ z2 < 0)
  (hg : Bj w 164 z1 z2 g) (hq1 : Bj w 165 z1 g r1) (hq2 : Bj w 165 z2 g r2) :
  Calls Tryz.prog 136 #[(Value.agg #[.int .i64 s1, .bool cz, .slice A1 l1.length c1]), (Value.agg #[.int .i64 s2, .bool cu, .slice A2 l2.length c2])] w fun e w' => Gh w r1 r2 e w' := by

 have H1 := hide f1
 have H2 := hide f2
 have HG := hide hg
 have Uq := hide hq1
 have HQ2 := hide hq2
 have hs' : decide (qi z2 < 0) = false := decide_eq_false (by rw [Gy]; exact hs)
 obtain ⟨o, ho⟩ : ∃ o, o = qi z2 := ⟨_, rfl⟩
 have HS := hide (fun W (f : fw W s2 cu A2 c2 l2 z2) => (show Calls Tryz.prog 159 #[(Value.agg #[.int .i64 s2, .bool cu, .slice A2 l2.length c2])] W fun e w' => e = .returned (.int .i64 o) ∧ Below W.heap.size W w' by rw [ho]; exact zg s2 cu A2 c2 l2 z2 W f))
 rw [← ho] at hs'
 clear f1 f2 hg hq1 hq2 hs ho
 go_enter Tryz.func136, Tryz.ntmps136
 go_upto_region 1 with fail
 obtain ⟨n0, n1, n2, hsz, hw0⟩ := ni w (.cells #[.int .i64 s1, .bool cz, .slice A1 l1.length c1] 77) (.cells #[.int .i64 s2, .bool cu, .slice A2 l2.length c2] 77) (.cells #[.int .i64 0, .bool false, .slice none 0 0, .int .i64 0, .bool false, .slice none 0 0] 79)
 generalize (((w.alloc (.cells #[.int .i64 s1, .bool cz, .slice A1 l1.length c1] 77)).alloc (.cells #[.int .i64 s2, .bool cu, .slice A2 l2.length c2] 77)).alloc (.cells #[.int .i64 0, .bool false, .slice none 0 0, .int .i64 0, .bool false, .slice none 0 0] 79)) = W0 at *
 have vv : W0.cell? ⟨w.heap.size, 0, none⟩ = some (.int .i64 s1) := ag n0 0
 have vo : W0.cell? ⟨w.heap.size, 1, none⟩ = some (.bool cz) := ag n0 1
 have zq : W0.cell? ⟨w.heap.size, 2, none⟩ = some (.slice A1 l1.length c1) := ag n0 2
 have q0 : w.heap.size < W0.heap.size := by omega
 have yg : W0.cell? ⟨w.heap.size + 1, 0, none⟩ = some (.int .i64 s2) := ag n1 0
 have yf : W0.cell? ⟨w.heap.size + 1, 1, none⟩ = some (.bool cu) := ag n1 1
 have Gn : W0.cell? ⟨w.heap.size + 1, 2, none⟩ = some (.slice A2 l2.length c2) := ag n1 2
 have q1 : w.heap.size + 1 < W0.heap.size := by omega
 have agc : W0.cell? ⟨w.heap.size + 1 + 1, 0, none⟩ = some (.int .i64 0) := ag n2 0
 have agb : W0.cell? ⟨w.heap.size + 1 + 1, 1, none⟩ = some (.bool false) := ag n2 1
 have aga : W0.cell? ⟨w.heap.size + 1 + 1, 2, none⟩ = some (.slice none 0 0) := ag n2 2
 have afz : W0.cell? ⟨w.heap.size + 1 + 1, 3, none⟩ = some (.int .i64 0) := ag n2 3
 have afy : W0.cell? ⟨w.heap.size + 1 + 1, 4, none⟩ = some (.bool false) := ag n2 4
 have afx : W0.cell? ⟨w.heap.size + 1 + 1, 5, none⟩ = some (.slice none 0 0) := ag n2 5
 have q2 : w.heap.size + 1 + 1 < W0.heap.size := by omega
 have ahs := ai n2 0
 have ahr := ai n2 1
 have ahq := ai n2 2
 have ahp := ai n2 3
 have aho := ai n2 4
 have ahn := ai n2 5
 have NR := Lib.hid n2
 clear hsz n0 n1 n2
 replace H1 := hide ((aa H1).below hw0)
 replace H2 := hide ((aa H2).below hw0)
 go_cut [5] (fun s5_ wx => ∃ b5 : Nat, s5_ = .pointer (some ⟨b5, 0, none⟩) ∧ Cs wx b5 g ∧ Below W0.heap.size W0 wx ∧ W0.heap.size ≤ b5)
 case first =>
  go_wp2_with fail
  refine ((aa HG) s1 cz A1 c1 l1 s2 cu A2 c2 l2 _ hw0 (aa H1) (aa H2)).mono ?_
  rintro e w' ⟨s5, qg, A5, c5, l5, rfl, Bc, hb5⟩
  go_wp2_with fail
  go_meet
  exact ⟨_, rfl, aya Bc hb5 rfl⟩
 case rest =>
  revert hcut
  generalize wc = W1
  intro hcut
  obtain ⟨b5, rfl, ⟨s5, qg, A5, c5, l5, n5, f5⟩, hB1, ob5⟩ := hcut
  have Xl : W1.cell? ⟨b5, 0, none⟩ = some (.int .i64 s5) := ag n5 0
  have Xk : W1.cell? ⟨b5, 1, none⟩ = some (.bool qg) := ag n5 1
  have Xj : W1.cell? ⟨b5, 2, none⟩ = some (.slice A5 l5.length c5) := ag n5 2
  have y0 : W1.cell? ⟨w.heap.size + 1, 0, none⟩ = some (.int .i64 s2) := gy hB1 q1 yg
  have y1 : W1.cell? ⟨w.heap.size + 1, 1, none⟩ = some (.bool cu) := gy hB1 q1 yf
  have y2 : W1.cell? ⟨w.heap.size + 1, 2, none⟩ = some (.slice A2 l2.length c2) := gy hB1 q1 Gn
  go_wp2_with fail
  refine ((aa HS) W1 ((aa H2).below hB1)).mono ?_
  rintro e W2 ⟨rfl, hb⟩
  have q5 := lt_of_block n5
  have n5' := (hb.block _ q5).trans n5
  have f5' := f5.below hb
  have hB := ay hB1 hb
  clear Xl Xk Xj y0 y1 y2 f5 n5 hB1
  have ng := n5'
  have fg := f5'
  clear n5' f5' hb
  have FG := hide fg
  clear fg
  have Zq : W2.cell? ⟨w.heap.size, 0, none⟩ = some (.int .i64 s1) := gy hB q0 vv
  have Zp : W2.cell? ⟨w.heap.size, 1, none⟩ = some (.bool cz) := gy hB q0 vo
  have Zo : W2.cell? ⟨w.heap.size, 2, none⟩ = some (.slice A1 l1.length c1) := gy hB q0 zq
  have Ph : w.heap.size < W2.heap.size := Nat.lt_of_lt_of_le q0 hB.size
  have Zn : W2.cell? ⟨w.heap.size + 1, 0, none⟩ = some (.int .i64 s2) := gy hB q1 yg
  have Zm : W2.cell? ⟨w.heap.size + 1, 1, none⟩ = some (.bool cu) := gy hB q1 yf
  have Zl : W2.cell? ⟨w.heap.size + 1, 2, none⟩ = some (.slice A2 l2.length c2) := gy hB q1 Gn
  have q1' : w.heap.size + 1 < W2.heap.size := Nat.lt_of_lt_of_le q1 hB.size
  have Ri := ag ng 0
  have Rh := ag ng 1
  have Rf := ag ng 2
  have Pg := lt_of_block ng
  simp only [Array.getElem?_eq_getElem, ji, jh, jg] at Ri Rh Rf
  have avh : W2.cell? ⟨w.heap.size + 1 + 1, 0, none⟩ = some (.int .i64 0) := gy hB q2 agc
  have boo : W2.frozen? ⟨w.heap.size + 1 + 1, 0, none⟩ = false := (hB.frozen (p := ⟨w.heap.size + 1 + 1, 0, none⟩) q2).trans ahs
  have avg : W2.cell? ⟨w.heap.size + 1 + 1, 1, none⟩ = some (.bool false) := gy hB q2 agb
  have bon : W2.frozen? ⟨w.heap.size + 1 + 1, 1, none⟩ = false := (hB.frozen (p := ⟨w.heap.size + 1 + 1, 1, none⟩) q2).trans ahr
  have avf : W2.cell? ⟨w.heap.size + 1 + 1, 2, none⟩ = some (.slice none 0 0) := gy hB q2 aga
  have bom : W2.frozen? ⟨w.heap.size + 1 + 1, 2, none⟩ = false := (hB.frozen (p := ⟨w.heap.size + 1 + 1, 2, none⟩) q2).trans ahq
  have ave : W2.cell? ⟨w.heap.size + 1 + 1, 3, none⟩ = some (.int .i64 0) := gy hB q2 afz
  have bok : W2.frozen? ⟨w.heap.size + 1 + 1, 3, none⟩ = false := (hB.frozen (p := ⟨w.heap.size + 1 + 1, 3, none⟩) q2).trans ahp
  have avd : W2.cell? ⟨w.heap.size + 1 + 1, 4, none⟩ = some (.bool false) := gy hB q2 afy
  have boj : W2.frozen? ⟨w.heap.size + 1 + 1, 4, none⟩ = false := (hB.frozen (p := ⟨w.heap.size + 1 + 1, 4, none⟩) q2).trans aho
  have avc : W2.cell? ⟨w.heap.size + 1 + 1, 5, none⟩ = some (.slice none 0 0) := gy hB q2 afx
  have boi : W2.frozen? ⟨w.heap.size + 1 + 1, 5, none⟩ = false := (hB.frozen (p := ⟨w.heap.size + 1 + 1, 5, none⟩) q2).trans ahn
  have qr : w.heap.size + 1 + 1 < W2.heap.size := Nat.lt_of_lt_of_le q2 hB.size
  have or5 : w.heap.size + 1 + 1 < b5 := Nat.lt_of_lt_of_le q2 ob5
  clear vv vo zq yg yf Gn agc agb aga afz afy afx ahs ahr ahq ahp aho ahn ng
  have KEEP := hide (show ∀ X, Below W2.heap.size W2 X → X.cell? ⟨w.heap.size, 0, none⟩ = some (.int .i64 s1) ∧ X.cell? ⟨w.heap.size, 1, none⟩ = some (.bool cz) ∧ X.cell? ⟨w.heap.size, 2, none⟩ = some (.slice A1 l1.length c1) ∧ X.cell? ⟨w.heap.size + 1, 0, none⟩ = some (.int .i64 s2) ∧ X.cell? ⟨w.heap.size + 1, 1, none⟩ = some (.bool cu) ∧ X.cell? ⟨w.heap.size + 1, 2, none⟩ = some (.slice A2 l2.length c2) ∧ X.cell? ⟨b5, 0, none⟩ = some (.int .i64 s5) ∧ X.cell? ⟨b5, 1, none⟩ = some (.bool qg) ∧ X.cell? ⟨b5, 2, none⟩ = some (.slice A5 l5.length c5) from fun X hX => ⟨gy hX Ph Zq, gy hX Ph Zp, gy hX Ph Zo, gy hX q1' Zn, gy hX q1' Zm, gy hX q1' Zl, gy hX Pg Ri, gy hX Pg Rh, gy hX Pg Rf⟩)
  go_wp2_with fail
  go_region_held3 (fun w' => w'.cell? ⟨w.heap.size, 0, none⟩ = some (.int .i64 s1) ∧ w'.cell? ⟨w.heap.size, 1, none⟩ = some (.bool cz) ∧ w'.cell? ⟨w.heap.size, 2, none⟩ = some (.slice A1 l1.length c1) ∧ w'.cell? ⟨w.heap.size + 1, 0, none⟩ = some (.int .i64 s2) ∧ w'.cell? ⟨w.heap.size + 1, 1, none⟩ = some (.bool cu) ∧ w'.cell? ⟨w.heap.size + 1, 2, none⟩ = some (.slice A2 l2.length c2) ∧ w'.cell? ⟨b5, 0, none⟩ = some (.int .i64 s5) ∧ w'.cell? ⟨b5, 1, none⟩ = some (.bool qg) ∧ w'.cell? ⟨b5, 2, none⟩ = some (.slice A5 l5.length c5)) (first | with_reducible exact ⟨(jd _ _ _ _ _ _ _ _ om).trans (gy hbw Ph Zq), (jd _ _ _ _ _ _ _ _ om).trans (gy hbw Ph Zp), (jd _ _ _ _ _ _ _ _ om).trans (gy hbw Ph Zo), (jd _ _ _ _ _ _ _ _ om).trans (gy hbw q1' Zn), (jd _ _ _ _ _ _ _ _ om).trans (gy hbw q1' Zm), (jd _ _ _ _ _ _ _ _ om).trans (gy hbw q1' Zl), (jd _ _ _ _ _ _ _ _ om).trans (gy hbw Pg Ri), (jd _ _ _ _ _ _ _ _ om).trans (gy hbw Pg Rh), (jd _ _ _ _ _ _ _ _ om).trans (gy hbw Pg Rf)⟩ | with_reducible exact (aa KEEP) _ bel) (first | (go_at_call_of 165 (Value.agg #[.int .i64 s1, .bool cz, .slice A1 l1.length c1]); refine ((aa Uq) s1 cz A1 c1 l1 s5 qg A5 c5 l5 _ (ay hw0 (ay hB bel)) (fw.below (aa H1) (ay hB bel)) (fw.below (aa FG) bel)).mono ?_; rintro e w' ⟨s8, afp, A8, c8, l8, rfl, hf8, hb8⟩; have hbw := bz (w := W2) bel hb8; have hsw := hbw.size; obtain ⟨hc, hfz⟩ := fe hbw) | (go_at_call_of 165 (Value.agg #[.int .i64 s2, .bool cu, .slice A2 l2.length c2]); refine ((aa HQ2) s2 cu A2 c2 l2 s5 qg A5 c5 l5 _ (ay hw0 (ay hB bel)) (fw.below (aa H2) (ay hB bel)) (fw.below (aa FG) bel)).mono ?_; rintro e w' ⟨s9, afo, A9, c9, l9, rfl, hf9, jq⟩; have hf8 := fw.below (fw.below hf8 bel) jq; have hbw := bz (w := W2) bel jq; have hsw := hbw.size; obtain ⟨hc, hfz⟩ := fe hbw))
  have hBB : Below W0.heap.size W0 w' := ay hB hbw
  have hblk : w'.heap[w.heap.size + 1 + 1]? = some (.cells #[.int .i64 0, .bool false, .slice none 0 0, .int .i64 0, .bool false, .slice none 0 0] 79 (0, 0)) := (hBB.block _ q2).trans NR.out
  have ky := Lib.hid hblk
  have jq : Below w.heap.size w w' := ay hw0 hBB
  clear hblk
  go_wp2_with fail
  exact bodyPost_ret (v := (Value.agg #[.int .i64 s8, .bool afp, .slice A8 l8.length c8, .int .i64 s9, .bool afo, .slice A9 l9.length c9])) (by simp [results, Tryz.results136, go_sem, hc, avh, avg, avf, ave, avd, avc, qr]) rfl
   ⟨s8, afp, A8, c8, l8, s9, afo, A9, c9, l9, rfl, (hf8).upto ky.out (ui _ _ _ _ _ _ _ _ _ _) (kg _ _ _ _ _ _ _ _), (hf9).upto ky.out (ui _ _ _ _ _ _ _ _ _ _) (kg _ _ _ _ _ _ _ _), jq.grown (kg _ _ _ _ _ _ _ _) jq.size (fun k hk => by injection hk with hk; omega)⟩
theorem ava (s1 : Int) (cz : Bool) (A1 : Option Addr) (c1 : Nat) (l1 : List Nat) (s2 : Int) (cu : Bool) (A2 : Option Addr) (c2 : Nat) (l2 : List Nat) (z1 z2 g gn r1 r2 : Int) (w : World) (f1 : fw w s1 cz A1 c1 l1 z1) (f2 : fw w s2 cu A2 c2 l2 z2) (hs : z2 < 0) (hgn : gn = -g)
  (hg : Bj w 164 z1 z2 g) (hq1 : Bj w 165 z1 gn r1) (hq2 : Bj w 165 z2 gn r2) :
  Calls Tryz.prog 136 #[(Value.agg #[.int .i64 s1, .bool cz, .slice A1 l1.length c1]), (Value.agg #[.int .i64 s2, .bool cu, .slice A2 l2.length c2])] w fun e w' => Gh w r1 r2 e w' := by
 subst hgn
 have H1 := hide f1
 have H2 := hide f2
 have HG := hide hg
 have Uq := hide hq1
 have HQ2 := hide hq2
 have hs' : decide (qi z2 < 0) = true := decide_eq_true (by rw [Gy]; exact hs)
 obtain ⟨o, ho⟩ : ∃ o, o = qi z2 := ⟨_, rfl⟩
 have HS := hide (fun W (f : fw W s2 cu A2 c2 l2 z2) => (show Calls Tryz.prog 159 #[(Value.agg #[.int .i64 s2, .bool cu, .slice A2 l2.length c2])] W fun e w' => e = .returned (.int .i64 o) ∧ Below W.heap.size W w' by rw [ho]; exact zg s2 cu A2 c2 l2 z2 W f))
 rw [← ho] at hs'
 clear f1 f2 hg hq1 hq2 hs ho
 go_enter Tryz.func136, Tryz.ntmps136
 go_upto_region 1 with fail
 obtain ⟨n0, n1, n2, hsz, hw0⟩ := ni w (.cells #[.int .i64 s1, .bool cz, .slice A1 l1.length c1] 77) (.cells #[.int .i64 s2, .bool cu, .slice A2 l2.length c2] 77) (.cells #[.int .i64 0, .bool false, .slice none 0 0, .int .i64 0, .bool false, .slice none 0 0] 79)
 generalize (((w.alloc (.cells #[.int .i64 s1, .bool cz, .slice A1 l1.length c1] 77)).alloc (.cells #[.int .i64 s2, .bool cu, .slice A2 l2.length c2] 77)).alloc (.cells #[.int .i64 0, .bool false, .slice none 0 0, .int .i64 0, .bool false, .slice none 0 0] 79)) = W0 at *
 have vv : W0.cell? ⟨w.heap.size, 0, none⟩ = some (.int .i64 s1) := ag n0 0
 have vo : W0.cell? ⟨w.heap.size, 1, none⟩ = some (.bool cz) := ag n0 1
 have zq : W0.cell? ⟨w.heap.size, 2, none⟩ = some (.slice A1 l1.length c1) := ag n0 2
 have q0 : w.heap.size < W0.heap.size := by omega
 have yg : W0.cell? ⟨w.heap.size + 1, 0, none⟩ = some (.int .i64 s2) := ag n1 0
 have yf : W0.cell? ⟨w.heap.size + 1, 1, none⟩ = some (.bool cu) := ag n1 1
 have Gn : W0.cell? ⟨w.heap.size + 1, 2, none⟩ = some (.slice A2 l2.length c2) := ag n1 2
 have q1 : w.heap.size + 1 < W0.heap.size := by omega
 have agc : W0.cell? ⟨w.heap.size + 1 + 1, 0, none⟩ = some (.int .i64 0) := ag n2 0
 have agb : W0.cell? ⟨w.heap.size + 1 + 1, 1, none⟩ = some (.bool false) := ag n2 1
 have aga : W0.cell? ⟨w.heap.size + 1 + 1, 2, none⟩ = some (.slice none 0 0) := ag n2 2
 have afz : W0.cell? ⟨w.heap.size + 1 + 1, 3, none⟩ = some (.int .i64 0) := ag n2 3
 have afy : W0.cell? ⟨w.heap.size + 1 + 1, 4, none⟩ = some (.bool false) := ag n2 4
 have afx : W0.cell? ⟨w.heap.size + 1 + 1, 5, none⟩ = some (.slice none 0 0) := ag n2 5
 have q2 : w.heap.size + 1 + 1 < W0.heap.size := by omega
 have ahs := ai n2 0
 have ahr := ai n2 1
 have ahq := ai n2 2
 have ahp := ai n2 3
 have aho := ai n2 4
 have ahn := ai n2 5
 have NR := Lib.hid n2
 clear hsz n0 n1 n2
 replace H1 := hide ((aa H1).below hw0)
 replace H2 := hide ((aa H2).below hw0)
 go_cut [5] (fun s5_ wx => ∃ b5 : Nat, s5_ = .pointer (some ⟨b5, 0, none⟩) ∧ Cs wx b5 g ∧ Below W0.heap.size W0 wx ∧ W0.heap.size ≤ b5)
 case first =>
  go_wp2_with fail
  refine ((aa HG) s1 cz A1 c1 l1 s2 cu A2 c2 l2 _ hw0 (aa H1) (aa H2)).mono ?_
  rintro e w' ⟨s5, qg, A5, c5, l5, rfl, Bc, hb5⟩
  go_wp2_with fail
  go_meet
  exact ⟨_, rfl, aya Bc hb5 rfl⟩
 case rest =>
  revert hcut
  generalize wc = W1
  intro hcut
  obtain ⟨b5, rfl, ⟨s5, qg, A5, c5, l5, n5, f5⟩, hB1, ob5⟩ := hcut
  have Xl : W1.cell? ⟨b5, 0, none⟩ = some (.int .i64 s5) := ag n5 0
  have Xk : W1.cell? ⟨b5, 1, none⟩ = some (.bool qg) := ag n5 1
  have Xj : W1.cell? ⟨b5, 2, none⟩ = some (.slice A5 l5.length c5) := ag n5 2
  have y0 : W1.cell? ⟨w.heap.size + 1, 0, none⟩ = some (.int .i64 s2) := gy hB1 q1 yg
  have y1 : W1.cell? ⟨w.heap.size + 1, 1, none⟩ = some (.bool cu) := gy hB1 q1 yf
  have y2 : W1.cell? ⟨w.heap.size + 1, 2, none⟩ = some (.slice A2 l2.length c2) := gy hB1 q1 Gn
  go_wp2_with fail
  refine ((aa HS) W1 ((aa H2).below hB1)).mono ?_
  rintro e W2 ⟨rfl, hb⟩
  have q5 := lt_of_block n5
  have n5' := (hb.block _ q5).trans n5
  have f5' := f5.below hb
  have hB := ay hB1 hb
  clear Xl Xk Xj y0 y1 y2 f5 n5 hB1
  have Xl : W2.cell? ⟨b5, 0, none⟩ = some (.int .i64 s5) := ag n5' 0
  have Xk : W2.cell? ⟨b5, 1, none⟩ = some (.bool qg) := ag n5' 1
  have Xj : W2.cell? ⟨b5, 2, none⟩ = some (.slice A5 l5.length c5) := ag n5' 2
  have F5 := hide f5'
  clear f5' hb
  go_wp2_with fail
  refine (Vb s5 qg A5 c5 l5 g _ (aa F5)).mono ?_
  rintro e W3 ⟨s7, Tj, A7, c7, l7, rfl, hf7, hb⟩
  have n5 := (hb.block _ (lt_of_block n5')).trans n5'
  replace hB := ay hB hb
  clear Xl Xk Xj n5' hb
  have Xl : W3.cell? ⟨b5, 0, none⟩ = some (.int .i64 s5) := ag n5 0
  have Xk : W3.cell? ⟨b5, 1, none⟩ = some (.bool qg) := ag n5 1
  have Xj : W3.cell? ⟨b5, 2, none⟩ = some (.slice A5 l5.length c5) := ag n5 2
  have bnb := ai n5 0
  have bna := ai n5 1
  have bmz := ai n5 2
  have HF7 := hide hf7
  have N5 := hide n5
  clear hf7 n5
  go_upto_region 4 with fail
  have pb := Yv (u0 := .int .i64 s7) (u1 := .bool Tj) (u2 := .slice A7 l7.length c7) (aa N5)
  have g3 := il W3 b5 (.int .i64 s7) (.bool Tj) (.slice A7 l7.length c7)
  have fg := (aa HF7).upto (aa N5) (qw _ _ _ _ _) g3
  replace hB := hB.grown g3 hB.size (fun k hk => by injection hk with hk; omega)
  have ng := pb
  clear pb g3 Xl Xk Xj bnb bna bmz
  generalize (((W3.setCell ⟨b5, 0, none⟩ (.int .i64 s7)).setCell ⟨b5, 1, none⟩ (.bool Tj)).setCell ⟨b5, 2, none⟩ (.slice A7 l7.length c7)) = W4 at *
  have FG := hide fg
  clear fg
  have Zq : W4.cell? ⟨w.heap.size, 0, none⟩ = some (.int .i64 s1) := gy hB q0 vv
  have Zp : W4.cell? ⟨w.heap.size, 1, none⟩ = some (.bool cz) := gy hB q0 vo
  have Zo : W4.cell? ⟨w.heap.size, 2, none⟩ = some (.slice A1 l1.length c1) := gy hB q0 zq
  have Ph : w.heap.size < W4.heap.size := Nat.lt_of_lt_of_le q0 hB.size
  have Zn : W4.cell? ⟨w.heap.size + 1, 0, none⟩ = some (.int .i64 s2) := gy hB q1 yg
  have Zm : W4.cell? ⟨w.heap.size + 1, 1, none⟩ = some (.bool cu) := gy hB q1 yf
  have Zl : W4.cell? ⟨w.heap.size + 1, 2, none⟩ = some (.slice A2 l2.length c2) := gy hB q1 Gn
  have q1' : w.heap.size + 1 < W4.heap.size := Nat.lt_of_lt_of_le q1 hB.size
  have Ri := ag ng 0
  have Rh := ag ng 1
  have Rf := ag ng 2
  have Pg := lt_of_block ng
  simp only [Array.getElem?_eq_getElem, ji, jh, jg] at Ri Rh Rf
  have avh : W4.cell? ⟨w.heap.size + 1 + 1, 0, none⟩ = some (.int .i64 0) := gy hB q2 agc
  have boo : W4.frozen? ⟨w.heap.size + 1 + 1, 0, none⟩ = false := (hB.frozen (p := ⟨w.heap.size + 1 + 1, 0, none⟩) q2).trans ahs
  have avg : W4.cell? ⟨w.heap.size + 1 + 1, 1, none⟩ = some (.bool false) := gy hB q2 agb
  have bon : W4.frozen? ⟨w.heap.size + 1 + 1, 1, none⟩ = false := (hB.frozen (p := ⟨w.heap.size + 1 + 1, 1, none⟩) q2).trans ahr
  have avf : W4.cell? ⟨w.heap.size + 1 + 1, 2, none⟩ = some (.slice none 0 0) := gy hB q2 aga
  have bom : W4.frozen? ⟨w.heap.size + 1 + 1, 2, none⟩ = false := (hB.frozen (p := ⟨w.heap.size + 1 + 1, 2, none⟩) q2).trans ahq
  have ave : W4.cell? ⟨w.heap.size + 1 + 1, 3, none⟩ = some (.int .i64 0) := gy hB q2 afz
  have bok : W4.frozen? ⟨w.heap.size + 1 + 1, 3, none⟩ = false := (hB.frozen (p := ⟨w.heap.size + 1 + 1, 3, none⟩) q2).trans ahp
  have avd : W4.cell? ⟨w.heap.size + 1 + 1, 4, none⟩ = some (.bool false) := gy hB q2 afy
  have boj : W4.frozen? ⟨w.heap.size + 1 + 1, 4, none⟩ = false := (hB.frozen (p := ⟨w.heap.size + 1 + 1, 4, none⟩) q2).trans aho
  have avc : W4.cell? ⟨w.heap.size + 1 + 1, 5, none⟩ = some (.slice none 0 0) := gy hB q2 afx
  have boi : W4.frozen? ⟨w.heap.size + 1 + 1, 5, none⟩ = false := (hB.frozen (p := ⟨w.heap.size + 1 + 1, 5, none⟩) q2).trans ahn
  have qr : w.heap.size + 1 + 1 < W4.heap.size := Nat.lt_of_lt_of_le q2 hB.size
  have or5 : w.heap.size + 1 + 1 < b5 := Nat.lt_of_lt_of_le q2 ob5
  clear vv vo zq yg yf Gn agc agb aga afz afy afx ahs ahr ahq ahp aho ahn ng
  have KEEP := hide (show ∀ X, Below W4.heap.size W4 X → X.cell? ⟨w.heap.size, 0, none⟩ = some (.int .i64 s1) ∧ X.cell? ⟨w.heap.size, 1, none⟩ = some (.bool cz) ∧ X.cell? ⟨w.heap.size, 2, none⟩ = some (.slice A1 l1.length c1) ∧ X.cell? ⟨w.heap.size + 1, 0, none⟩ = some (.int .i64 s2) ∧ X.cell? ⟨w.heap.size + 1, 1, none⟩ = some (.bool cu) ∧ X.cell? ⟨w.heap.size + 1, 2, none⟩ = some (.slice A2 l2.length c2) ∧ X.cell? ⟨b5, 0, none⟩ = some (.int .i64 s7) ∧ X.cell? ⟨b5, 1, none⟩ = some (.bool Tj) ∧ X.cell? ⟨b5, 2, none⟩ = some (.slice A7 l7.length c7) from fun X hX => ⟨gy hX Ph Zq, gy hX Ph Zp, gy hX Ph Zo, gy hX q1' Zn, gy hX q1' Zm, gy hX q1' Zl, gy hX Pg Ri, gy hX Pg Rh, gy hX Pg Rf⟩)
  go_wp2_with fail
  go_region_held3 (fun w' => w'.cell? ⟨w.heap.size, 0, none⟩ = some (.int .i64 s1) ∧ w'.cell? ⟨w.heap.size, 1, none⟩ = some (.bool cz) ∧ w'.cell? ⟨w.heap.size, 2, none⟩ = some (.slice A1 l1.length c1) ∧ w'.cell? ⟨w.heap.size + 1, 0, none⟩ = some (.int .i64 s2) ∧ w'.cell? ⟨w.heap.size + 1, 1, none⟩ = some (.bool cu) ∧ w'.cell? ⟨w.heap.size + 1, 2, none⟩ = some (.slice A2 l2.length c2) ∧ w'.cell? ⟨b5, 0, none⟩ = some (.int .i64 s7) ∧ w'.cell? ⟨b5, 1, none⟩ = some (.bool Tj) ∧ w'.cell? ⟨b5, 2, none⟩ = some (.slice A7 l7.length c7)) (first | with_reducible exact ⟨(jd _ _ _ _ _ _ _ _ om).trans (gy hbw Ph Zq), (jd _ _ _ _ _ _ _ _ om).trans (gy hbw Ph Zp), (jd _ _ _ _ _ _ _ _ om).trans (gy hbw Ph Zo), (jd _ _ _ _ _ _ _ _ om).trans (gy hbw q1' Zn), (jd _ _ _ _ _ _ _ _ om).trans (gy hbw q1' Zm), (jd _ _ _ _ _ _ _ _ om).trans (gy hbw q1' Zl), (jd _ _ _ _ _ _ _ _ om).trans (gy hbw Pg Ri), (jd _ _ _ _ _ _ _ _ om).trans (gy hbw Pg Rh), (jd _ _ _ _ _ _ _ _ om).trans (gy hbw Pg Rf)⟩ | with_reducible exact (aa KEEP) _ bel) (first | (go_at_call_of 165 (Value.agg #[.int .i64 s1, .bool cz, .slice A1 l1.length c1]); refine ((aa Uq) s1 cz A1 c1 l1 s7 Tj A7 c7 l7 _ (ay hw0 (ay hB bel)) (fw.below (aa H1) (ay hB bel)) (fw.below (aa FG) bel)).mono ?_; rintro e w' ⟨s8, afp, A8, c8, l8, rfl, hf8, hb8⟩; have hbw := bz (w := W4) bel hb8; have hsw := hbw.size; obtain ⟨hc, hfz⟩ := fe hbw) | (go_at_call_of 165 (Value.agg #[.int .i64 s2, .bool cu, .slice A2 l2.length c2]); refine ((aa HQ2) s2 cu A2 c2 l2 s7 Tj A7 c7 l7 _ (ay hw0 (ay hB bel)) (fw.below (aa H2) (ay hB bel)) (fw.below (aa FG) bel)).mono ?_; rintro e w' ⟨s9, afo, A9, c9, l9, rfl, hf9, jq⟩; have hf8 := fw.below (fw.below hf8 bel) jq; have hbw := bz (w := W4) bel jq; have hsw := hbw.size; obtain ⟨hc, hfz⟩ := fe hbw))
  have hBB : Below W0.heap.size W0 w' := ay hB hbw
  have hblk : w'.heap[w.heap.size + 1 + 1]? = some (.cells #[.int .i64 0, .bool false, .slice none 0 0, .int .i64 0, .bool false, .slice none 0 0] 79 (0, 0)) := (hBB.block _ q2).trans NR.out
  have ky := Lib.hid hblk
  have jq : Below w.heap.size w w' := ay hw0 hBB
  clear hblk
  go_wp2_with fail
  exact bodyPost_ret (v := (Value.agg #[.int .i64 s8, .bool afp, .slice A8 l8.length c8, .int .i64 s9, .bool afo, .slice A9 l9.length c9])) (by simp [results, Tryz.results136, go_sem, hc, avh, avg, avf, ave, avd, avc, qr]) rfl
   ⟨s8, afp, A8, c8, l8, s9, afo, A9, c9, l9, rfl, (hf8).upto ky.out (ui _ _ _ _ _ _ _ _ _ _) (kg _ _ _ _ _ _ _ _), (hf9).upto ky.out (ui _ _ _ _ _ _ _ _ _ _) (kg _ _ _ _ _ _ _ _), jq.grown (kg _ _ _ _ _ _ _ _) jq.size (fun k hk => by injection hk with hk; omega)⟩
theorem Xi {K : Nat} (s1 : Int) (cz : Bool) (A1 : Option Addr) (c1 : Nat) (l1 : List Nat) (s2 : Int) (cu : Bool) (A2 : Option Addr) (c2 : Nat) (l2 : List Nat) (z1 z2 : Int) (w : World) (hT : og w) (f1 : fw w s1 cz A1 c1 l1 z1) (f2 : fw w s2 cu A2 c2 l2 z2) (h0 : z2 ≠ 0) (hx : Wd.Sz dh K z1) (hy : Wd.Sz dh K z2) (hK : K ≤ lim) :
  Calls Tryz.prog 136 #[(Value.agg #[.int .i64 s1, .bool cz, .slice A1 l1.length c1]), (Value.agg #[.int .i64 s2, .bool cu, .slice A2 l2.length c2])] w fun e w' => Gh w (Rat.divInt z1 z2).num ((Rat.divInt z1 z2).den : Int) e w' := by
 have hp := Wd.Mt z1 z2 h0
 have g0 : 0 < z1.natAbs.gcd z2.natAbs := Nat.gcd_pos_of_pos_right _ om
 have sg : Wd.Sz dh K ((z1.natAbs.gcd z2.natAbs : Nat) : Int) := hy.gcd_right h0
 rw [hp.1, hp.2]
 by_cases hs : z2 < 0
 ·
  have e : z2.sign * ((z1.natAbs.gcd z2.natAbs : Nat) : Int) = -((z1.natAbs.gcd z2.natAbs : Nat) : Int) := by rw [Int.sign_eq_neg_one_of_neg hs]; omega
  rw [e]
  exact ava s1 cz A1 c1 l1 s2 cu A2 c2 l2 z1 z2 _ _ _ _ w f1 f2 hs rfl (Po hT hx hy hK rfl) (Dc hx sg.neg hK om rfl) (Dc hy sg.neg hK om rfl)
 ·
  have e : z2.sign * ((z1.natAbs.gcd z2.natAbs : Nat) : Int) = ((z1.natAbs.gcd z2.natAbs : Nat) : Int) := by rw [Int.sign_eq_one_of_pos om]; omega
  rw [e]
  exact auz s1 cz A1 c1 l1 s2 cu A2 c2 l2 z1 z2 _ _ _ w f1 f2 hs (Po hT hx hy hK rfl) (Dc hx sg hK om rfl) (Dc hy sg hK om rfl)


structure qd (w : World) (A : Option Addr) (cap : Nat) (l : List Nat) (n : Nat) : Prop where
 ws : Ws .u32 w w.heap.size A l
 qp : l.length ≤ cap
 cap2 : cap ≤ 9223372036854775807
 lt : ∀ x ∈ l, x < dw
 norm : Wd.Norm l
 val : Wd.val dw l = n

theorem qd.below {w w' : World} {A : Option Addr} {cap : Nat} {l : List Nat} {n : Nat} (h : qd w A cap l n) (hb : Below w.heap.size w w') : qd w' A cap l n :=
 ⟨(h.ws.below hb).more hb.size, h.qp, h.cap2, h.lt, h.norm, h.val⟩
theorem qd.len {w : World} {A : Option Addr} {cap : Nat} {l : List Nat} {n k : Nat} (h : qd w A cap l n) (hn : n < dw ^ k) : l.length ≤ k :=
 Wd.Xh Ct l h.norm k (by rw [h.val]; exact hn)
theorem qd.Rc (w : World) (cap : Nat) (hc : cap ≤ 9223372036854775807) : qd w none cap [] 0 := ⟨Ws.Rc, by simp, hc, by simp, .inl rfl, rfl⟩
theorem qd.Pq {w : World} {A : Option Addr} {cap : Nat} {l : List Nat} {n : Nat} (h : qd w A cap l n) : n < dw ^ l.length := by
 rw [← h.val]; exact Wd.za l h.lt

def bik (w : World) (n : Nat) (e : Ending) (w' : World) : Prop := ∃ A cap l, e = .returned (.slice A l.length cap) ∧ qd w' A cap l n ∧ Below w.heap.size w w'

theorem qd.Bq {w : World} {b cap : Nat} {T : TypeId} {zs : List Nat} {k : Nat} (hz : ZB .u32 w b T zs) (hlt : ∀ x ∈ zs, x < dw) (ht : Wd.Ga zs (zs.take k)) (hk : k ≤ zs.length) (hc : zs.length ≤ cap) (hc2 : cap ≤ 9223372036854775807) :
  qd w (some ⟨b, 0, none⟩) cap (zs.take k) (Wd.val dw zs) :=
 ⟨(hz.Dw _ hz.lt).Qo k, by simp; omega, hc2, fun x hx => hlt x (List.mem_of_mem_take hx), ht.norm, ht.val _⟩

theorem Ee (A : Option Addr) (cap : Nat) (l : List Nat) (B : Nat) (w : World) (hr : Ws .u32 w B A l) (hcap : l.length ≤ cap) (hm : cap ≤ 9223372036854775807) :
  Calls Tryz.prog 180 #[.slice A l.length cap] w fun e w' => (∃ k, e = .returned (.slice A k cap) ∧ Wd.Ga l (l.take k) ∧ k ≤ l.length) ∧ w' = w := by
 go_enter Tryz.func180, Tryz.ntmps180
 go_wp2
 go_loop [0] (fun v => ∃ k : Nat, k ≤ l.length ∧ v = .slice A k cap ∧ ∀ i, k ≤ i → i < l.length → l.getD i 0 = 0) (fun v => slen v)
 case atStart => exact ⟨l.length, Nat.le_refl _, rfl, fun i h1 h2 => by omega⟩
 case round =>
  obtain ⟨k, hk, rfl, hz⟩ := hrel
  have HZ := Lib.hid hz
  clear hz
  by_cases h0 : k = 0
  ·
   subst h0
   go_wp2
   go_ret
   exact ⟨⟨0, rfl, ⟨0, Nat.zero_le _, rfl, HZ.out, .inl rfl⟩, Nat.zero_le _⟩, rfl⟩
  ·
   obtain ⟨b, off, rfl, hb, hc⟩ := hr om
   have hck := hc (k - 1) om
   clear hc
   go_wp2
   ·
    have ht : (((Wd.g l (k - 1) : Nat) : Int) == 0) = true := by assumption
    go_round
    case rel =>
     refine ⟨k - 1, by omega, rfl, fun i h1 h2 => ?_⟩
     by_cases hi : i = k - 1
     ·
      subst hi; have := beq_iff_eq.1 ht; rw [Wd.qa] at this; omega
     ·
      exact HZ.out i om h2
    case measure => simp [slen]; omega
   ·
    have ht : (((Wd.g l (k - 1) : Nat) : Int) == 0) = false := by assumption
    go_ret
    refine ⟨⟨k, rfl, ⟨k, hk, rfl, HZ.out, .inr ?_⟩, hk⟩, rfl⟩
    have := beq_eq_false_iff_ne.1 ht; rw [Wd.qa] at this; omega

theorem Lj {w w1 : World} (h : ∃ t, w1 = w.drewN t) (k : Nat) : ∃ t, w1.drewN k = w.drewN t := by
 obtain ⟨t, rfl⟩ := h
 exact ⟨t + k, by simp [World.drewN, Nat.add_assoc]⟩
theorem World.drewN_drewN (w : World) (a b : Nat) : (w.drewN a).drewN b = w.drewN (a + b) := by
 simp [World.drewN, Nat.add_assoc]
theorem Qn (Ax Ay : Option Addr) (cx cy : Nat) (xl yl : List Nat) (n m : Nat) (w : World) (hx : qd w Ax cx xl n) (hy : qd w Ay cy yl m) :
  Calls Tryz.prog 182 #[.slice Ax xl.length cx, .slice Ay yl.length cy] w fun e w' => e = .returned (.int .i64 (xu n m)) ∧ ∃ k, w' = w.drewN k := by
 have hx1 := hx.qp; have hx2 := hx.cap2; have hy1 := hy.qp; have hy2 := hy.cap2
 by_cases hl : xl.length = yl.length
 ·
  have hb : (((xl.length : Nat) : Int) != ((yl.length : Nat) : Int)) = false := by simp; omega
  go_enter Tryz.func182, Tryz.ntmps182
  go_wp2
  go_loopw [5] (fun iv wr => ∃ i : Int, -1 ≤ i ∧ i < xl.length ∧ iv = .int .i64 i ∧ Hid (∀ j : Nat, i < j → j < xl.length → xl.getD j 0 = yl.getD j 0) ∧ Hid (∃ t, wr = w.drewN t)) (fun iv _ => (intOf iv + 1).toNat)
  case atStart => exact ⟨(xl.length : Int) - 1, by omega, by omega, by go_num, fun j h1 h2 => by omega, ⟨0, rfl⟩⟩
  case round =>
   obtain ⟨i, hi1, hi2, rfl, hall, ht⟩ := hrel
   by_cases h0 : i < 0
   ·
    have hv : xu n m = 0 := by
     have : xl = yl := Wd.Ky xl yl hl (fun j hj => hall.out j om hj)
     rw [← hx.val, ← hy.val, this]
     unfold xu
     rw [if_neg om, if_neg om]
    have HV := Lib.hid hv
    clear hv hl
    go_wp2
    go_ret
    exact ⟨wm HV.out.symm, ht.out⟩
   ·
    obtain ⟨j, rfl⟩ := Int.eq_ofNat_of_zero_le (show 0 ≤ i by omega)
    have Ty : j < xl.length := by omega
    have hjy : j < yl.length := by omega
    obtain ⟨bx, ox, rfl, hbx, hcx⟩ := hx.ws om
    obtain ⟨by', oy, rfl, hby, hcy⟩ := hy.ws om
    have hsame : ∀ p, wr.cell? p = w.cell? p := fun p => by obtain ⟨t, rfl⟩ := ht.out; rfl
    have Dg := (hsame _).trans (hcx j Ty)
    have Sc := (hsame _).trans (hcy j hjy)
    clear hcx hcy hsame
    obtain ⟨xj, hxj⟩ : ∃ xj, xj = Wd.g xl j := ⟨_, rfl⟩
    obtain ⟨yj, hyj⟩ : ∃ yj, yj = Wd.g yl j := ⟨_, rfl⟩
    rw [← hxj] at Dg
    rw [← hyj] at Sc
    by_cases hlt : xj < yj
    ·
     have d1 : decide ((xj : Int) < (yj : Int)) = true := decide_eq_true om
     have d1' : decide (xj < yj) = true := decide_eq_true hlt
     have hv : xu n m = -1 := by
      rw [← hx.val, ← hy.val]
      unfold xu
      rw [if_pos (Wd.Ew xl yl hx.lt hl j Ty (fun t h1 h2 => hall.out t om h2) (by show Wd.g xl j < Wd.g yl j; omega))]
     have HV := Lib.hid hv
     clear hv hxj hyj hl hlt
     go_wp2_with fail
     go_quiet (fail)
     go_wp2_with fail
     go_ret
     exact ⟨wm HV.out.symm, by first | exact Lj (Lj ht.out _) _ | exact Lj ht.out _⟩
    ·
     have d1 : decide ((xj : Int) < (yj : Int)) = false := decide_eq_false om
     have d1' : decide (xj < yj) = false := decide_eq_false hlt
     by_cases hgt : yj < xj
     ·
      have d2 : decide ((yj : Int) < (xj : Int)) = true := decide_eq_true om
      have d2' : decide (yj < xj) = true := decide_eq_true hgt
      have hv : xu n m = 1 := by
       rw [← hx.val, ← hy.val]
       unfold xu
       have := Wd.Ew yl xl hy.lt hl.symm j hjy (fun t h1 h2 => (hall.out t om om).symm) (by show Wd.g yl j < Wd.g xl j; omega)
       rw [if_neg om, if_pos this]
      have HV := Lib.hid hv
      clear hv hxj hyj hl hlt hgt
      go_wp2_with fail
      go_quiet (fail)
      go_wp2_with fail
      go_quiet (fail)
      go_wp2_with fail
      go_ret
      exact ⟨wm HV.out.symm, by first | exact Lj (Lj ht.out _) _ | exact Lj ht.out _⟩
     ·
      have d2 : decide ((yj : Int) < (xj : Int)) = false := decide_eq_false om
      have d2' : decide (yj < xj) = false := decide_eq_false hgt
      have hnext : ∀ t : Nat, ((j : Int) - 1 < t) → t < xl.length → xl.getD t 0 = yl.getD t 0 := fun t h1 h2 => by
       by_cases ht : t = j
       ·
        subst ht; exact hxj.symm.trans ((show xj = yj by omega).trans hyj)
       ·
        exact hall.out t om h2
      have HN := hide hnext
      clear hnext hxj hyj hl hlt hgt
      go_wp2_with fail
      go_quiet (fail)
      go_wp2_with fail
      go_quiet (fail)
      go_wp2_with fail
      go_roundw
      case rel => exact ⟨(j : Int) - 1, by omega, by omega, by go_num, HN, by first | exact Lj (Lj ht.out _) _ | exact Lj ht.out _⟩
      case measure => simp [intOf] <;> omega
 ·
  have hb : (((xl.length : Nat) : Int) != ((yl.length : Nat) : Int)) = true := by simp; omega
  have ho : xu n m = if xl.length < yl.length then -1 else 1 := by
   unfold xu
   rw [← hx.val, ← hy.val]
   by_cases h : xl.length < yl.length
   ·
    rw [if_pos h, if_pos (Wd.uj Ct xl yl hx.lt hy.norm h)]
   ·
    have := Wd.uj Ct yl xl hy.lt hx.norm om
    rw [if_neg h, if_neg om, if_pos this]
  have HO := Lib.hid ho
  clear ho
  go_enter Tryz.func182, Tryz.ntmps182
  go_wp2
  all_goals
   go_ret
   refine ⟨wm ?_, ⟨0, rfl⟩⟩
   rw [HO.out]
  ·
   rw [if_pos om]
  ·
   rw [if_neg om]

theorem bfk : (Tryz.prog.info? 187).map (fun i => (i.zero, i.size, i.bytes)) = some (some (.int .u32 0), 1, 4) := by kernel_rfl
theorem Zf (n : Nat) (h : n ≤ 35184372088832) (w : World) : (Instr.makeSlice 64 (.int .i64 (n : Int)) (.int .i64 (n : Int))).run Tryz.prog w =
  .ok (.slice (some ⟨w.heap.size, 0, none⟩) n n) (w.alloc (.cells (vg .u32 (List.replicate n 0)) 187)) := by
 obtain ⟨i0, hi, hz0, hz1, hz2⟩ := info_parts bfk
 have hr := run_make (P := Tryz.prog) w 64 187 i0 (.int .u32 0) Tryz.underlying64 hi hz0 .i64 .i64 n n om (Int.le_refl _) (by rw [hz2]; omega) om
 simp only [Int.toNat_natCast] at hr
 rw [hr, hz1, Nw]

theorem iw {a : Int} {c : Nat} (h : a = (c : Int)) (hc : c < dh) : IntKind.u64.wrap a = ((c : Nat) : Int) := by
 rw [IntKind.wrap_u64, h]; rw [gm] at hc; omega
theorem Ak (c : Nat) : IntKind.u32.wrap (c : Int) = ((c % dw : Nat) : Int) := by
 rw [IntKind.wrap_u32, fo]; omega

theorem alq (Ax Ay : Option Addr) (cx cy : Nat) (xl yl : List Nat) (n m : Nat) (w : World) (hx : qd w Ax cx xl n) (hy : qd w Ay cy yl m) (hk : xl.length + yl.length ≤ 35184372088832) :
  Calls Tryz.prog 184 #[.slice Ax xl.length cx, .slice Ay yl.length cy] w fun e w' => bik w (n * m) e w' := by
 have hmk := Zf (xl.length + yl.length) hk
 simp only [Int.natCast_add] at hmk
 have hx1 := hx.qp; have hx2 := hx.cap2; have hy1 := hy.qp; have hy2 := hy.cap2
 go_enter Tryz.func184, Tryz.ntmps184
 go_wp2
 go_loopw [6] (fun iv wr => ∃ (i : Nat) (zr : List Nat), i ≤ xl.length ∧ iv = .int .i64 ((i : Nat) : Int) ∧ Wd.Ep dw xl yl zr i ∧ ZB .u32 wr w.heap.size 187 zr ∧ Below w.heap.size w wr) (fun iv _ => xl.length - (intOf iv).toNat)
 case atStart => exact ⟨0, List.replicate (xl.length + yl.length) 0, Nat.zero_le _, rfl, Wd.Ep.start _ _ _ (by rw [fo]; omega) (by simp) (Lf _), heap_alloc_new w _, (Below.refl _ _).alloc (Nat.le_refl _) _⟩
 case round =>
  obtain ⟨i, zr, hi, rfl, hinv, ko, hg⟩ := hrel
  obtain ⟨wo, rfl⟩ : ∃ wo : World, wo = wr := ⟨_, rfl⟩
  have hlen := hinv.len
  have HI := Lib.hid hinv
  clear hinv
  by_cases hlt : i < xl.length
  ·
   obtain ⟨bx, ox, rfl, hbx, hcx⟩ := hx.ws om
   have bfp := hcx i hlt
   have HX := hide (And.intro hbx bfp)
   clear hcx bfp
   obtain ⟨xi, hxi⟩ : ∃ xi, xi = Wd.g xl i := ⟨_, rfl⟩
   rw [← hxi] at HX
   have zx : xi < dw := by rw [hxi]; exact Wd.getD_lt (by rw [fo]; omega) _ hx.lt i
   have HXI := Lib.hid hxi
   have HXB := hide zx
   clear hxi zx
   go_wp2_with fail
   go_loopw [7, 8] (fun cv jv wr => ∃ (j c : Nat) (zc : List Nat), j ≤ yl.length ∧ cv = .int .u64 ((c : Nat) : Int) ∧ jv = .int .i64 ((j : Nat) : Int) ∧ Wd.Dj dw zr yl zc i (Wd.g xl i) j c ∧ ZB .u32 wr w.heap.size 187 zc ∧ Below w.heap.size w wr) (fun _ jv _ => yl.length - (intOf jv).toNat)
   case atStart => exact ⟨0, 0, zr, Nat.zero_le _, rfl, rfl, Wd.Dj.start _ _ _ _ (by rw [fo]; omega) HI.out.lt, ko, hg⟩
   case round =>
    obtain ⟨j, c, zc, hj, rfl, rfl, Ro, hzc, hgc⟩ := hrel
    have Rp := Ro.len
    have HM := Lib.hid Ro
    clear Ro
    have Dg := (hgc.cell (p := ⟨bx, ox + i, none⟩) (aa HX).1).trans (aa HX).2
    by_cases hjl : j < yl.length
    ·
     obtain ⟨by', oy, rfl, hby, hcy⟩ := hy.ws om
     have Sc := (hgc.cell (p := ⟨by', oy + j, none⟩) hby).trans (hcy j hjl)
     clear hcy
     have Tt := hzc.cell (i + j) om
     have Mj := hzc.frozen (i + j)
     obtain ⟨yj, hyj⟩ : ∃ yj, yj = Wd.g yl j := ⟨_, rfl⟩
     obtain ⟨z, hz⟩ : ∃ z, z = Wd.g zc (i + j) := ⟨_, rfl⟩
     rw [← hyj] at Sc
     rw [← hz] at Tt
     have Ig : yj < dw := by rw [hyj]; exact Wd.getD_lt (by rw [fo]; omega) _ hy.lt j
     have Fb : z < dw := by rw [hz]; exact Wd.getD_lt (by rw [fo]; omega) _ HM.out.lt _
     have hbd := Wd.Kj (aa HXB) Ig HM.out.c1 Fb
     have hBB : dw * dw = dh := by rw [fo, gm]
     rw [hBB] at hbd
     obtain ⟨p, hp⟩ : ∃ t, t = xi * yj := ⟨_, rfl⟩
     obtain ⟨s, hs⟩ : ∃ t, t = p + z := ⟨_, rfl⟩
     obtain ⟨r, hr⟩ : ∃ t, t = c + s := ⟨_, rfl⟩
     obtain ⟨d, hd⟩ : ∃ t, t = r % dw := ⟨_, rfl⟩
     obtain ⟨q, hq⟩ : ∃ t, t = r / dw := ⟨_, rfl⟩
     rw [← hp] at hbd
     have e1 : IntKind.u64.wrap ((xi : Int) * (yj : Int)) = (p : Int) := iw (by rw [hp]; simp) om
     have e2 : IntKind.u64.wrap ((p : Int) + (z : Int)) = (s : Int) := iw (by rw [hs]; simp) om
     have e3 : IntKind.u64.wrap ((c : Int) + (s : Int)) = (r : Int) := iw (by rw [hr]; simp) om
     have e4 : IntKind.u32.wrap (r : Int) = (d : Int) := by rw [Ak, hd]
     have e4' : (r : Int) % 4294967296 = (d : Int) := by rw [hd, fo]; omega
     have b64 : ∀ t : Nat, t < dw → t < dh := fun t ht => by rw [fo] at ht; rw [gm]; omega
     have e6 : IntKind.u64.wrap (xi : Int) = (xi : Int) := iw rfl (b64 _ (aa HXB))
     have e7 : IntKind.u64.wrap (yj : Int) = (yj : Int) := iw rfl (b64 _ Ig)
     have e8 : IntKind.u64.wrap (z : Int) = (z : Int) := iw rfl (b64 _ Fb)
     have e5 : (r : Int) / 4294967296 = (q : Int) := by rw [hq, fo]; omega
     have hfin : ∀ t W, W = (wr.drewN t).setCell ⟨w.heap.size, i + j, none⟩ (.int .u32 (d : Int)) → Wd.Dj dw zr yl (zc.set (i + j) d) i (Wd.g xl i) (j + 1) q ∧ ZB .u32 W w.heap.size 187 (zc.set (i + j) d) ∧ Below w.heap.size w W := by
      rintro t W rfl
      refine ⟨?_, (hzc.drewN t).Az _ _, (mi hgc t).setCell (by simp) _⟩
      have := HM.out.step Ct (by rw [← HXI.out]; exact aa HXB) hy.lt om
      have e : r = Wd.g xl i * yl.getD j 0 + c + zc.getD (i + j) 0 := by
       rw [hr, hs, hp, HXI.out, hyj, hz]; show c + (Wd.g xl i * yl.getD j 0 + zc.getD (i + j) 0) = _; omega
      rw [hd, hq, e]
      exact this
     have HF := hide hfin
     clear hfin b64 hbd hBB hp hs hr hd hq hyj hz Ig Fb hzc hgc ko hg hlen Rp
     go_wp2_with fail
     go_quiet (fail)
     go_wp2_with fail
     go_roundw
     case rel =>
      obtain ⟨r1, r2, r3⟩ := (aa HF) _ _ rfl
      exact ⟨j + 1, q, zc.set (i + j) d, by omega, rfl, by go_num, r1, r2, r3⟩
     case measure => simp [intOf]; omega
    ·
     have e : j = yl.length := by omega
     subst e
     have Tt := hzc.cell (i + yl.length) om
     have Mj := hzc.frozen (i + yl.length)
     have hrow := HI.out.step hlt HM.out
     have HR := Lib.hid hrow
     have hc32 : (c : Int) % 4294967296 = (c : Int) := by have := HM.out.c1; rw [fo] at this; omega
     have bus : IntKind.u32.wrap (c : Int) = (c : Int) := by rw [IntKind.wrap_u32]; exact hc32
     clear hrow
     have hfin : ∀ W, W = wr.setCell ⟨w.heap.size, i + yl.length, none⟩ (.int .u32 (c : Int)) → ZB .u32 W w.heap.size 187 (zc.set (i + yl.length) c) ∧ Below w.heap.size w W := by
      rintro W rfl
      exact ⟨hzc.Az _ _, hgc.setCell (by simp) _⟩
     have HF := hide hfin
     clear hfin hzc hgc ko hg hlen Rp Dg
     go_wp2_with fail
     go_roundw
     case rel =>
      obtain ⟨r2, r3⟩ := (aa HF) _ rfl
      exact ⟨i + 1, zc.set (i + yl.length) c, by omega, by go_num, HR.out, r2, r3⟩
     case measure => simp [intOf]; omega
  ·
   have e : i = xl.length := by omega
   subst e
   have hlt2 := HI.out.lt
   have hv := HI.out.done
   rw [hx.val, hy.val] at hv
   have HV := Lib.hid hv
   have rq := hide hlt2
   clear hv hlt2
   go_wp2_with fail
   have htr := Ee (some ⟨w.heap.size, 0, none⟩) zr.length zr (wo.heap.size) wo (ko.Dw _ ko.lt) (Nat.le_refl _) om
   rw [hlen] at htr
   refine htr.mono ?_
   rintro e w' ⟨⟨k, rfl, ht, hk2⟩, rfl⟩
   go_wp2_with fail
   go_ret
   have hk3 : k = (zr.take k).length := by simp; omega
   refine ⟨some ⟨w.heap.size, 0, none⟩, xl.length + yl.length, zr.take k, Hd hk3, ?_, hg⟩
   have := qd.Bq (cap := xl.length + yl.length) ko (aa rq) ht om om om
   rwa [HV.out] at this

theorem Og (a b : Nat) (ha : a < dw) (hb : b < dw) : Go.bits .or .u32 (a : Int) (b : Int) = ((a ||| b : Nat) : Int) := by
 rw [fo] at ha hb
 have hx : a ||| b < 2 ^ 32 := Nat.or_lt_two_pow om om
 have h1 : (BitVec.ofInt 32 (a : Int)).toNat = a := by
  rw [BitVec.ofInt_natCast, BitVec.toNat_ofNat]; exact Nat.mod_eq_of_lt om
 have h2 : (BitVec.ofInt 32 (b : Int)).toNat = b := by
  rw [BitVec.ofInt_natCast, BitVec.toNat_ofNat]; exact Nat.mod_eq_of_lt om
 show IntKind.u32.wrap ((BitVec.ofInt 32 (a : Int) ||| BitVec.ofInt 32 (b : Int)).toNat : Int) = _
 rw [BitVec.toNat_or, h1, h2, IntKind.wrap_u32]
 omega
theorem Aq (s : Nat) (hs : s ≤ 32) : 2 ^ s * 2 ^ (32 - s) = dw := by
 rw [← Nat.pow_add, show s + (32 - s) = 32 by omega]; rfl
theorem aph {m s : Nat} (hm : m < dw) (hs : s < 32) : m * 2 ^ s < dh := by
 have h1 : 2 ^ s < 2 ^ 32 := Nat.pow_lt_pow_right om hs
 have h2 : m * 2 ^ s ≤ m * 2 ^ 32 := Nat.mul_le_mul_left _ om
 rw [fo] at hm; rw [gm]; omega
theorem apg {m s : Nat} (hs : s < 32) : m * 2 ^ s % dw = m % 2 ^ (32 - s) * 2 ^ s ∧ m * 2 ^ s / dw = m / 2 ^ (32 - s) := by
 rw [← Aq s om, Nat.mul_comm (2 ^ s), Nat.mul_mod_mul_right]
 exact ⟨rfl, Nat.mul_div_mul_right _ _ (Nat.pow_pos om)⟩

def bpc (w : World) (xl : List Nat) (v : Nat) (e : Ending) (w' : World) : Prop :=
 ∃ zr, e = .returned (.slice (some ⟨w.heap.size, 0, none⟩) (xl.length + 1) (xl.length + 1)) ∧ zr.length = xl.length + 1 ∧ (∀ x ∈ zr, x < dw) ∧ Wd.val dw zr = v ∧ ZB .u32 w' w.heap.size 187 zr ∧ Below w.heap.size w w'

theorem aiw (Ax : Option Addr) (cx : Nat) (xl : List Nat) (n s : Nat) (w : World) (hx : qd w Ax cx xl n) (hs : s < 32) (hk : xl.length + 1 ≤ 35184372088832) :
  Calls Tryz.prog 212 #[.slice Ax xl.length cx, .int .u64 ((s : Nat) : Int)] w fun e w' => bpc w xl (n * 2 ^ s) e w' := by
 have hmk := Zf (xl.length + 1) hk
 simp only [Int.natCast_add, Int.cast_ofNat_Int] at hmk
 have hx1 := hx.qp; have hx2 := hx.cap2
 go_enter Tryz.func212, Tryz.ntmps212
 go_wp2
 go_loopw [6] (fun iv wr => ∃ (i : Nat) (zr : List Nat), i ≤ xl.length ∧ iv = .int .i64 ((i : Nat) : Int) ∧ Hid (Wd.Cq dw (2 ^ s) xl zr i) ∧ ZB .u32 wr w.heap.size 187 zr ∧ Below w.heap.size w wr) (fun iv _ => xl.length - (intOf iv).toNat)
 case atStart => exact ⟨0, List.replicate (xl.length + 1) 0, Nat.zero_le _, rfl, Wd.Cq.start _ _ (Nat.pow_pos om) (by rw [fo]; omega) (by simp) (Lf _), heap_alloc_new w _, (Below.refl _ _).alloc (Nat.le_refl _) _⟩
 case round =>
  obtain ⟨i, zr, hi, rfl, HI, ko, hg⟩ := hrel
  have hlen := HI.out.len
  by_cases hlt : i < xl.length
  ·
   obtain ⟨bx, ox, rfl, hbx, hcx⟩ := hx.ws om
   have Dg := (hg.cell (p := ⟨bx, ox + i, none⟩) hbx).trans (hcx i hlt)
   clear hcx
   have hzc := ko.cell i om
   have Mj := ko.frozen i
   have bnn := ko.cell (i + 1) om
   have bfm := ko.frozen (i + 1)
   obtain ⟨m, hm⟩ : ∃ m, m = Wd.g xl i := ⟨_, rfl⟩
   obtain ⟨z, hz⟩ : ∃ z, z = Wd.g zr i := ⟨_, rfl⟩
   rw [← hm] at Dg
   rw [← hz] at hzc
   have Jb : m < dw := by rw [hm]; exact Wd.getD_lt (by rw [fo]; omega) _ hx.lt i
   have Fb : z < dw := by rw [hz]; exact Wd.getD_lt (by rw [fo]; omega) _ HI.out.lt i
   have hzS : z < 2 ^ s := by rw [hz]; exact HI.out.low
   obtain ⟨x, hxx⟩ : ∃ x, x = m * 2 ^ s := ⟨_, rfl⟩
   obtain ⟨p, hp⟩ : ∃ p, p = x % dw := ⟨_, rfl⟩
   obtain ⟨r, hr⟩ : ∃ r, r = z + p := ⟨_, rfl⟩
   obtain ⟨q, hq⟩ : ∃ q, q = x / dw := ⟨_, rfl⟩
   have zy := apg (m := m) hs
   rw [← hxx, ← hp, ← hq] at zy
   have Px : p < dw := by rw [hp]; exact Nat.mod_lt _ (by rw [fo]; omega)
   have Lb : q < dw := by rw [hq, Nat.div_lt_iff_lt_mul (by rw [fo]; omega)]; have := aph Jb hs; rw [hxx, fo]; rw [gm] at this; omega
   have e0 : IntKind.u64.wrap (m : Int) = (m : Int) := iw rfl (by rw [fo] at Jb; rw [gm]; omega)
   have e1 : IntKind.u64.wrap ((m : Int) * 2 ^ s) = (x : Int) := iw (by rw [hxx]; simp) (by rw [hxx]; exact aph Jb hs)
   have e2 : Go.bits .or .u32 (z : Int) (p : Int) = (r : Int) := by
    rw [Og z p Fb Px, hr, zy.1, Pm hzS]
   have e3 : (x : Int) / 4294967296 = (q : Int) := by rw [hq, fo]; omega
   have e4 : (x : Int) % 4294967296 = (p : Int) := by rw [hp, fo]; omega
   have e5 : (q : Int) % 4294967296 = (q : Int) := by rw [fo] at Lb; omega
   have e6 : IntKind.u32.wrap (x : Int) = (p : Int) := by rw [Ak, hp]
   have e7 : IntKind.u32.wrap (q : Int) = (q : Int) := by rw [IntKind.wrap_u32]; exact e5
   have hfin : ∀ W, W = (wr.setCell ⟨w.heap.size, i, none⟩ (.int .u32 (r : Int))).setCell ⟨w.heap.size, i + 1, none⟩ (.int .u32 (q : Int)) → Hid (Wd.Cq dw (2 ^ s) xl ((zr.set i r).set (i + 1) q) (i + 1)) ∧ ZB .u32 W w.heap.size 187 ((zr.set i r).set (i + 1) q) ∧ Below w.heap.size w W := by
    rintro W rfl
    refine ⟨?_, (ko.Az _ _).Az _ _, (hg.setCell (by simp) _).setCell (by simp) _⟩
    have := HI.out.step (Aq s om) (Nat.pow_pos om) hlt (by rw [← Wd.qa, ← hm]; exact Jb)
    rw [hr, zy.1, zy.2, hm, hz]
    exact this
   have HF := hide hfin
   clear hfin zy hp hr hq hm hz hzS ko hg hxx Px Lb Jb Fb
   go_wp2_with fail
   go_roundw
   case rel =>
    obtain ⟨r1, r2, r3⟩ := (aa HF) _ rfl
    exact ⟨i + 1, _, by omega, by go_num, r1, r2, r3⟩
   case measure => simp [intOf] <;> omega
  ·
   have e : i = xl.length := by omega
   subst e
   have hv := HI.out.done
   rw [hx.val] at hv
   have HV := Lib.hid hv
   clear hv
   go_wp2_with fail
   go_ret
   exact ⟨zr, rfl, hlen, HI.out.lt, HV.out, ko, hg⟩
end Go.Proofs.YtfgeaakhlcaibaaGreatDoor
namespace Go.Proofs.YtfgeaakhlcaibaaGreatDoor
namespace Wd

structure Yd (B top head Q q r : Nat) : Prop where
 eq : q * top + r = head
 ge : Q ≤ q
 lt : q < B
theorem Yd.step {B top next head d Q q r : Nat} (hQ : Q * (top * B + next) ≤ head * B + d) (h : Yd B top head Q q r) (hlt : r * B + d < q * next) : 1 ≤ q ∧ Yd B top head Q (q - 1) (r + top) := by
 have h1 : Q < q := by
  rcases Nat.lt_or_ge Q q with h1 | h1
  ·
   exact h1
  ·
   have h2 : q * (top * B + next) ≤ Q * (top * B + next) := Nat.mul_le_mul_right _ h1
   have h3 : q * (top * B + next) = q * top * B + q * next := by rw [Nat.mul_add, Nat.mul_assoc]
   have h4 : head * B = q * top * B + r * B := by rw [← h.eq, Nat.add_mul]
   omega
 have he := h.eq
 obtain ⟨p, rfl⟩ : ∃ p, q = p + 1 := ⟨q - 1, by omega⟩
 refine ⟨by omega, ⟨?_, by omega, by have := h.lt; omega⟩⟩
 rw [Nat.add_sub_cancel]
 rw [Nat.add_mul, Nat.one_mul] at he
 omega
theorem Yd.fits {B top next head d Q q r : Nat} (hn : next < B) (h : Yd B top head Q q r) (hs : B ≤ r ∨ q * next ≤ r * B + d) : q * (top * B + next) ≤ head * B + d := by
 have h3 : q * (top * B + next) = q * top * B + q * next := by rw [Nat.mul_add, Nat.mul_assoc]
 have h4 : head * B = q * top * B + r * B := by rw [← h.eq, Nat.add_mul]
 have h5 : q * next ≤ r * B + d := by
  rcases hs with h1 | h1
  ·
   have h6 : q * next ≤ B * B := Nat.mul_le_mul (Nat.le_of_lt h.lt) (Nat.le_of_lt hn)
   have h7 : B * B ≤ r * B := Nat.mul_le_mul_right _ h1
   omega
  ·
   exact h1
 omega
theorem arv {B P X Y U3 Yt Q q : Nat} (hP : 0 < P) (hX : U3 * P ≤ X) (hY : Y < (Yt + 1) * P) (hY0 : 0 < Y) (hQ : Q = X / Y) (hq : q * Yt ≤ U3) (hB : q ≤ Yt) : q ≤ Q + 1 := by
 rcases Nat.eq_zero_or_pos q with h | h
 ·
  omega
 obtain ⟨p, rfl⟩ : ∃ p, q = p + 1 := ⟨q - 1, by omega⟩
 suffices p ≤ Q by omega
 rw [hQ, Nat.le_div_iff_mul_le hY0]
 have h1 : p * Y ≤ p * ((Yt + 1) * P) := Nat.mul_le_mul_left _ (Nat.le_of_lt hY)
 have h2 : p * ((Yt + 1) * P) = (p * Yt + p) * P := by rw [← Nat.mul_assoc, Nat.mul_add, Nat.mul_one]
 have h3 : (p * Yt + p) * P ≤ ((p + 1) * Yt) * P := Nat.mul_le_mul_right _ (by rw [Nat.add_mul]; omega)
 have h4 : (p + 1) * Yt * P ≤ U3 * P := Nat.mul_le_mul_right _ hq
 omega

structure Na (B : Nat) (ul vl zc : List Nat) (q i c b : Nat) : Prop where
 len : zc.length = ul.length
 same : ∀ j, i ≤ j → zc.getD j 0 = ul.getD j 0
 lt : ∀ x ∈ zc, x < B
 eq : val B (zc.take i) + q * val B (vl.take i) = val B (ul.take i) + B ^ i * (c + b)
 c1 : c < B
 b1 : b ≤ 1
theorem Na.start {B : Nat} (ul vl : List Nat) (q : Nat) (hB : 0 < B) (h : ∀ x ∈ ul, x < B) : Na B ul vl ul q 0 0 0 := ⟨rfl, fun _ _ => rfl, h, by simp [val], hB, by omega⟩
theorem Na.step {B : Nat} {ul vl zc : List Nat} {q i c b d b' t : Nat} (h : Na B ul vl zc q i c b) (hi : i < ul.length) (ht : t = c + q * vl.getD i 0) (Tx : t < B * B) (hd : d < B) (hb : b' ≤ 1)
  (e : d + t % B + b = ul.getD i 0 + B * b') : Na B ul vl (zc.set i d) q (i + 1) (t / B) b' := by
 have hlen := h.len
 have hB : 0 < B := by omega
 refine ⟨by simp [hlen], fun j hj => ?_, xk _ _ _ h.lt hd, ?_, ?_, hb⟩
 ·
  rw [Cb _ _ _ _ om, h.same j om]
 ·
  rw [uu _ _ _ om, xy, lg, lg, List.length_take, Nat.min_eq_left om, Nat.pow_succ]
  have he := h.eq
  have Ai := Nat.div_add_mod t B
  generalize B ^ i = P at *
  generalize val B (zc.take i) = Z at *
  generalize val B (vl.take i) = V at *
  generalize val B (ul.take i) = U at *
  generalize vl.getD i 0 = y at *
  generalize ul.getD i 0 = x at *
  generalize t / B = hi at *
  generalize t % B = lo at *
  have k1 : P * d + P * lo + P * b = P * x + P * (B * b') := by rw [← Nat.mul_add, ← Nat.mul_add, e, Nat.mul_add]
  have k2 : P * (B * hi) + P * lo = P * c + P * (q * y) := by rw [← Nat.mul_add, Ai, ht, Nat.mul_add]
  rw [Nat.mul_add] at he
  rw [Nat.mul_add, Nat.mul_add, show q * (P * y) = P * (q * y) by simp only [Nat.mul_left_comm], Nat.mul_assoc, Nat.mul_assoc]
  omega
 ·
  rw [Nat.div_lt_iff_lt_mul hB]; exact Tx
theorem Na.done {B : Nat} {ul vl zc : List Nat} {q b : Nat} (h : Na B ul vl zc q ul.length 0 b) (hv : vl.length ≤ ul.length) : val B zc + q * val B vl = val B ul + B ^ ul.length * b := by
 have e := h.eq
 have hl := h.len
 rwa [iy _ zc _ om, iy _ vl _ hv, iy _ _ _ (Nat.le_refl _), Nat.zero_add] at e
end Wd
end Go.Proofs.YtfgeaakhlcaibaaGreatDoor
namespace Go.Proofs.YtfgeaakhlcaibaaGreatDoor
open Go.RowKit

structure StepT (ul vl zr : List Nat) (q : Nat) : Prop where
 len : zr.length = ul.length
 lt : ∀ x ∈ zr, x < dw
 quo : q = Wd.val dw ul / Wd.val dw vl
 rem : Wd.val dw zr = Wd.val dw ul % Wd.val dw vl

theorem aen {x lo b s1 s2 : Nat} (hx : x < dw) (hlo : lo < dw) (hb : b ≤ 1) (h1 : (s1 : Int) = ((x : Int) - (lo : Int)) % 18446744073709551616) (h2 : (s2 : Int) = ((s1 : Int) - (b : Int)) % 18446744073709551616) :
  s2 % dw < dw ∧ s2 / 9223372036854775808 ≤ 1 ∧ s2 % dw + lo + b = x + dw * (s2 / 9223372036854775808) := by
 rw [fo] at *
 omega
theorem bdp {B : Nat} (hB : 0 < B) (l : List Nat) (n : Nat) (hn : 2 ≤ n) (hl : l.length = n + 1) (hlt : ∀ x ∈ l, x < B) :
  ((l.getD n 0 * B + l.getD (n - 1) 0) * B + l.getD (n - 2) 0) * B ^ (n - 2) ≤ Wd.val B l ∧ Wd.val B l < ((l.getD n 0 * B + l.getD (n - 1) 0) * B + l.getD (n - 2) 0 + 1) * B ^ (n - 2) := by
 have h1 := Wd.mq B l n om
 rw [Wd.iy _ _ _ om] at h1
 have h2 := Wd.mq B l (n - 1) om
 rw [show n - 1 + 1 = n by omega] at h2
 have h2' := Wd.mq B l (n - 2) om
 rw [show n - 2 + 1 = n - 1 by omega] at h2'
 have h3 := Wd.za (B := B) (l.take (n - 2)) (fun x hx => hlt x (List.mem_of_mem_take hx))
 rw [List.length_take, Nat.min_eq_left om] at h3
 have e : B ^ n = B ^ (n - 2) * B * B := by rw [← Nat.pow_succ, ← Nat.pow_succ, show (n - 2).succ.succ = n by omega]
 have e' : B ^ (n - 1) = B ^ (n - 2) * B := by rw [← Nat.pow_succ, show (n - 2).succ = n - 1 by omega]
 rw [h1, h2, h2', e, e']
 generalize B ^ (n - 2) = P at *
 generalize l.getD n 0 = a at *
 generalize l.getD (n - 1) 0 = b at *
 generalize l.getD (n - 2) 0 = c at *
 have k1 : ((a * B + b) * B + c) * P = P * B * B * a + P * B * b + P * c := by
  simp only [Nat.add_mul, Nat.mul_add, Nat.mul_comm, Nat.mul_left_comm, Nat.mul_assoc]
 rw [Nat.add_mul _ 1 P, Nat.one_mul, k1]
 omega
theorem alu {B : Nat} (l : List Nat) (n : Nat) (hn : 2 ≤ n) (hl : l.length = n) (hlt : ∀ x ∈ l, x < B) :
  (l.getD (n - 1) 0 * B + l.getD (n - 2) 0) * B ^ (n - 2) ≤ Wd.val B l ∧ Wd.val B l < (l.getD (n - 1) 0 * B + l.getD (n - 2) 0 + 1) * B ^ (n - 2) := by
 have h2 := Wd.mq B l (n - 1) om
 rw [show n - 1 + 1 = n by omega, Wd.iy _ _ _ om] at h2
 have h2' := Wd.mq B l (n - 2) om
 rw [show n - 2 + 1 = n - 1 by omega] at h2'
 have h3 := Wd.za (B := B) (l.take (n - 2)) (fun x hx => hlt x (List.mem_of_mem_take hx))
 rw [List.length_take, Nat.min_eq_left om] at h3
 have e' : B ^ (n - 1) = B ^ (n - 2) * B := by rw [← Nat.pow_succ, show (n - 2).succ = n - 1 by omega]
 rw [h2, h2', e']
 generalize B ^ (n - 2) = P at *
 generalize l.getD (n - 1) 0 = b at *
 generalize l.getD (n - 2) 0 = c at *
 have k1 : (b * B + c) * P = P * B * b + P * c := by
  simp only [Nat.add_mul, Nat.mul_add, Nat.mul_comm, Nat.mul_left_comm, Nat.mul_assoc]
 rw [Nat.add_mul _ 1 P, Nat.one_mul, k1]
 omega
theorem afk {a z : Nat} (ha : a < dw) (hz : z < dw) : Go.bits .or .u64 ((a * dw : Nat) : Int) (z : Int) = ((a * dw + z : Nat) : Int) := by
 have h := Pm (z := z) (a := a) (s := 32) (by rw [fo] at hz; omega)
 rw [bits_or_u64_nat _ _ (by rw [fo] at *; omega) (by rw [fo] at *; omega), Nat.or_comm, fo]
 rw [show (2 : Nat) ^ 32 = 4294967296 from rfl] at h
 rw [h, Nat.add_comm]

structure Hq (ul vl : List Nat) (n : Nat) : Prop where
 n2 : 2 ≤ n
 Mg : vl.length = n
 Af : ul.length = n + 1
 ltu : ∀ x ∈ ul, x < dw
 Zg : ∀ x ∈ vl, x < dw
 top : vl.getD (n - 1) 0 ≠ 0
 pre : Wd.val dw ul < dw * Wd.val dw vl
theorem Hq.start {ul vl : List Nat} {n head top : Nat} (h : Hq ul vl n) (hh : head = ul.getD n 0 * dw + ul.getD (n - 1) 0) (ht : top = vl.getD (n - 1) 0) :
  Wd.Yd dw top head (Wd.val dw ul / Wd.val dw vl) (min (head / top) 4294967295) (head - min (head / top) 4294967295 * top) ∧ min (head / top) 4294967295 * top ≤ head := by
 have hB : 0 < dw := by rw [fo]; omega
 have hV := (alu vl n h.n2 h.Mg h.Zg).1
 have hU := bdq hB ul n (by have := h.n2; omega) h.Af h.ltu
 have h1 := ato (B := dw) vl n (by have := h.n2; omega) h.Mg
 rw [← ht] at h1
 rw [← hh] at hU
 have ht0 : 0 < top := by rw [ht]; exact Nat.pos_of_ne_zero h.top
 have Ho : 0 < Wd.val dw vl := by
  have h2 : 0 < dw ^ (n - 1) := Nat.pow_pos hB
  have := Nat.mul_pos ht0 h2; omega
 have hQ : Wd.val dw ul / Wd.val dw vl * top ≤ head := Wd.Ya h1 hU (Nat.div_mul_le_self _ _)
 have hQB : Wd.val dw ul / Wd.val dw vl < dw := by rw [Nat.div_lt_iff_lt_mul Ho]; exact h.pre
 have hle : min (head / top) 4294967295 * top ≤ head := Nat.le_trans (Nat.mul_le_mul_right _ (Nat.min_le_left _ _)) (Nat.div_mul_le_self _ _)
 refine ⟨⟨Nat.add_sub_of_le hle, ?_, ?_⟩, hle⟩
 ·
  rw [Nat.le_min]
  exact ⟨(Nat.le_div_iff_mul_le ht0).2 hQ, Nat.le_of_lt_succ (by rw [fo] at hQB; exact hQB)⟩
 ·
  exact Nat.lt_of_le_of_lt (Nat.min_le_right (head / top) 4294967295) (by rw [fo]; omega)
theorem Hq.low {ul vl : List Nat} {n : Nat} (h : Hq ul vl n) : Wd.val dw ul / Wd.val dw vl * (vl.getD (n - 1) 0 * dw + vl.getD (n - 2) 0) ≤ (ul.getD n 0 * dw + ul.getD (n - 1) 0) * dw + ul.getD (n - 2) 0 := by
 have hB : 0 < dw := by rw [fo]; omega
 exact Wd.Ya (alu vl n h.n2 h.Mg h.Zg).1 (bdp hB ul n h.n2 h.Af h.ltu).2 (Nat.div_mul_le_self _ _)
theorem Hq.one {ul vl : List Nat} {n q : Nat} (h : Hq ul vl n) (hq : q * (vl.getD (n - 1) 0 * dw + vl.getD (n - 2) 0) ≤ (ul.getD n 0 * dw + ul.getD (n - 1) 0) * dw + ul.getD (n - 2) 0) (hlt : q < dw) : q ≤ Wd.val dw ul / Wd.val dw vl + 1 := by
 have hB : 0 < dw := by rw [fo]; omega
 have ht0 : 1 ≤ vl.getD (n - 1) 0 := Nat.pos_of_ne_zero h.top
 have h1 : 1 * dw ≤ vl.getD (n - 1) 0 * dw := Nat.mul_le_mul_right _ ht0
 have hV := (alu vl n h.n2 h.Mg h.Zg)
 have hP : 0 < dw ^ (n - 2) := Nat.pow_pos hB
 have Ho : 0 < Wd.val dw vl := by
  have := Nat.mul_pos (show 0 < vl.getD (n - 1) 0 * dw + vl.getD (n - 2) 0 by omega) hP; omega
 exact Wd.arv (B := dw) hP (bdp hB ul n h.n2 h.Af h.ltu).1 hV.2 Ho rfl hq om

theorem alk (b off cap T n : Nat) (us ul vl : List Nat) (Av : Option Addr) (cv : Nat) (B top next : Nat) (w : World)
  (hz : ZB .u32 w b T us) (hoff : off + ul.length ≤ us.length) (Kn : ul = (us.drop off).take ul.length) (hcz : ul.length ≤ cap) (aha : cap ≤ 9223372036854775807)
  (hv : Ws .u32 w B Av vl) (hB : ∀ bv ov, Av = some ⟨bv, ov, none⟩ → bv ≠ b) (hBw : B ≤ w.heap.size) (hcv : vl.length ≤ cv) (ano : cv ≤ 9223372036854775807) (hp : Hq ul vl n) (htop : top = Wd.g vl (n - 1)) (hnext : next = Wd.g vl (n - 2)) :
  Calls Tryz.prog 213 #[.slice (some ⟨b, off, none⟩) (n + 1) cap, .slice Av n cv, .int .u64 ((top : Nat) : Int), .int .u64 ((next : Nat) : Int)] w fun e w' =>
   ∃ zr q, e = .returned (.int .u32 ((q : Nat) : Int)) ∧ StepT ul vl zr q ∧ q < dw ∧ ZB .u32 w' b T (win us off zr) ∧ w.grownBy w' (some b) := by
 have hB0 : 0 < dw := by rw [fo]; omega
 have hn2 := hp.n2; have Em := hp.Mg; have huv := hp.Af
 obtain ⟨bv, ov, hA, hbv, ahb⟩ := hv om
 subst hA
 have hgw : ∀ i, i < ul.length → Wd.g us (off + i) = Wd.g ul i := fun i hi => by
  have h := Jt us off ul hoff i hi
  rwa [show win us off ul = us by rw [Kn]; exact Jf us off _ hoff] at h
 have hu0 := hz.cell (off + n) om
 have hu1 := hz.cell (off + (n - 1)) om
 have hu2 := hz.cell (off + (n - 2)) om
 rw [hgw n om] at hu0
 rw [hgw (n - 1) om] at hu1
 rw [hgw (n - 2) om] at hu2
 obtain ⟨x0, hx0⟩ : ∃ t, t = Wd.g ul n := ⟨_, rfl⟩
 obtain ⟨x1, hx1⟩ : ∃ t, t = Wd.g ul (n - 1) := ⟨_, rfl⟩
 obtain ⟨x2, hx2⟩ : ∃ t, t = Wd.g ul (n - 2) := ⟨_, rfl⟩
 rw [← hx0] at hu0
 rw [← hx1] at hu1
 rw [← hx2] at hu2
 have b0 : x0 < dw := by rw [hx0]; exact Wd.getD_lt hB0 _ hp.ltu _
 have b1 : x1 < dw := by rw [hx1]; exact Wd.getD_lt hB0 _ hp.ltu _
 have b2 : x2 < dw := by rw [hx2]; exact Wd.getD_lt hB0 _ hp.ltu _
 have bt : top < dw := by rw [htop]; exact Wd.getD_lt hB0 _ hp.Zg _
 have bn : next < dw := by rw [hnext]; exact Wd.getD_lt hB0 _ hp.Zg _
 obtain ⟨hh, hhh⟩ : ∃ t, t = x0 * dw := ⟨_, rfl⟩
 obtain ⟨head, hhead⟩ : ∃ t, t = x0 * dw + x1 := ⟨_, rfl⟩
 obtain ⟨gq, hgq⟩ : ∃ t, t = head / top := ⟨_, rfl⟩
 obtain ⟨q0, hq0⟩ : ∃ t, t = min gq 4294967295 := ⟨_, rfl⟩
 obtain ⟨qt, hqt⟩ : ∃ t, t = q0 * top := ⟨_, rfl⟩
 obtain ⟨r0, hr0⟩ : ∃ t, t = head - qt := ⟨_, rfl⟩
 obtain ⟨Q, hQ⟩ : ∃ t, t = Wd.val dw ul / Wd.val dw vl := ⟨_, rfl⟩
 have hst := hp.start (head := head) (top := top) (by rw [hhead, hx0, hx1]; rfl) (by rw [htop]; rfl)
 rw [← hgq, ← hq0, ← hQ, ← hqt, ← hr0] at hst
 have hlow := hp.low
 rw [← hQ, ← Wd.qa, ← Wd.qa, ← Wd.qa, ← Wd.qa, ← Wd.qa, ← htop, ← hnext, ← hx0, ← hx1, ← hx2, ← hhead] at hlow
 have hone : ∀ q, q * (top * dw + next) ≤ head * dw + x2 → q < dw → q ≤ Q + 1 := fun q h1 h2 => by
  have := hp.one (q := q) (by rw [← Wd.qa, ← Wd.qa, ← Wd.qa, ← Wd.qa, ← Wd.qa, ← htop, ← hnext, ← hx0, ← hx1, ← hx2, ← hhead]; exact h1) h2
  rwa [← hQ] at this
 have ht0 : 0 < top := by rw [htop]; exact Nat.pos_of_ne_zero hp.top
 have b64 : ∀ t : Nat, t < dw → t < dh := fun t ht => by rw [fo] at ht; rw [gm]; omega
 have art : head < dh := by rw [hhead]; rw [fo] at *; rw [gm]; omega
 have e0 : IntKind.u64.wrap (x0 : Int) = (x0 : Int) := iw rfl (b64 _ b0)
 have e1 : IntKind.u64.wrap (x1 : Int) = (x1 : Int) := iw rfl (b64 _ b1)
 have e2 : IntKind.u64.wrap (x2 : Int) = (x2 : Int) := iw rfl (b64 _ b2)
 have e3 : IntKind.u64.wrap ((x0 : Int) * 4294967296) = (hh : Int) := iw (by rw [hhh, fo]; simp) (by rw [hhh]; rw [fo] at *; rw [gm]; omega)
 have e4 : Go.bits .or .u64 (hh : Int) (x1 : Int) = (head : Int) := by rw [hhh, afk b0 b1, hhead]
 have e5 : (head : Int).tdiv (top : Int) = (gq : Int) := by rw [hgq]; exact (Int.ofNat_tdiv _ _).symm
 have e5w : IntKind.u64.wrap (gq : Int) = (gq : Int) := iw rfl (by have := Nat.div_le_self head top; omega)
 have e6 : min (gq : Int) 4294967295 = (q0 : Int) := by rw [hq0]; omega
 have e7 : IntKind.u64.wrap ((q0 : Int) * (top : Int)) = (qt : Int) := iw (by rw [hqt]; simp) (by have := hst.2; omega)
 have e8 : IntKind.u64.wrap ((head : Int) - (qt : Int)) = (r0 : Int) := iw (by have := hst.2; rw [hr0]; omega) (by rw [hr0]; omega)
 have e9 : ((top : Int) == 0) = false := beq_eq_false_iff_ne.2 om
 have e9' : ¬ ((top : Int) = 0) := by omega
 have bop : ¬ (top = 0) := by omega
 have f1 : IntKind.i64.wrap ((n : Int) - 1) = (n : Int) - 1 := IntWalk.i64_in _ om
 have f2 : (0 : Int) ≤ (n : Int) - 1 := by omega
 have f3 : ((n : Int) - 1).toNat = n - 1 := by omega
 have f4 : IntKind.i64.wrap ((n : Int) - 2) = (n : Int) - 2 := IntWalk.i64_in _ om
 have f5 : (0 : Int) ≤ (n : Int) - 2 := by omega
 have f6 : ((n : Int) - 2).toNat = n - 2 := by omega
 have HB2 := hide (And.intro b2 bn)
 have HST := hide hst; have bir := hide hlow; have bip := hide hone; have HQ := Lib.hid hQ; have HP := hide hp
 have HGW := hide hgw; have HZ := hide hz; have HV := hide hv; have HT := hide (And.intro bt art); have Ur := hide b64
 have HWU := Lib.hid (show win us off ul = us by rw [Kn]; exact Jf us off _ hoff)
 have abx := hide hoff; have HCV := hide ahb; have HBB := hide (And.intro (hB bv ov rfl) (Nat.lt_of_lt_of_le hbv hBw))
 have hlen1 : n + 1 ≤ cap := by omega
 have Rp : n ≤ cv := by omega
 clear hst hlow hone hQ hp hgw Kn hx0 hx1 hx2 b0 b1 b2 bt bn hhh hhead hgq hq0 hqt hr0 ht0 b64 art htop hnext hoff hcz hcv Em huv ahb hz hv hB0 hB hbv hBw
 go_enter Tryz.func213, Tryz.ntmps213
 go_wp2_with fail
 go_quiet (fail)
 go_upto_block 0 with (fail)
 go_cut [11] (fun qv wx => ∃ q : Nat, qv = .int .u64 ((q : Nat) : Int) ∧ Hid (Q ≤ q ∧ q ≤ Q + 1 ∧ q < dw) ∧ ∃ t, wx = w.drewN t)
 case first =>
  have HL := bir
  go_wp2_with fail
  go_loop [11, 12] (fun qv rv => ∃ q r : Nat, qv = .int .u64 ((q : Nat) : Int) ∧ rv = .int .u64 ((r : Nat) : Int) ∧ Hid (r < dh) ∧ Hid (Wd.Yd dw top head Q q r)) (fun qv _ => (intOf qv).toNat)
  case atStart => exact ⟨q0, r0, rfl, rfl, show r0 < dh by have h1 := (aa HST).1.eq; have h2 := (aa HT).2; omega, (aa HST).1⟩
  case round =>
   obtain ⟨q, r, rfl, rfl, hr, HI⟩ := hrel
   by_cases hb : dw ≤ r
   ·
    have d1 : decide ((r : Int) < 4294967296) = false := decide_eq_false (by rw [fo] at hb; omega)
    have hfits := (aa HI).fits (aa HB2).2 (d := x2) (.inl hb)
    have hres : Q ≤ q ∧ q ≤ Q + 1 ∧ q < dw := ⟨(aa HI).ge, (aa bip) q hfits (aa HI).lt, (aa HI).lt⟩
    have HR := hide hres
    clear hfits hres hb
    go_wp2_with fail
    go_meet
    exact ⟨q, rfl, HR, _, rfl⟩
   ·
    have d1 : decide ((r : Int) < 4294967296) = true := decide_eq_true (by rw [fo] at hb; omega)
    have Pw : r < dw := by omega
    obtain ⟨p, zy⟩ : ∃ t, t = q * next := ⟨_, rfl⟩
    obtain ⟨rs, hrs⟩ : ∃ t, t = r * dw := ⟨_, rfl⟩
    obtain ⟨ro, hro⟩ : ∃ t, t = r * dw + x2 := ⟨_, rfl⟩
    have Px : p < dh := by
     have h1 := (aa HI).lt
     have h2 := (aa HB2).2
     have h3 : q * next ≤ 4294967295 * 4294967295 := Nat.mul_le_mul (by rw [fo] at h1; omega) (by rw [fo] at h2; omega)
     rw [zy, gm]; omega
    have g1 : IntKind.u64.wrap ((q : Int) * (next : Int)) = (p : Int) := iw (by rw [zy]; simp) Px
    have g2 : IntKind.u64.wrap ((r : Int) * 4294967296) = (rs : Int) := iw (by rw [hrs, fo]; simp) (by rw [hrs]; rw [fo] at *; rw [gm]; omega)
    have g3 : Go.bits .or .u64 (rs : Int) (x2 : Int) = (ro : Int) := by rw [hrs, afk Pw (aa HB2).1, hro]
    by_cases hlt : ro < p
    ·
     have d2 : decide ((ro : Int) < (p : Int)) = true := decide_eq_true om
     have d2' : decide (ro < p) = true := decide_eq_true hlt
     obtain ⟨h1, hstep⟩ := (aa HI).step (aa bir) (by rw [← hro, ← zy]; exact hlt)
     obtain ⟨q2, hq2⟩ : ∃ t, t = q - 1 := ⟨_, rfl⟩
     obtain ⟨r2, hr2⟩ : ∃ t, t = r + top := ⟨_, rfl⟩
     rw [← hq2, ← hr2] at hstep
     have avz : r2 < dh := by have := (aa HT).1; rw [hr2]; rw [fo] at *; rw [gm]; omega
     have g4 : IntKind.u64.wrap ((q : Int) - 1) = (q2 : Int) := iw (by rw [hq2]; omega) (by have := (aa HI).lt; rw [hq2]; rw [fo] at this; rw [gm]; omega)
     have g5 : IntKind.u64.wrap ((r : Int) + (top : Int)) = (r2 : Int) := iw (by rw [hr2]; simp) avz
     have HS := hide hstep; have HR2 := hide avz; have HM := hide (show q2 < q by omega)
     clear hstep avz hq2 hr2 h1 hlt zy hrs hro Px Pw hb
     go_wp2_with fail
     go_round
     case rel => exact ⟨q2, r2, rfl, rfl, HR2, HS⟩
     case measure => have := aa HM; simp [intOf]; omega
    ·
     have d2 : decide ((ro : Int) < (p : Int)) = false := decide_eq_false om
     have d2' : decide (ro < p) = false := decide_eq_false hlt
     have hfits := (aa HI).fits (aa HB2).2 (d := x2) (.inr (by rw [← hro, ← zy]; omega))
     have hres : Q ≤ q ∧ q ≤ Q + 1 ∧ q < dw := ⟨(aa HI).ge, (aa bip) q hfits (aa HI).lt, (aa HI).lt⟩
     have HR := hide hres
     clear hfits hres hlt zy hrs hro Px Pw hb
     go_wp2_with fail
     go_meet
     exact ⟨q, rfl, HR, _, rfl⟩
 case rest =>
  obtain ⟨q, rfl, HQR, t0, rfl⟩ := hcut
  go_wp2_with fail
  go_loopw [13, 14, 15] (fun bv cv iv wr => ∃ (i c b' : Nat) (zc : List Nat), i ≤ n + 1 ∧ bv = .int .u64 ((b' : Nat) : Int) ∧ cv = .int .u64 ((c : Nat) : Int) ∧ iv = .int .i64 ((i : Nat) : Int) ∧ Hid (Wd.Na dw ul vl zc q i c b') ∧ Hid (i = n + 1 → c = 0) ∧ ZB .u32 wr b T (win us off zc) ∧ w.grownBy wr (some b)) (fun _ _ iv _ => n + 1 - (intOf iv).toNat)
  case atStart => exact ⟨0, 0, 0, ul, by omega, rfl, rfl, rfl, Wd.Na.start _ _ _ (by rw [fo]; omega) (aa HP).ltu, fun _ => rfl, by rw [HWU.out]; exact (aa HZ).drewN _, ajf (qb _ _) _⟩
  case round =>
   obtain ⟨i, c, b', zc, hi, rfl, rfl, rfl, HI, HC0, ko, hgr⟩ := hrel
   have abm : dw * dw = dh := by rw [fo, gm]
   have hzl := (aa HI).len
   by_cases hle : i ≤ n
   ·
    have d1 : decide ((i : Int) ≤ (n : Int)) = true := decide_eq_true om
    have d1' : decide (i ≤ n) = true := decide_eq_true hle
    obtain ⟨x, hx⟩ : ∃ t, t = Wd.g ul i := ⟨_, rfl⟩
    have Dg := ko.cell (off + i) (by rw [win_length _ _ _ (by rw [hzl]; exact aa abx)]; have h1 := (aa abx); have h2 := (aa HP).Af; omega)
    rw [Jt us off zc (by rw [hzl]; exact aa abx) i (by rw [hzl, (aa HP).Af]; omega), show Wd.g zc i = Wd.g ul i from (aa HI).same i (Nat.le_refl _), ← hx] at Dg
    have Mj := ko.frozen (off + i)
    have zx : x < dw := by rw [hx]; exact Wd.getD_lt (by rw [fo]; omega) _ (aa HP).ltu _
    by_cases hin : i < n
    ·
     have d2 : decide ((i : Int) < (n : Int)) = true := decide_eq_true om
     have d2' : decide (i < n) = true := decide_eq_true hin
     obtain ⟨y, hy⟩ : ∃ t, t = Wd.g vl i := ⟨_, rfl⟩
     have Sc := (World.cell?_of_block (hgr.block bv (aa HBB).2 (fun e => by injection e with e; exact (aa HBB).1 e))).trans ((aa HCV) i (by rw [(aa HP).Mg]; exact hin))
     rw [← hy] at Sc
     have Ig : y < dw := by rw [hy]; exact Wd.getD_lt (by rw [fo]; omega) _ (aa HP).Zg _
     obtain ⟨p, zy⟩ : ∃ t, t = q * y := ⟨_, rfl⟩
     obtain ⟨t, ht⟩ : ∃ t, t = c + p := ⟨_, rfl⟩
     have Tx : t < dw * dw := by
      have h1 := Wd.Kj (z := 0) (aa HQR).2.2 Ig (aa HI).c1 (by rw [fo]; omega)
      rw [ht, zy]; omega
     have k1 : IntKind.u64.wrap (y : Int) = (y : Int) := iw rfl ((aa Ur) _ Ig)
     have k2 : IntKind.u64.wrap ((q : Int) * (y : Int)) = (p : Int) := iw (by rw [zy]; simp) (by rw [← abm]; omega)
     have k3 : IntKind.u64.wrap ((c : Int) + (p : Int)) = (t : Int) := iw (by rw [ht]; simp) (by rw [← abm]; exact Tx)
     obtain ⟨lo, hlo⟩ : ∃ u, u = t % dw := ⟨_, rfl⟩
     obtain ⟨c2, hc2⟩ : ∃ u, u = t / dw := ⟨_, rfl⟩
     obtain ⟨s1, hs1⟩ : ∃ u : Nat, (u : Int) = ((x : Int) - (lo : Int)) % 18446744073709551616 := ⟨(((x : Int) - (lo : Int)) % 18446744073709551616).toNat, by omega⟩
     obtain ⟨s2, hs2⟩ : ∃ u : Nat, (u : Int) = ((s1 : Int) - (b' : Int)) % 18446744073709551616 := ⟨(((s1 : Int) - (b' : Int)) % 18446744073709551616).toNat, by omega⟩
     obtain ⟨d, hd⟩ : ∃ u, u = s2 % dw := ⟨_, rfl⟩
     obtain ⟨b2, hb2⟩ : ∃ u, u = s2 / 9223372036854775808 := ⟨_, rfl⟩
     have Ii : lo < dw := by rw [hlo]; exact Nat.mod_lt _ (by rw [fo]; omega)
     have hsw := aen zx Ii (aa HI).b1 hs1 hs2
     rw [← hd, ← hb2] at hsw
     have hnew : Wd.Na dw ul vl (zc.set i d) q (i + 1) c2 b2 := by
      rw [hc2]
      refine (aa HI).step (by rw [(aa HP).Af]; omega) (by rw [ht, zy, hy]; rfl) Tx hsw.1 hsw.2.1 ?_
      rw [← hlo, ← Wd.qa, ← hx]
      exact hsw.2.2
     have m1 : IntKind.u64.wrap (x : Int) = (x : Int) := iw rfl ((aa Ur) _ zx)
     have m2 : IntKind.u32.wrap (t : Int) = (lo : Int) := by rw [Ak, hlo]
     have m2' : (t : Int) % 4294967296 = (lo : Int) := by rw [hlo, fo]; omega
     have m3 : IntKind.u64.wrap (lo : Int) = (lo : Int) := iw rfl ((aa Ur) _ Ii)
     have m4 : IntKind.u64.wrap ((x : Int) - (lo : Int)) = (s1 : Int) := by rw [IntKind.wrap_u64, hs1]
     have m5 : IntKind.u64.wrap ((s1 : Int) - (b' : Int)) = (s2 : Int) := by rw [IntKind.wrap_u64, hs2]
     have m6 : IntKind.u32.wrap (s2 : Int) = (d : Int) := by rw [Ak, hd]
     have m6' : (s2 : Int) % 4294967296 = (d : Int) := by rw [hd, fo]; omega
     have m7 : (s2 : Int) / 9223372036854775808 = (b2 : Int) := by rw [hb2]; omega
     have m8 : (t : Int) / 4294967296 = (c2 : Int) := by rw [hc2, fo]; omega
     have hfin : ∀ W, W = wr.setCell ⟨b, off + i, none⟩ (.int .u32 (d : Int)) → ZB .u32 W b T (win us off (zc.set i d)) ∧ w.grownBy W (some b) := by
      rintro W rfl
      refine ⟨?_, kz hgr _ _⟩
      rw [← Ev us off zc (by rw [hzl, (aa HP).Af]; have := (aa abx); rw [(aa HP).Af] at this; exact this) i d (by rw [hzl, (aa HP).Af]; omega)]
      exact ko.Az _ _
     have HN := hide hnew; have HF := hide hfin
     clear hnew hfin hsw hd hb2 hs1 hs2 hlo hc2 ht Tx Ii zx hx hzl hgr ko abm zy hy Ig
     go_wp2_with fail
     go_roundw
     case rel =>
      obtain ⟨r1, r2⟩ := (aa HF) _ rfl
      exact ⟨i + 1, c2, b2, zc.set i d, by omega, rfl, rfl, by go_num, HN, fun h => by omega, r1, r2⟩
     case measure => simp [intOf]; omega
    ·
     have d2 : decide ((i : Int) < (n : Int)) = false := decide_eq_false om
     have d2' : decide (i < n) = false := decide_eq_false hin
     replace hin : i = n := by omega
     have hy0 : vl.getD i 0 = 0 := by
      have h := (aa HP).Mg
      rw [List.getD, List.getElem?_eq_none om]; rfl
     obtain ⟨t, ht⟩ : ∃ t, t = c := ⟨_, rfl⟩
     have htc : (t : Int) = (c : Int) := by rw [ht]
     have Tx : t < dw * dw := by
      have h1 := (aa HI).c1
      have h2 : dw * 1 ≤ dw * dw := Nat.mul_le_mul_left _ (by rw [fo]; omega)
      omega
     obtain ⟨lo, hlo⟩ : ∃ u, u = t % dw := ⟨_, rfl⟩
     obtain ⟨c2, hc2⟩ : ∃ u, u = t / dw := ⟨_, rfl⟩
     obtain ⟨s1, hs1⟩ : ∃ u : Nat, (u : Int) = ((x : Int) - (lo : Int)) % 18446744073709551616 := ⟨(((x : Int) - (lo : Int)) % 18446744073709551616).toNat, by omega⟩
     obtain ⟨s2, hs2⟩ : ∃ u : Nat, (u : Int) = ((s1 : Int) - (b' : Int)) % 18446744073709551616 := ⟨(((s1 : Int) - (b' : Int)) % 18446744073709551616).toNat, by omega⟩
     obtain ⟨d, hd⟩ : ∃ u, u = s2 % dw := ⟨_, rfl⟩
     obtain ⟨b2, hb2⟩ : ∃ u, u = s2 / 9223372036854775808 := ⟨_, rfl⟩
     have Ii : lo < dw := by rw [hlo]; exact Nat.mod_lt _ (by rw [fo]; omega)
     have hsw := aen zx Ii (aa HI).b1 hs1 hs2
     rw [← hd, ← hb2] at hsw
     have hnew : Wd.Na dw ul vl (zc.set i d) q (i + 1) c2 b2 := by
      rw [hc2]
      refine (aa HI).step (by rw [(aa HP).Af]; omega) (by rw [ht, hy0, Nat.mul_zero, Nat.add_zero]) Tx hsw.1 hsw.2.1 ?_
      rw [← hlo, ← Wd.qa, ← hx]
      exact hsw.2.2
     have m1 : IntKind.u64.wrap (x : Int) = (x : Int) := iw rfl ((aa Ur) _ zx)
     have m2 : IntKind.u32.wrap (t : Int) = (lo : Int) := by rw [Ak, hlo]
     have m2' : (t : Int) % 4294967296 = (lo : Int) := by rw [hlo, fo]; omega
     have m3 : IntKind.u64.wrap (lo : Int) = (lo : Int) := iw rfl ((aa Ur) _ Ii)
     have m4 : IntKind.u64.wrap ((x : Int) - (lo : Int)) = (s1 : Int) := by rw [IntKind.wrap_u64, hs1]
     have m5 : IntKind.u64.wrap ((s1 : Int) - (b' : Int)) = (s2 : Int) := by rw [IntKind.wrap_u64, hs2]
     have m6 : IntKind.u32.wrap (s2 : Int) = (d : Int) := by rw [Ak, hd]
     have m6' : (s2 : Int) % 4294967296 = (d : Int) := by rw [hd, fo]; omega
     have m7 : (s2 : Int) / 9223372036854775808 = (b2 : Int) := by rw [hb2]; omega
     have m8 : (t : Int) / 4294967296 = (c2 : Int) := by rw [hc2, fo]; omega
     have hfin : ∀ W, W = wr.setCell ⟨b, off + i, none⟩ (.int .u32 (d : Int)) → ZB .u32 W b T (win us off (zc.set i d)) ∧ w.grownBy W (some b) := by
      rintro W rfl
      refine ⟨?_, kz hgr _ _⟩
      rw [← Ev us off zc (by rw [hzl, (aa HP).Af]; have := (aa abx); rw [(aa HP).Af] at this; exact this) i d (by rw [hzl, (aa HP).Af]; omega)]
      exact ko.Az _ _
     have Si := Lib.hid (show c2 = 0 by rw [hc2, ht]; exact Nat.div_eq_of_lt (aa HI).c1)
     have HN := hide hnew; have HF := hide hfin
     clear hnew hfin hsw hd hb2 hs1 hs2 hlo hc2 Tx Ii zx hx hzl hgr ko abm
     have HIN := Lib.hid hin
     subst ht
     clear hin hy0 htc
     go_wp2_with fail
     go_roundw
     case rel =>
      obtain ⟨r1, r2⟩ := (aa HF) _ rfl
      exact ⟨i + 1, c2, b2, zc.set i d, by have := HIN.out; omega, rfl, rfl, by go_num, HN, fun _ => Si.out, r1, r2⟩
     case measure => have := HIN.out; simp [intOf]; omega
   ·
    have d1 : decide ((i : Int) ≤ (n : Int)) = false := decide_eq_false om
    have d1' : decide (i ≤ n) = false := decide_eq_false hle
    have e : i = n + 1 := by omega
    subst e
    clear hle
    have hc0 := (aa HC0) rfl
    subst hc0
    have Lb := (aa HQR).2.2
    have j1 : (q : Int) % 4294967296 = (q : Int) := by rw [fo] at Lb; omega
    have j2 : IntKind.u32.wrap (q : Int) = (q : Int) := by rw [IntKind.wrap_u32]; exact j1
    have hdone : Wd.val dw zc + q * Wd.val dw vl = Wd.val dw ul + dw ^ (n + 1) * b' := by
     have h1 := (aa HP).Af
     have h2 := aa HI
     rw [← h1] at h2 ⊢
     exact h2.done (by rw [h1, (aa HP).Mg]; omega)
    have Ho : 0 < Wd.val dw vl := by
     rcases Nat.eq_zero_or_pos (Wd.val dw vl) with h | h
     ·
      have := (aa HP).pre; rw [h] at this; omega
     ·
      exact h
    have Ai := Nat.div_add_mod (Wd.val dw ul) (Wd.val dw vl)
    rw [← HQ.out, Nat.mul_comm] at Ai
    have hml := Nat.mod_lt (Wd.val dw ul) Ho
    have anb := Wd.za zc (aa HI).lt
    rw [hzl, (aa HP).Af] at anb
    rcases (show b' = 0 ∨ b' = 1 by have := (aa HI).b1; omega) with rfl | rfl
    ·
     have hqQ : q = Q := by
      have h1 := (aa HQR).1
      have h2 := (aa HQR).2.1
      rcases (show q = Q ∨ q = Q + 1 by omega) with h | h
      ·
       exact h
      ·
       rw [h, Nat.add_mul, Nat.one_mul] at hdone; omega
     have hok : StepT ul vl zc q := ⟨hzl, (aa HI).lt, hqQ.trans HQ.out, by rw [hqQ] at hdone; omega⟩
     have Dz := hide hok
     clear hok hqQ hdone Ho Ai hml anb abm Lb
     go_wp2_with fail
     go_ret
     exact ⟨zc, q, rfl, aa Dz, (aa HQR).2.2, ko, hgr⟩
    ·
     have hqQ : q = Q + 1 := by
      have h1 := (aa HQR).1
      have h2 := (aa HQR).2.1
      rcases (show q = Q ∨ q = Q + 1 by omega) with h | h
      ·
       rw [h] at hdone; omega
      ·
       exact h
     have bhb : off + (n + 1) ≤ us.length := by have := aa abx; rwa [(aa HP).Af] at this
     have ain := hide bhb
     have Wu := Lib.hid (hzl.trans (aa HP).Af)
     have HQQ := Lib.hid hqQ
     have HDN := Lib.hid hdone
     have HDM := hide (And.intro Ai (And.intro hml anb))
     have j3 : IntKind.u64.wrap ((q : Int) - 1) = (Q : Int) := iw (by rw [hqQ]; omega) (by rw [fo] at Lb; rw [gm]; omega)
     have j4 : (Q : Int) % 4294967296 = (Q : Int) := by rw [fo] at Lb; omega
     have j5 : IntKind.u32.wrap (Q : Int) = (Q : Int) := by rw [IntKind.wrap_u32]; exact j4
     have HQB := hide (show Q < dw by omega)
     have HZC := hide (aa HI).lt
     clear hdone Ho Ai hml anb abm Lb bhb hqQ
     go_wp2_with fail
     go_loopw [14, 17] (fun cv iv wr => ∃ (i c : Nat) (zd : List Nat), i ≤ n + 1 ∧ cv = .int .u64 ((c : Nat) : Int) ∧ iv = .int .i64 ((i : Nat) : Int) ∧ Hid (Wd.Aj dw zc vl zd i c) ∧ ZB .u32 wr b T (win us off zd) ∧ w.grownBy wr (some b)) (fun _ iv _ => n + 1 - (intOf iv).toNat)
     case atStart => exact ⟨0, 0, zc, by omega, rfl, rfl, Wd.Aj.start _ _ (aa HZC), ko, hgr⟩
     case round =>
      clear ko hgr
      obtain ⟨i, c, zd, hi, rfl, rfl, HA, ko, hgr⟩ := hrel
      have Mk := (aa HA).len.trans Wu.out
      by_cases hle : i ≤ n
      ·
       have d1 : decide ((i : Int) ≤ (n : Int)) = true := decide_eq_true om
       have d1' : decide (i ≤ n) = true := decide_eq_true hle
       obtain ⟨x, hx⟩ : ∃ t, t = Wd.g zc i := ⟨_, rfl⟩
       have Dg := ko.cell (off + i) (by rw [win_length _ _ _ (by rw [Mk]; exact aa ain)]; have h1 := (aa ain); omega)
       rw [Jt us off zd (by rw [Mk]; exact aa ain) i (by rw [Mk]; omega), show Wd.g zd i = Wd.g zc i from (aa HA).same i (Nat.le_refl _), ← hx] at Dg
       have Mj := ko.frozen (off + i)
       have zx : x < dw := by rw [hx]; exact Wd.getD_lt (by rw [fo]; omega) _ (aa HZC) _
       by_cases hin : i < n
       ·
        have d2 : decide ((i : Int) < (n : Int)) = true := decide_eq_true om
        have d2' : decide (i < n) = true := decide_eq_true hin
        obtain ⟨y, hy⟩ : ∃ t, t = Wd.g vl i := ⟨_, rfl⟩
        have Sc := (World.cell?_of_block (hgr.block bv (aa HBB).2 (fun e => by injection e with e; exact (aa HBB).1 e))).trans ((aa HCV) i (by rw [(aa HP).Mg]; exact hin))
        rw [← hy] at Sc
        have Ig : y < dw := by rw [hy]; exact Wd.getD_lt (by rw [fo]; omega) _ (aa HP).Zg _
        obtain ⟨s, hs⟩ : ∃ u, u = c + x := ⟨_, rfl⟩
        obtain ⟨t, ht⟩ : ∃ u, u = s + y := ⟨_, rfl⟩
        have hcB := (aa HA).c1
        have k1 : IntKind.u64.wrap (y : Int) = (y : Int) := iw rfl ((aa Ur) _ Ig)
        have k2 : IntKind.u64.wrap ((c : Int) + (x : Int)) = (s : Int) := iw (by rw [hs]; simp) (by rw [hs]; rw [fo] at *; rw [gm]; omega)
        have k3 : IntKind.u64.wrap ((s : Int) + (y : Int)) = (t : Int) := iw (by rw [ht]; simp) (by rw [ht, hs]; rw [fo] at *; rw [gm]; omega)
        have het : zd.getD i 0 + vl.getD i 0 + c = t := by rw [ht, hs, hx, hy, (aa HA).same i (Nat.le_refl _)]; show _ + Wd.g vl i + c = c + Wd.g zc i + Wd.g vl i; rw [show zc.getD i 0 = Wd.g zc i from rfl]; omega
        obtain ⟨d, hd⟩ : ∃ u, u = t % dw := ⟨_, rfl⟩
        obtain ⟨c2, hc2⟩ : ∃ u, u = t / dw := ⟨_, rfl⟩
        have hnew : Wd.Aj dw zc vl (zd.set i d) (i + 1) c2 := by
         have := (aa HA).step Ct (aa HP).Zg (by rw [Wu.out]; omega)
         rw [het] at this
         rw [hd, hc2]; exact this
        have m1 : IntKind.u64.wrap (x : Int) = (x : Int) := iw rfl ((aa Ur) _ zx)
        have m2 : IntKind.u32.wrap (t : Int) = (d : Int) := by rw [Ak, hd]
        have m2' : (t : Int) % 4294967296 = (d : Int) := by rw [hd, fo]; omega
        have m8 : (t : Int) / 4294967296 = (c2 : Int) := by rw [hc2, fo]; omega
        have hfin : ∀ W, W = wr.setCell ⟨b, off + i, none⟩ (.int .u32 (d : Int)) → ZB .u32 W b T (win us off (zd.set i d)) ∧ w.grownBy W (some b) := by
         rintro W rfl
         refine ⟨?_, kz hgr _ _⟩
         rw [← Ev us off zd (by rw [Mk]; exact aa ain) i d (by rw [Mk]; omega)]
         exact ko.Az _ _
        have HN := hide hnew; have HF := hide hfin
        have HIN := Lib.hid hin
        clear hnew hfin het hd hc2 ht zx hx Mk hgr ko hcB hin hs hy Ig
        go_wp2_with fail
        go_roundw
        case rel =>
         obtain ⟨r1, r2⟩ := (aa HF) _ rfl
         exact ⟨i + 1, c2, zd.set i d, by have := HIN.out; omega, rfl, by go_num, HN, r1, r2⟩
        case measure => have := HIN.out; simp [intOf]; omega
       ·
        have d2 : decide ((i : Int) < (n : Int)) = false := decide_eq_false om
        have d2' : decide (i < n) = false := decide_eq_false hin
        replace hin : i = n := by omega
        have hy0 : vl.getD i 0 = 0 := by
         have h := (aa HP).Mg
         rw [List.getD, List.getElem?_eq_none om]; rfl
        obtain ⟨t, ht⟩ : ∃ u, u = c + x := ⟨_, rfl⟩
        have hcB := (aa HA).c1
        have k2 : IntKind.u64.wrap ((c : Int) + (x : Int)) = (t : Int) := iw (by rw [ht]; simp) (by rw [ht]; rw [fo] at *; rw [gm]; omega)
        have het : zd.getD i 0 + vl.getD i 0 + c = t := by rw [ht, hx, hy0, (aa HA).same i (Nat.le_refl _)]; show _ + 0 + c = c + Wd.g zc i; rw [show zc.getD i 0 = Wd.g zc i from rfl]; omega
        obtain ⟨d, hd⟩ : ∃ u, u = t % dw := ⟨_, rfl⟩
        obtain ⟨c2, hc2⟩ : ∃ u, u = t / dw := ⟨_, rfl⟩
        have hnew : Wd.Aj dw zc vl (zd.set i d) (i + 1) c2 := by
         have := (aa HA).step Ct (aa HP).Zg (by rw [Wu.out]; omega)
         rw [het] at this
         rw [hd, hc2]; exact this
        have m1 : IntKind.u64.wrap (x : Int) = (x : Int) := iw rfl ((aa Ur) _ zx)
        have m2 : IntKind.u32.wrap (t : Int) = (d : Int) := by rw [Ak, hd]
        have m2' : (t : Int) % 4294967296 = (d : Int) := by rw [hd, fo]; omega
        have m8 : (t : Int) / 4294967296 = (c2 : Int) := by rw [hc2, fo]; omega
        have hfin : ∀ W, W = wr.setCell ⟨b, off + i, none⟩ (.int .u32 (d : Int)) → ZB .u32 W b T (win us off (zd.set i d)) ∧ w.grownBy W (some b) := by
         rintro W rfl
         refine ⟨?_, kz hgr _ _⟩
         rw [← Ev us off zd (by rw [Mk]; exact aa ain) i d (by rw [Mk]; omega)]
         exact ko.Az _ _
        have HN := hide hnew; have HF := hide hfin
        have HIN := Lib.hid hin
        clear hnew hfin het hd hc2 ht zx hx Mk hgr ko hcB hin hy0
        go_wp2_with fail
        go_roundw
        case rel =>
         obtain ⟨r1, r2⟩ := (aa HF) _ rfl
         exact ⟨i + 1, c2, zd.set i d, by have := HIN.out; omega, rfl, by go_num, HN, r1, r2⟩
        case measure => have := HIN.out; simp [intOf]; omega
      ·
       have d1 : decide ((i : Int) ≤ (n : Int)) = false := decide_eq_false om
       have d1' : decide (i ≤ n) = false := decide_eq_false hle
       have e : i = n + 1 := by omega
       subst e
       have hok : StepT ul vl zd Q := by
        have h1 : Wd.val dw zd + dw ^ (n + 1) * c = Wd.val dw zc + Wd.val dw vl := by
         have h2 := aa HA
         rw [← Wu.out] at h2 ⊢
         exact h2.done (by rw [Wu.out, (aa HP).Mg]; omega)
        have h3 := Wd.za zd (aa HA).lt
        rw [Mk] at h3
        have h4 := HDN.out
        rw [HQQ.out, Nat.add_mul, Nat.one_mul, Nat.mul_one] at h4
        have h5 := (aa HDM).1
        have h6 := (aa HDM).2.2
        have hc := (aa HA).c1
        refine ⟨(aa HA).len.trans (Wu.out.trans (aa HP).Af.symm), (aa HA).lt, HQ.out, ?_⟩
        rcases (show c = 0 ∨ c = 1 by omega) with rfl | rfl
        ·
         rw [Nat.mul_zero] at h1; omega
        ·
         rw [Nat.mul_one] at h1; omega
       have Dz := hide hok
       clear hok hle Mk
       go_wp2_with fail
       go_ret
       exact ⟨zd, Q, rfl, aa Dz, aa HQB, ko, hgr⟩

def aaj (w : World) (q r : Nat) (e : Ending) (w' : World) : Prop :=
 ∃ A cap l A' cap' l', e = .returned (.tuple #[.slice A l.length cap, .slice A' l'.length cap']) ∧ qd w' A cap l q ∧ qd w' A' cap' l' r ∧ Below w.heap.size w w'

theorem aja (Ax Ay : Option Addr) (cx cy : Nat) (xl yl : List Nat) (n m : Nat) (w : World) (hx : qd w Ax cx xl n) (hy : qd w Ay cy yl m) (hlt : n < m) :
  Calls Tryz.prog 178 #[.slice Ax xl.length cx, .slice Ay yl.length cy] w fun e w' => aaj w (n / m) (n % m) e w' := by
 have hc := Qn Ax Ay cx cy xl yl n m w hx hy
 rw [show xu n m = -1 by unfold xu; rw [if_pos hlt]] at hc
 rw [Nat.div_eq_of_lt hlt, Nat.mod_eq_of_lt hlt]
 have HC := hide hc
 have HX := hide hx
 clear hc hx hy hlt
 go_enter Tryz.func178, Tryz.ntmps178
 go_wp2_with fail
 refine (aa HC).mono ?_
 rintro e w' ⟨rfl, k, rfl⟩
 go_wp2
 go_ret2
 exact ⟨none, 0, [], Ax, cx, xl, rfl, qd.Rc _ _ om, (aa HX).below (mi (Below.refl _ _) k), mi (Below.refl _ _) k⟩

theorem aqt (Ax Ay : Option Addr) (cx cy : Nat) (xl yl : List Nat) (n m : Nat) (w : World) (hx : qd w Ax cx xl n) (hy : qd w Ay cy yl m) (hge : ¬ n < m) (h1 : yl.length = 1) (hk : xl.length ≤ 35184372088832) :
  Calls Tryz.prog 178 #[.slice Ax xl.length cx, .slice Ay yl.length cy] w fun e w' => aaj w (n / m) (n % m) e w' := by
 have hc := Qn Ax Ay cx cy xl yl n m w hx hy
 obtain ⟨o, ho⟩ : ∃ o, o = xu n m := ⟨_, rfl⟩
 rw [← ho] at hc
 have hd : decide (o < 0) = false := decide_eq_false (by rw [ho]; unfold xu; rw [if_neg hge]; split <;> omega)
 have HC := hide hc
 have hmk := Zf xl.length hk
 have hx1 := hx.qp; have hx2 := hx.cap2; have hy1 := hy.qp; have hy2 := hy.cap2
 obtain ⟨by', oy, hA, hby, hcy⟩ := hy.ws om
 subst hA
 have hy0 := hcy 0 om
 have hym : Wd.g yl 0 = m := by rw [Rb dw yl h1]; exact hy.val
 rw [hym, Nat.add_zero] at hy0
 have Jb : m < dw := by rw [← hym]; exact Wd.getD_lt (by rw [fo]; omega) _ hy.lt 0
 have hm0 : 0 < m := by
  rcases hy.norm with h | h
  ·
   rw [h] at h1; simp at h1
  ·
   rw [h1] at h; have : Wd.g yl 0 ≠ 0 := h; omega
 have l1 : ((yl.length : Int) == 1) = true := by rw [h1]; rfl
 have e1 : IntKind.u64.wrap (m : Int) = (m : Int) := iw rfl (by rw [fo] at Jb; rw [gm]; omega)
 have e9 : ((m : Int) == 0) = false := beq_eq_false_iff_ne.2 om
 have e9' : ¬ ((m : Int) = 0) := by omega
 have bop : ¬ (m = 0) := by omega
 have bua : 0 < yl.length := by omega
 have HY0 := hide (And.intro hby hy0)
 have hne1 : ¬ (w.heap.size = by') := by omega
 have hne2 : ¬ (by' = w.heap.size) := by omega
 have HMB := hide Jb; have HM0 := hide hm0
 have HX := hide hx
 clear hc ho hcy hy hym Jb hm0 hge hy0 hby hx h1
 go_enter Tryz.func178, Tryz.ntmps178
 go_wp2_with fail
 refine (aa HC).mono ?_
 rintro e w' ⟨rfl, k, rfl⟩
 go_wp2_with fail
 go_loopw [7, 8] (fun rv iv wr => ∃ (i : Int) (r : Nat) (qc : List Nat), -1 ≤ i ∧ i < xl.length ∧ iv = .int .i64 i ∧ rv = .int .u64 ((r : Nat) : Int) ∧ Hid (Wd.Bf dw xl qc m (i + 1).toNat r) ∧ ZB .u32 wr w.heap.size 187 qc ∧ Below w.heap.size w wr) (fun _ iv _ => (intOf iv + 1).toNat)
 case atStart =>
  refine ⟨(xl.length : Int) - 1, 0, List.replicate xl.length 0, by omega, by omega, by first | rfl | go_num, rfl, ?_, heap_alloc_new (w.drewN k) _, (mi (Below.refl _ _) k).alloc (Nat.le_refl _) _⟩
  rw [show ((xl.length : Int) - 1 + 1).toNat = xl.length by omega]
  exact Wd.Bf.start _ _ _ (by simp) (aa HM0) (Jd (by rw [fo]; omega) _)
 case round =>
  obtain ⟨i, r, qc, hi1, hi2, rfl, rfl, HI, ko, hg⟩ := hrel
  have hlen := HI.out.len
  by_cases h0 : i < 0
  ·
   have e : i = -1 := by omega
   subst e
   obtain ⟨v1, v2⟩ := HI.out.done
   rw [(aa HX).val] at v1 v2
   have Pw : r < dw := Nat.lt_trans HI.out.r1 (aa HMB)
   have j1 : (r : Int) % 4294967296 = (r : Int) := by rw [fo] at Pw; omega
   have j2 : IntKind.u32.wrap (r : Int) = (r : Int) := by rw [IntKind.wrap_u32]; exact j1
   have V1 := Lib.hid v1; have V2 := Lib.hid v2; have HRB := hide Pw
   clear v1 v2 Pw
   go_wp2_with fail
   have htr := Ee (some ⟨w.heap.size, 0, none⟩) qc.length qc (wr.heap.size) wr (ko.Dw _ ko.lt) (Nat.le_refl _) om
   rw [hlen] at htr
   refine htr.mono ?_
   rintro e w' ⟨⟨k1, rfl, ht, hk2⟩, hw⟩
   obtain rfl : wr = w' := hw.symm
   clear hw
   go_wp2_with fail
   have hn := heap_alloc_new wr (.cells (vg .u32 [r]) 187)
   have avm : ZB .u32 (wr.alloc (.cells (vg .u32 [r]) 187)) wr.heap.size 187 [r] := hn
   have Jn := Ee (some ⟨wr.heap.size, 0, none⟩) 1 [r] _ _ (avm.Dw _ avm.lt) (Nat.le_refl _) om
   refine Jn.mono ?_
   rintro e w' ⟨⟨k3, rfl, ht2, hk3⟩, hw⟩
   subst hw
   go_wp2_with fail
   go_ret2
   have hk4 : k1 = (qc.take k1).length := by simp; omega
   have hk5 : k3 = ([r].take k3).length := by rw [List.length_take]; omega
   have q1 := qd.Bq (cap := xl.length) ko HI.out.lt ht om om om
   rw [V1.out] at q1
   have q2 := qd.Bq (cap := 1) avm (by simpa using aa HRB) ht2 hk3 (by simp) om
   rw [show Wd.val dw [r] = n % m by rw [← V2.out]; simp [Wd.val]] at q2
   exact ⟨some ⟨w.heap.size, 0, none⟩, xl.length, qc.take k1, some ⟨wr.heap.size, 0, none⟩, 1, [r].take k3, Qx hk4 hk5, q1.below ((Below.refl _ _).alloc (Nat.le_refl _) _), q2, hg.alloc hg.size _⟩
  ·
   obtain ⟨j, rfl⟩ := Int.eq_ofNat_of_zero_le (show 0 ≤ i by omega)
   have Ty : j < xl.length := by omega
   obtain ⟨bx, ox, rfl, hbx, hcx⟩ := (aa HX).ws om
   have Dg := (hg.cell (p := ⟨bx, ox + j, none⟩) hbx).trans (hcx j Ty)
   have Sc := (hg.cell (p := ⟨by', oy, none⟩) (aa HY0).1).trans (aa HY0).2
   clear hcx
   have hzc := ko.cell j om
   have Mj := ko.frozen j
   obtain ⟨xj, hxj⟩ : ∃ t, t = Wd.g xl j := ⟨_, rfl⟩
   rw [← hxj] at Dg
   have zx : xj < dw := by rw [hxj]; exact Wd.getD_lt (by rw [fo]; omega) _ (aa HX).lt _
   have hinv : Wd.Bf dw xl qc m (j + 1) r := by have := HI.out; rwa [show ((j : Int) + 1).toNat = j + 1 by omega] at this
   have Pw : r < dw := Nat.lt_trans hinv.r1 (aa HMB)
   obtain ⟨rs, hrs⟩ : ∃ t, t = r * dw := ⟨_, rfl⟩
   obtain ⟨X, hX⟩ : ∃ t, t = r * dw + xj := ⟨_, rfl⟩
   obtain ⟨q, hq⟩ : ∃ t, t = (r * dw + xj) / m := ⟨_, rfl⟩
   obtain ⟨s, hs⟩ : ∃ t, t = (r * dw + xj) % m := ⟨_, rfl⟩
   have hXB : X < dh := by rw [hX]; rw [fo] at *; rw [gm]; omega
   have Lb : q < dw := by
    rw [hq, Nat.div_lt_iff_lt_mul (aa HM0)]
    have h1 : (r + 1) * dw ≤ m * dw := Nat.mul_le_mul_right _ hinv.r1
    rw [Nat.add_mul, Nat.one_mul] at h1
    rw [Nat.mul_comm dw]; omega
   have hsm : s < m := by rw [hs]; exact Nat.mod_lt _ (aa HM0)
   have b64 : ∀ t : Nat, t < dw → t < dh := fun t ht => by rw [fo] at ht; rw [gm]; omega
   have g1 : IntKind.u64.wrap ((r : Int) * 4294967296) = (rs : Int) := iw (by rw [hrs, fo]; simp) om
   have g2 : Go.bits .or .u64 (rs : Int) (xj : Int) = (X : Int) := by rw [hrs, afk Pw zx, hX]
   have g3 : IntKind.u64.wrap (xj : Int) = (xj : Int) := iw rfl (b64 _ zx)
   have g4 : (X : Int).tdiv (m : Int) = (q : Int) := by rw [hq, hX]; exact (Int.ofNat_tdiv _ _).symm
   have g5 : (X : Int).tmod (m : Int) = (s : Int) := by rw [hs, hX]; exact (Int.ofNat_tmod _ _).symm
   have g6 : IntKind.u64.wrap (q : Int) = (q : Int) := iw rfl (b64 _ Lb)
   have g7 : IntKind.u64.wrap (s : Int) = (s : Int) := iw rfl (b64 _ (Nat.lt_trans hsm (aa HMB)))
   have g8 : (q : Int) % 4294967296 = (q : Int) := by rw [fo] at Lb; omega
   have g9 : IntKind.u32.wrap (q : Int) = (q : Int) := by rw [IntKind.wrap_u32]; exact g8
   have g10 : IntKind.u64.wrap (X : Int) = (X : Int) := iw rfl hXB
   have hfin : ∀ W, W = wr.setCell ⟨w.heap.size, j, none⟩ (.int .u32 (q : Int)) → Hid (Wd.Bf dw xl (qc.set j q) m j s) ∧ ZB .u32 W w.heap.size 187 (qc.set j q) ∧ Below w.heap.size w W := by
    rintro W rfl
    refine ⟨?_, ko.Az _ _, hg.setCell (p := ⟨w.heap.size, j, none⟩) (Nat.le_refl _) _⟩
    rw [hq, hs, hxj]
    exact hinv.step Ty (by rw [← Wd.qa, ← hxj]; exact zx)
   have HF := hide hfin
   clear hfin hq hs hxj zx hinv ko hg HI hX hrs hXB Lb hsm b64 Pw
   go_wp2_with fail
   go_roundw
   case rel =>
    obtain ⟨r1, r2, r3⟩ := (aa HF) _ rfl
    exact ⟨(j : Int) - 1, s, qc.set j q, by omega, by omega, by go_num, rfl, by rw [show ((j : Int) - 1 + 1).toNat = j by omega]; exact r1, r2, r3⟩
   case measure => simp [intOf] <;> omega
end Go.Proofs.YtfgeaakhlcaibaaGreatDoor
