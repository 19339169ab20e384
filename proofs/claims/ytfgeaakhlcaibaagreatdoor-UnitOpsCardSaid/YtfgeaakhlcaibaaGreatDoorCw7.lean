/- Texts beneath a law of layer 1. -/
import Derived.Test.YtfgeaakhlcaibaaGreatDoorCw6
import Derived.BigQuiet
import Derived.Deep.QuietTactic
import Derived.Laws.Bits64b
import Derived.Deep.CutBlock
import Derived.Deep.DeepCutAuto
set_option maxRecDepth 100000
set_option maxHeartbeats 16000000
namespace Go.Proofs.YtfgeaakhlcaibaaGreatDoor
open Go.RowKit

theorem atx (s1 : Int) (dw : Bool) (A1 : Option Addr) (c1 : Nat) (l1 : List Nat) (s2 : Int) (di : Bool) (A2 : Option Addr) (c2 : Nat) (l2 : List Nat) (z1 z2 g r1 r2 : Int) (w : World) (f1 : gu w s1 dw A1 c1 l1 z1) (f2 : gu w s2 di A2 c2 l2 z2) (hs : ¬ z2 < 0)
  (hg : Ch w 164 z1 z2 g) (hq1 : Ch w 165 z1 g r1) (hq2 : Ch w 165 z2 g r2) :
  Calls Tryz.prog 136 #[(Value.agg #[.int .i64 s1, .bool dw, .slice A1 l1.length c1]), (Value.agg #[.int .i64 s2, .bool di, .slice A2 l2.length c2])] w fun e w' => Hd w r1 r2 e w' := by

 have H1 := hide f1
 have H2 := hide f2
 have HG := hide hg
 have Uz := hide hq1
 have HQ2 := hide hq2
 have hs' : decide (su z2 < 0) = false := decide_eq_false (by rw [Hu]; exact hs)
 obtain ⟨o, ho⟩ : ∃ o, o = su z2 := ⟨_, rfl⟩
 have HS := hide (fun W (f : gu W s2 di A2 c2 l2 z2) => (show Calls Tryz.prog 159 #[(Value.agg #[.int .i64 s2, .bool di, .slice A2 l2.length c2])] W fun e w' => e = .returned (.int .i64 o) ∧ Below W.heap.size W w' by rw [ho]; exact Ad s2 di A2 c2 l2 z2 W f))
 rw [← ho] at hs'
 clear f1 f2 hg hq1 hq2 hs ho
 go_enter Tryz.func136, Tryz.ntmps136
 go_upto_region 1 with fail
 obtain ⟨n0, n1, n2, hsz, hw0⟩ := ou w (.cells #[.int .i64 s1, .bool dw, .slice A1 l1.length c1] 77) (.cells #[.int .i64 s2, .bool di, .slice A2 l2.length c2] 77) (.cells #[.int .i64 0, .bool false, .slice none 0 0, .int .i64 0, .bool false, .slice none 0 0] 79)
 generalize (((w.alloc (.cells #[.int .i64 s1, .bool dw, .slice A1 l1.length c1] 77)).alloc (.cells #[.int .i64 s2, .bool di, .slice A2 l2.length c2] 77)).alloc (.cells #[.int .i64 0, .bool false, .slice none 0 0, .int .i64 0, .bool false, .slice none 0 0] 79)) = W0 at *
 have wm : W0.cell? ⟨w.heap.size, 0, none⟩ = some (.int .i64 s1) := ah n0 0
 have wh : W0.cell? ⟨w.heap.size, 1, none⟩ = some (.bool dw) := ah n0 1
 have zm : W0.cell? ⟨w.heap.size, 2, none⟩ = some (.slice A1 l1.length c1) := ah n0 2
 have q0 : w.heap.size < W0.heap.size := by omega
 have yx : W0.cell? ⟨w.heap.size + 1, 0, none⟩ = some (.int .i64 s2) := ah n1 0
 have yw : W0.cell? ⟨w.heap.size + 1, 1, none⟩ = some (.bool di) := ah n1 1
 have Fj : W0.cell? ⟨w.heap.size + 1, 2, none⟩ = some (.slice A2 l2.length c2) := ah n1 2
 have q1 : w.heap.size + 1 < W0.heap.size := by omega
 have afz : W0.cell? ⟨w.heap.size + 1 + 1, 0, none⟩ = some (.int .i64 0) := ah n2 0
 have afy : W0.cell? ⟨w.heap.size + 1 + 1, 1, none⟩ = some (.bool false) := ah n2 1
 have afx : W0.cell? ⟨w.heap.size + 1 + 1, 2, none⟩ = some (.slice none 0 0) := ah n2 2
 have afw : W0.cell? ⟨w.heap.size + 1 + 1, 3, none⟩ = some (.int .i64 0) := ah n2 3
 have afv : W0.cell? ⟨w.heap.size + 1 + 1, 4, none⟩ = some (.bool false) := ah n2 4
 have afu : W0.cell? ⟨w.heap.size + 1 + 1, 5, none⟩ = some (.slice none 0 0) := ah n2 5
 have q2 : w.heap.size + 1 + 1 < W0.heap.size := by omega
 have ahi := ax n2 0
 have ahh := ax n2 1
 have ahg := ax n2 2
 have ahf := ax n2 3
 have ahe := ax n2 4
 have ahd := ax n2 5
 have NR := Lib.hid n2
 clear hsz n0 n1 n2
 replace H1 := hide ((aa H1).below hw0)
 replace H2 := hide ((aa H2).below hw0)
 go_cut [5] (fun s5_ wx => ∃ b5 : Nat, s5_ = .pointer (some ⟨b5, 0, none⟩) ∧ Dm wx b5 g ∧ Below W0.heap.size W0 wx ∧ W0.heap.size ≤ b5)
 case first =>
  go_wp2_with fail
  refine ((aa HG) s1 dw A1 c1 l1 s2 di A2 c2 l2 _ hw0 (aa H1) (aa H2)).mono ?_
  rintro e w' ⟨s5, rz, A5, c5, l5, rfl, zb, hb5⟩
  go_wp2_with fail
  go_meet
  exact ⟨_, rfl, awz zb hb5 rfl⟩
 case rest =>
  revert hcut
  generalize wc = W1
  intro hcut
  obtain ⟨b5, rfl, ⟨s5, rz, A5, c5, l5, n5, f5⟩, hB1, ob5⟩ := hcut
  have Xr : W1.cell? ⟨b5, 0, none⟩ = some (.int .i64 s5) := ah n5 0
  have Xq : W1.cell? ⟨b5, 1, none⟩ = some (.bool rz) := ah n5 1
  have Xp : W1.cell? ⟨b5, 2, none⟩ = some (.slice A5 l5.length c5) := ah n5 2
  have y0 : W1.cell? ⟨w.heap.size + 1, 0, none⟩ = some (.int .i64 s2) := ic hB1 q1 yx
  have y1 : W1.cell? ⟨w.heap.size + 1, 1, none⟩ = some (.bool di) := ic hB1 q1 yw
  have y2 : W1.cell? ⟨w.heap.size + 1, 2, none⟩ = some (.slice A2 l2.length c2) := ic hB1 q1 Fj
  go_wp2_with fail
  refine ((aa HS) W1 ((aa H2).below hB1)).mono ?_
  rintro e W2 ⟨rfl, hb⟩
  have q5 := lt_of_block n5
  have n5' := (hb.block _ q5).trans n5
  have f5' := f5.below hb
  have hB := bz hB1 hb
  clear Xr Xq Xp y0 y1 y2 f5 n5 hB1
  have ng := n5'
  have fg := f5'
  clear n5' f5' hb
  have FG := hide fg
  clear fg
  have Zk : W2.cell? ⟨w.heap.size, 0, none⟩ = some (.int .i64 s1) := ic hB q0 wm
  have Zj : W2.cell? ⟨w.heap.size, 1, none⟩ = some (.bool dw) := ic hB q0 wh
  have Zi : W2.cell? ⟨w.heap.size, 2, none⟩ = some (.slice A1 l1.length c1) := ic hB q0 zm
  have Pn : w.heap.size < W2.heap.size := Nat.lt_of_lt_of_le q0 hB.size
  have Zg : W2.cell? ⟨w.heap.size + 1, 0, none⟩ = some (.int .i64 s2) := ic hB q1 yx
  have Zf : W2.cell? ⟨w.heap.size + 1, 1, none⟩ = some (.bool di) := ic hB q1 yw
  have Ze : W2.cell? ⟨w.heap.size + 1, 2, none⟩ = some (.slice A2 l2.length c2) := ic hB q1 Fj
  have q1' : w.heap.size + 1 < W2.heap.size := Nat.lt_of_lt_of_le q1 hB.size
  have Rn := ah ng 0
  have Rm := ah ng 1
  have Rl := ah ng 2
  have Pm := lt_of_block ng
  simp only [Array.getElem?_eq_getElem, kg, jy, jw] at Rn Rm Rl
  have auf : W2.cell? ⟨w.heap.size + 1 + 1, 0, none⟩ = some (.int .i64 0) := ic hB q2 afz
  have bmu : W2.frozen? ⟨w.heap.size + 1 + 1, 0, none⟩ = false := (hB.frozen (p := ⟨w.heap.size + 1 + 1, 0, none⟩) q2).trans ahi
  have aue : W2.cell? ⟨w.heap.size + 1 + 1, 1, none⟩ = some (.bool false) := ic hB q2 afy
  have bmt : W2.frozen? ⟨w.heap.size + 1 + 1, 1, none⟩ = false := (hB.frozen (p := ⟨w.heap.size + 1 + 1, 1, none⟩) q2).trans ahh
  have aud : W2.cell? ⟨w.heap.size + 1 + 1, 2, none⟩ = some (.slice none 0 0) := ic hB q2 afx
  have bms : W2.frozen? ⟨w.heap.size + 1 + 1, 2, none⟩ = false := (hB.frozen (p := ⟨w.heap.size + 1 + 1, 2, none⟩) q2).trans ahg
  have auc : W2.cell? ⟨w.heap.size + 1 + 1, 3, none⟩ = some (.int .i64 0) := ic hB q2 afw
  have bmr : W2.frozen? ⟨w.heap.size + 1 + 1, 3, none⟩ = false := (hB.frozen (p := ⟨w.heap.size + 1 + 1, 3, none⟩) q2).trans ahf
  have aub : W2.cell? ⟨w.heap.size + 1 + 1, 4, none⟩ = some (.bool false) := ic hB q2 afv
  have bmq : W2.frozen? ⟨w.heap.size + 1 + 1, 4, none⟩ = false := (hB.frozen (p := ⟨w.heap.size + 1 + 1, 4, none⟩) q2).trans ahe
  have aua : W2.cell? ⟨w.heap.size + 1 + 1, 5, none⟩ = some (.slice none 0 0) := ic hB q2 afu
  have bmp : W2.frozen? ⟨w.heap.size + 1 + 1, 5, none⟩ = false := (hB.frozen (p := ⟨w.heap.size + 1 + 1, 5, none⟩) q2).trans ahd
  have qr : w.heap.size + 1 + 1 < W2.heap.size := Nat.lt_of_lt_of_le q2 hB.size
  have or5 : w.heap.size + 1 + 1 < b5 := Nat.lt_of_lt_of_le q2 ob5
  clear wm wh zm yx yw Fj afz afy afx afw afv afu ahi ahh ahg ahf ahe ahd ng
  have KEEP := hide (show ∀ X, Below W2.heap.size W2 X → X.cell? ⟨w.heap.size, 0, none⟩ = some (.int .i64 s1) ∧ X.cell? ⟨w.heap.size, 1, none⟩ = some (.bool dw) ∧ X.cell? ⟨w.heap.size, 2, none⟩ = some (.slice A1 l1.length c1) ∧ X.cell? ⟨w.heap.size + 1, 0, none⟩ = some (.int .i64 s2) ∧ X.cell? ⟨w.heap.size + 1, 1, none⟩ = some (.bool di) ∧ X.cell? ⟨w.heap.size + 1, 2, none⟩ = some (.slice A2 l2.length c2) ∧ X.cell? ⟨b5, 0, none⟩ = some (.int .i64 s5) ∧ X.cell? ⟨b5, 1, none⟩ = some (.bool rz) ∧ X.cell? ⟨b5, 2, none⟩ = some (.slice A5 l5.length c5) from fun X hX => ⟨ic hX Pn Zk, ic hX Pn Zj, ic hX Pn Zi, ic hX q1' Zg, ic hX q1' Zf, ic hX q1' Ze, ic hX Pm Rn, ic hX Pm Rm, ic hX Pm Rl⟩)
  go_wp2_with fail
  go_region_held3 (fun w' => w'.cell? ⟨w.heap.size, 0, none⟩ = some (.int .i64 s1) ∧ w'.cell? ⟨w.heap.size, 1, none⟩ = some (.bool dw) ∧ w'.cell? ⟨w.heap.size, 2, none⟩ = some (.slice A1 l1.length c1) ∧ w'.cell? ⟨w.heap.size + 1, 0, none⟩ = some (.int .i64 s2) ∧ w'.cell? ⟨w.heap.size + 1, 1, none⟩ = some (.bool di) ∧ w'.cell? ⟨w.heap.size + 1, 2, none⟩ = some (.slice A2 l2.length c2) ∧ w'.cell? ⟨b5, 0, none⟩ = some (.int .i64 s5) ∧ w'.cell? ⟨b5, 1, none⟩ = some (.bool rz) ∧ w'.cell? ⟨b5, 2, none⟩ = some (.slice A5 l5.length c5)) (first | with_reducible exact ⟨(jo _ _ _ _ _ _ _ _ om).trans (ic hbw Pn Zk), (jo _ _ _ _ _ _ _ _ om).trans (ic hbw Pn Zj), (jo _ _ _ _ _ _ _ _ om).trans (ic hbw Pn Zi), (jo _ _ _ _ _ _ _ _ om).trans (ic hbw q1' Zg), (jo _ _ _ _ _ _ _ _ om).trans (ic hbw q1' Zf), (jo _ _ _ _ _ _ _ _ om).trans (ic hbw q1' Ze), (jo _ _ _ _ _ _ _ _ om).trans (ic hbw Pm Rn), (jo _ _ _ _ _ _ _ _ om).trans (ic hbw Pm Rm), (jo _ _ _ _ _ _ _ _ om).trans (ic hbw Pm Rl)⟩ | with_reducible exact (aa KEEP) _ bel) (first | (go_at_call_of 165 (Value.agg #[.int .i64 s1, .bool dw, .slice A1 l1.length c1]); refine ((aa Uz) s1 dw A1 c1 l1 s5 rz A5 c5 l5 _ (bz hw0 (bz hB bel)) (gu.below (aa H1) (bz hB bel)) (gu.below (aa FG) bel)).mono ?_; rintro e w' ⟨s8, afl, A8, c8, l8, rfl, Zq, hb8⟩; have hbw := dh (w := W2) bel hb8; have hsw := hbw.size; obtain ⟨hc, hfz⟩ := fo hbw) | (go_at_call_of 165 (Value.agg #[.int .i64 s2, .bool di, .slice A2 l2.length c2]); refine ((aa HQ2) s2 di A2 c2 l2 s5 rz A5 c5 l5 _ (bz hw0 (bz hB bel)) (gu.below (aa H2) (bz hB bel)) (gu.below (aa FG) bel)).mono ?_; rintro e w' ⟨s9, afk, A9, c9, l9, rfl, hf9, ku⟩; have Zq := gu.below (gu.below Zq bel) ku; have hbw := dh (w := W2) bel ku; have hsw := hbw.size; obtain ⟨hc, hfz⟩ := fo hbw))
  have hBB : Below W0.heap.size W0 w' := bz hB hbw
  have hblk : w'.heap[w.heap.size + 1 + 1]? = some (.cells #[.int .i64 0, .bool false, .slice none 0 0, .int .i64 0, .bool false, .slice none 0 0] 79 (0, 0)) := (hBB.block _ q2).trans NR.out
  have kz := Lib.hid hblk
  have ku : Below w.heap.size w w' := bz hw0 hBB
  clear hblk
  go_wp2_with fail
  exact bodyPost_ret (v := (Value.agg #[.int .i64 s8, .bool afl, .slice A8 l8.length c8, .int .i64 s9, .bool afk, .slice A9 l9.length c9])) (by simp [results, Tryz.results136, go_sem, hc, auf, aue, aud, auc, aub, aua, qr]) rfl
   ⟨s8, afl, A8, c8, l8, s9, afk, A9, c9, l9, rfl, (Zq).upto kz.out (wu _ _ _ _ _ _ _ _ _ _) (lh _ _ _ _ _ _ _ _), (hf9).upto kz.out (wu _ _ _ _ _ _ _ _ _ _) (lh _ _ _ _ _ _ _ _), ku.grown (lh _ _ _ _ _ _ _ _) ku.size (fun k hk => by injection hk with hk; omega)⟩
theorem aty (s1 : Int) (dw : Bool) (A1 : Option Addr) (c1 : Nat) (l1 : List Nat) (s2 : Int) (di : Bool) (A2 : Option Addr) (c2 : Nat) (l2 : List Nat) (z1 z2 g gn r1 r2 : Int) (w : World) (f1 : gu w s1 dw A1 c1 l1 z1) (f2 : gu w s2 di A2 c2 l2 z2) (hs : z2 < 0) (hgn : gn = -g)
  (hg : Ch w 164 z1 z2 g) (hq1 : Ch w 165 z1 gn r1) (hq2 : Ch w 165 z2 gn r2) :
  Calls Tryz.prog 136 #[(Value.agg #[.int .i64 s1, .bool dw, .slice A1 l1.length c1]), (Value.agg #[.int .i64 s2, .bool di, .slice A2 l2.length c2])] w fun e w' => Hd w r1 r2 e w' := by
 subst hgn
 have H1 := hide f1
 have H2 := hide f2
 have HG := hide hg
 have Uz := hide hq1
 have HQ2 := hide hq2
 have hs' : decide (su z2 < 0) = true := decide_eq_true (by rw [Hu]; exact hs)
 obtain ⟨o, ho⟩ : ∃ o, o = su z2 := ⟨_, rfl⟩
 have HS := hide (fun W (f : gu W s2 di A2 c2 l2 z2) => (show Calls Tryz.prog 159 #[(Value.agg #[.int .i64 s2, .bool di, .slice A2 l2.length c2])] W fun e w' => e = .returned (.int .i64 o) ∧ Below W.heap.size W w' by rw [ho]; exact Ad s2 di A2 c2 l2 z2 W f))
 rw [← ho] at hs'
 clear f1 f2 hg hq1 hq2 hs ho
 go_enter Tryz.func136, Tryz.ntmps136
 go_upto_region 1 with fail
 obtain ⟨n0, n1, n2, hsz, hw0⟩ := ou w (.cells #[.int .i64 s1, .bool dw, .slice A1 l1.length c1] 77) (.cells #[.int .i64 s2, .bool di, .slice A2 l2.length c2] 77) (.cells #[.int .i64 0, .bool false, .slice none 0 0, .int .i64 0, .bool false, .slice none 0 0] 79)
 generalize (((w.alloc (.cells #[.int .i64 s1, .bool dw, .slice A1 l1.length c1] 77)).alloc (.cells #[.int .i64 s2, .bool di, .slice A2 l2.length c2] 77)).alloc (.cells #[.int .i64 0, .bool false, .slice none 0 0, .int .i64 0, .bool false, .slice none 0 0] 79)) = W0 at *
 have wm : W0.cell? ⟨w.heap.size, 0, none⟩ = some (.int .i64 s1) := ah n0 0
 have wh : W0.cell? ⟨w.heap.size, 1, none⟩ = some (.bool dw) := ah n0 1
 have zm : W0.cell? ⟨w.heap.size, 2, none⟩ = some (.slice A1 l1.length c1) := ah n0 2
 have q0 : w.heap.size < W0.heap.size := by omega
 have yx : W0.cell? ⟨w.heap.size + 1, 0, none⟩ = some (.int .i64 s2) := ah n1 0
 have yw : W0.cell? ⟨w.heap.size + 1, 1, none⟩ = some (.bool di) := ah n1 1
 have Fj : W0.cell? ⟨w.heap.size + 1, 2, none⟩ = some (.slice A2 l2.length c2) := ah n1 2
 have q1 : w.heap.size + 1 < W0.heap.size := by omega
 have afz : W0.cell? ⟨w.heap.size + 1 + 1, 0, none⟩ = some (.int .i64 0) := ah n2 0
 have afy : W0.cell? ⟨w.heap.size + 1 + 1, 1, none⟩ = some (.bool false) := ah n2 1
 have afx : W0.cell? ⟨w.heap.size + 1 + 1, 2, none⟩ = some (.slice none 0 0) := ah n2 2
 have afw : W0.cell? ⟨w.heap.size + 1 + 1, 3, none⟩ = some (.int .i64 0) := ah n2 3
 have afv : W0.cell? ⟨w.heap.size + 1 + 1, 4, none⟩ = some (.bool false) := ah n2 4
 have afu : W0.cell? ⟨w.heap.size + 1 + 1, 5, none⟩ = some (.slice none 0 0) := ah n2 5
 have q2 : w.heap.size + 1 + 1 < W0.heap.size := by omega
 have ahi := ax n2 0
 have ahh := ax n2 1
 have ahg := ax n2 2
 have ahf := ax n2 3
 have ahe := ax n2 4
 have ahd := ax n2 5
 have NR := Lib.hid n2
 clear hsz n0 n1 n2
 replace H1 := hide ((aa H1).below hw0)
 replace H2 := hide ((aa H2).below hw0)
 go_cut [5] (fun s5_ wx => ∃ b5 : Nat, s5_ = .pointer (some ⟨b5, 0, none⟩) ∧ Dm wx b5 g ∧ Below W0.heap.size W0 wx ∧ W0.heap.size ≤ b5)
 case first =>
  go_wp2_with fail
  refine ((aa HG) s1 dw A1 c1 l1 s2 di A2 c2 l2 _ hw0 (aa H1) (aa H2)).mono ?_
  rintro e w' ⟨s5, rz, A5, c5, l5, rfl, zb, hb5⟩
  go_wp2_with fail
  go_meet
  exact ⟨_, rfl, awz zb hb5 rfl⟩
 case rest =>
  revert hcut
  generalize wc = W1
  intro hcut
  obtain ⟨b5, rfl, ⟨s5, rz, A5, c5, l5, n5, f5⟩, hB1, ob5⟩ := hcut
  have Xr : W1.cell? ⟨b5, 0, none⟩ = some (.int .i64 s5) := ah n5 0
  have Xq : W1.cell? ⟨b5, 1, none⟩ = some (.bool rz) := ah n5 1
  have Xp : W1.cell? ⟨b5, 2, none⟩ = some (.slice A5 l5.length c5) := ah n5 2
  have y0 : W1.cell? ⟨w.heap.size + 1, 0, none⟩ = some (.int .i64 s2) := ic hB1 q1 yx
  have y1 : W1.cell? ⟨w.heap.size + 1, 1, none⟩ = some (.bool di) := ic hB1 q1 yw
  have y2 : W1.cell? ⟨w.heap.size + 1, 2, none⟩ = some (.slice A2 l2.length c2) := ic hB1 q1 Fj
  go_wp2_with fail
  refine ((aa HS) W1 ((aa H2).below hB1)).mono ?_
  rintro e W2 ⟨rfl, hb⟩
  have q5 := lt_of_block n5
  have n5' := (hb.block _ q5).trans n5
  have f5' := f5.below hb
  have hB := bz hB1 hb
  clear Xr Xq Xp y0 y1 y2 f5 n5 hB1
  have Xr : W2.cell? ⟨b5, 0, none⟩ = some (.int .i64 s5) := ah n5' 0
  have Xq : W2.cell? ⟨b5, 1, none⟩ = some (.bool rz) := ah n5' 1
  have Xp : W2.cell? ⟨b5, 2, none⟩ = some (.slice A5 l5.length c5) := ah n5' 2
  have F5 := hide f5'
  clear f5' hb
  go_wp2_with fail
  refine (Vh s5 rz A5 c5 l5 g _ (aa F5)).mono ?_
  rintro e W3 ⟨s7, Ua, A7, c7, l7, rfl, hf7, hb⟩
  have n5 := (hb.block _ (lt_of_block n5')).trans n5'
  replace hB := bz hB hb
  clear Xr Xq Xp n5' hb
  have Xr : W3.cell? ⟨b5, 0, none⟩ = some (.int .i64 s5) := ah n5 0
  have Xq : W3.cell? ⟨b5, 1, none⟩ = some (.bool rz) := ah n5 1
  have Xp : W3.cell? ⟨b5, 2, none⟩ = some (.slice A5 l5.length c5) := ah n5 2
  have blg := ax n5 0
  have blf := ax n5 1
  have bld := ax n5 2
  have HF7 := hide hf7
  have N5 := hide n5
  clear hf7 n5
  go_upto_region 4 with fail
  have pb := Yv (u0 := .int .i64 s7) (u1 := .bool Ua) (u2 := .slice A7 l7.length c7) (aa N5)
  have g3 := jd W3 b5 (.int .i64 s7) (.bool Ua) (.slice A7 l7.length c7)
  have fg := (aa HF7).upto (aa N5) (ug _ _ _ _ _) g3
  replace hB := hB.grown g3 hB.size (fun k hk => by injection hk with hk; omega)
  have ng := pb
  clear pb g3 Xr Xq Xp blg blf bld
  generalize (((W3.setCell ⟨b5, 0, none⟩ (.int .i64 s7)).setCell ⟨b5, 1, none⟩ (.bool Ua)).setCell ⟨b5, 2, none⟩ (.slice A7 l7.length c7)) = W4 at *
  have FG := hide fg
  clear fg
  have Zk : W4.cell? ⟨w.heap.size, 0, none⟩ = some (.int .i64 s1) := ic hB q0 wm
  have Zj : W4.cell? ⟨w.heap.size, 1, none⟩ = some (.bool dw) := ic hB q0 wh
  have Zi : W4.cell? ⟨w.heap.size, 2, none⟩ = some (.slice A1 l1.length c1) := ic hB q0 zm
  have Pn : w.heap.size < W4.heap.size := Nat.lt_of_lt_of_le q0 hB.size
  have Zg : W4.cell? ⟨w.heap.size + 1, 0, none⟩ = some (.int .i64 s2) := ic hB q1 yx
  have Zf : W4.cell? ⟨w.heap.size + 1, 1, none⟩ = some (.bool di) := ic hB q1 yw
  have Ze : W4.cell? ⟨w.heap.size + 1, 2, none⟩ = some (.slice A2 l2.length c2) := ic hB q1 Fj
  have q1' : w.heap.size + 1 < W4.heap.size := Nat.lt_of_lt_of_le q1 hB.size
  have Rn := ah ng 0
  have Rm := ah ng 1
  have Rl := ah ng 2
  have Pm := lt_of_block ng
  simp only [Array.getElem?_eq_getElem, kg, jy, jw] at Rn Rm Rl
  have auf : W4.cell? ⟨w.heap.size + 1 + 1, 0, none⟩ = some (.int .i64 0) := ic hB q2 afz
  have bmu : W4.frozen? ⟨w.heap.size + 1 + 1, 0, none⟩ = false := (hB.frozen (p := ⟨w.heap.size + 1 + 1, 0, none⟩) q2).trans ahi
  have aue : W4.cell? ⟨w.heap.size + 1 + 1, 1, none⟩ = some (.bool false) := ic hB q2 afy
  have bmt : W4.frozen? ⟨w.heap.size + 1 + 1, 1, none⟩ = false := (hB.frozen (p := ⟨w.heap.size + 1 + 1, 1, none⟩) q2).trans ahh
  have aud : W4.cell? ⟨w.heap.size + 1 + 1, 2, none⟩ = some (.slice none 0 0) := ic hB q2 afx
  have bms : W4.frozen? ⟨w.heap.size + 1 + 1, 2, none⟩ = false := (hB.frozen (p := ⟨w.heap.size + 1 + 1, 2, none⟩) q2).trans ahg
  have auc : W4.cell? ⟨w.heap.size + 1 + 1, 3, none⟩ = some (.int .i64 0) := ic hB q2 afw
  have bmr : W4.frozen? ⟨w.heap.size + 1 + 1, 3, none⟩ = false := (hB.frozen (p := ⟨w.heap.size + 1 + 1, 3, none⟩) q2).trans ahf
  have aub : W4.cell? ⟨w.heap.size + 1 + 1, 4, none⟩ = some (.bool false) := ic hB q2 afv
  have bmq : W4.frozen? ⟨w.heap.size + 1 + 1, 4, none⟩ = false := (hB.frozen (p := ⟨w.heap.size + 1 + 1, 4, none⟩) q2).trans ahe
  have aua : W4.cell? ⟨w.heap.size + 1 + 1, 5, none⟩ = some (.slice none 0 0) := ic hB q2 afu
  have bmp : W4.frozen? ⟨w.heap.size + 1 + 1, 5, none⟩ = false := (hB.frozen (p := ⟨w.heap.size + 1 + 1, 5, none⟩) q2).trans ahd
  have qr : w.heap.size + 1 + 1 < W4.heap.size := Nat.lt_of_lt_of_le q2 hB.size
  have or5 : w.heap.size + 1 + 1 < b5 := Nat.lt_of_lt_of_le q2 ob5
  clear wm wh zm yx yw Fj afz afy afx afw afv afu ahi ahh ahg ahf ahe ahd ng
  have KEEP := hide (show ∀ X, Below W4.heap.size W4 X → X.cell? ⟨w.heap.size, 0, none⟩ = some (.int .i64 s1) ∧ X.cell? ⟨w.heap.size, 1, none⟩ = some (.bool dw) ∧ X.cell? ⟨w.heap.size, 2, none⟩ = some (.slice A1 l1.length c1) ∧ X.cell? ⟨w.heap.size + 1, 0, none⟩ = some (.int .i64 s2) ∧ X.cell? ⟨w.heap.size + 1, 1, none⟩ = some (.bool di) ∧ X.cell? ⟨w.heap.size + 1, 2, none⟩ = some (.slice A2 l2.length c2) ∧ X.cell? ⟨b5, 0, none⟩ = some (.int .i64 s7) ∧ X.cell? ⟨b5, 1, none⟩ = some (.bool Ua) ∧ X.cell? ⟨b5, 2, none⟩ = some (.slice A7 l7.length c7) from fun X hX => ⟨ic hX Pn Zk, ic hX Pn Zj, ic hX Pn Zi, ic hX q1' Zg, ic hX q1' Zf, ic hX q1' Ze, ic hX Pm Rn, ic hX Pm Rm, ic hX Pm Rl⟩)
  go_wp2_with fail
  go_region_held3 (fun w' => w'.cell? ⟨w.heap.size, 0, none⟩ = some (.int .i64 s1) ∧ w'.cell? ⟨w.heap.size, 1, none⟩ = some (.bool dw) ∧ w'.cell? ⟨w.heap.size, 2, none⟩ = some (.slice A1 l1.length c1) ∧ w'.cell? ⟨w.heap.size + 1, 0, none⟩ = some (.int .i64 s2) ∧ w'.cell? ⟨w.heap.size + 1, 1, none⟩ = some (.bool di) ∧ w'.cell? ⟨w.heap.size + 1, 2, none⟩ = some (.slice A2 l2.length c2) ∧ w'.cell? ⟨b5, 0, none⟩ = some (.int .i64 s7) ∧ w'.cell? ⟨b5, 1, none⟩ = some (.bool Ua) ∧ w'.cell? ⟨b5, 2, none⟩ = some (.slice A7 l7.length c7)) (first | with_reducible exact ⟨(jo _ _ _ _ _ _ _ _ om).trans (ic hbw Pn Zk), (jo _ _ _ _ _ _ _ _ om).trans (ic hbw Pn Zj), (jo _ _ _ _ _ _ _ _ om).trans (ic hbw Pn Zi), (jo _ _ _ _ _ _ _ _ om).trans (ic hbw q1' Zg), (jo _ _ _ _ _ _ _ _ om).trans (ic hbw q1' Zf), (jo _ _ _ _ _ _ _ _ om).trans (ic hbw q1' Ze), (jo _ _ _ _ _ _ _ _ om).trans (ic hbw Pm Rn), (jo _ _ _ _ _ _ _ _ om).trans (ic hbw Pm Rm), (jo _ _ _ _ _ _ _ _ om).trans (ic hbw Pm Rl)⟩ | with_reducible exact (aa KEEP) _ bel) (first | (go_at_call_of 165 (Value.agg #[.int .i64 s1, .bool dw, .slice A1 l1.length c1]); refine ((aa Uz) s1 dw A1 c1 l1 s7 Ua A7 c7 l7 _ (bz hw0 (bz hB bel)) (gu.below (aa H1) (bz hB bel)) (gu.below (aa FG) bel)).mono ?_; rintro e w' ⟨s8, afl, A8, c8, l8, rfl, Zq, hb8⟩; have hbw := dh (w := W4) bel hb8; have hsw := hbw.size; obtain ⟨hc, hfz⟩ := fo hbw) | (go_at_call_of 165 (Value.agg #[.int .i64 s2, .bool di, .slice A2 l2.length c2]); refine ((aa HQ2) s2 di A2 c2 l2 s7 Ua A7 c7 l7 _ (bz hw0 (bz hB bel)) (gu.below (aa H2) (bz hB bel)) (gu.below (aa FG) bel)).mono ?_; rintro e w' ⟨s9, afk, A9, c9, l9, rfl, hf9, ku⟩; have Zq := gu.below (gu.below Zq bel) ku; have hbw := dh (w := W4) bel ku; have hsw := hbw.size; obtain ⟨hc, hfz⟩ := fo hbw))
  have hBB : Below W0.heap.size W0 w' := bz hB hbw
  have hblk : w'.heap[w.heap.size + 1 + 1]? = some (.cells #[.int .i64 0, .bool false, .slice none 0 0, .int .i64 0, .bool false, .slice none 0 0] 79 (0, 0)) := (hBB.block _ q2).trans NR.out
  have kz := Lib.hid hblk
  have ku : Below w.heap.size w w' := bz hw0 hBB
  clear hblk
  go_wp2_with fail
  exact bodyPost_ret (v := (Value.agg #[.int .i64 s8, .bool afl, .slice A8 l8.length c8, .int .i64 s9, .bool afk, .slice A9 l9.length c9])) (by simp [results, Tryz.results136, go_sem, hc, auf, aue, aud, auc, aub, aua, qr]) rfl
   ⟨s8, afl, A8, c8, l8, s9, afk, A9, c9, l9, rfl, (Zq).upto kz.out (wu _ _ _ _ _ _ _ _ _ _) (lh _ _ _ _ _ _ _ _), (hf9).upto kz.out (wu _ _ _ _ _ _ _ _ _ _) (lh _ _ _ _ _ _ _ _), ku.grown (lh _ _ _ _ _ _ _ _) ku.size (fun k hk => by injection hk with hk; omega)⟩
theorem Xo {K : Nat} (s1 : Int) (dw : Bool) (A1 : Option Addr) (c1 : Nat) (l1 : List Nat) (s2 : Int) (di : Bool) (A2 : Option Addr) (c2 : Nat) (l2 : List Nat) (z1 z2 : Int) (w : World) (hT : qa w) (f1 : gu w s1 dw A1 c1 l1 z1) (f2 : gu w s2 di A2 c2 l2 z2) (h0 : z2 ≠ 0) (hx : Wd.Sz dz K z1) (hy : Wd.Sz dz K z2) (hK : K ≤ lim) :
  Calls Tryz.prog 136 #[(Value.agg #[.int .i64 s1, .bool dw, .slice A1 l1.length c1]), (Value.agg #[.int .i64 s2, .bool di, .slice A2 l2.length c2])] w fun e w' => Hd w (Rat.divInt z1 z2).num ((Rat.divInt z1 z2).den : Int) e w' := by
 have hp := Wd.Ng z1 z2 h0
 have g0 : 0 < z1.natAbs.gcd z2.natAbs := Nat.gcd_pos_of_pos_right _ om
 have sg : Wd.Sz dz K ((z1.natAbs.gcd z2.natAbs : Nat) : Int) := hy.gcd_right h0
 rw [hp.1, hp.2]
 by_cases hs : z2 < 0
 ·
  have e : z2.sign * ((z1.natAbs.gcd z2.natAbs : Nat) : Int) = -((z1.natAbs.gcd z2.natAbs : Nat) : Int) := by rw [Int.sign_eq_neg_one_of_neg hs]; omega
  rw [e]
  exact aty s1 dw A1 c1 l1 s2 di A2 c2 l2 z1 z2 _ _ _ _ w f1 f2 hs rfl (Pq hT hx hy hK rfl) (Ef hx sg.neg hK om rfl) (Ef hy sg.neg hK om rfl)
 ·
  have e : z2.sign * ((z1.natAbs.gcd z2.natAbs : Nat) : Int) = ((z1.natAbs.gcd z2.natAbs : Nat) : Int) := by rw [Int.sign_eq_one_of_pos om]; omega
  rw [e]
  exact atx s1 dw A1 c1 l1 s2 di A2 c2 l2 z1 z2 _ _ _ w f1 f2 hs (Pq hT hx hy hK rfl) (Ef hx sg hK om rfl) (Ef hy sg hK om rfl)


structure qw (w : World) (A : Option Addr) (cap : Nat) (l : List Nat) (n : Nat) : Prop where
 ws : Ws .u32 w w.heap.size A l
 tq : l.length ≤ cap
 cap2 : cap ≤ 9223372036854775807
 lt : ∀ x ∈ l, x < fe
 norm : Wd.Norm l
 val : Wd.val fe l = n

theorem qw.below {w w' : World} {A : Option Addr} {cap : Nat} {l : List Nat} {n : Nat} (h : qw w A cap l n) (hb : Below w.heap.size w w') : qw w' A cap l n :=
 ⟨(h.ws.below hb).more hb.size, h.tq, h.cap2, h.lt, h.norm, h.val⟩
theorem qw.len {w : World} {A : Option Addr} {cap : Nat} {l : List Nat} {n k : Nat} (h : qw w A cap l n) (hn : n < fe ^ k) : l.length ≤ k :=
 Wd.Xn Ck l h.norm k (by rw [h.val]; exact hn)
theorem qw.Rk (w : World) (cap : Nat) (hc : cap ≤ 9223372036854775807) : qw w none cap [] 0 := ⟨Ws.Rk, by simp, hc, by simp, .inl rfl, rfl⟩
theorem qw.Mr {w : World} {A : Option Addr} {cap : Nat} {l : List Nat} {n : Nat} (h : qw w A cap l n) : n < fe ^ l.length := by
 rw [← h.val]; exact Wd.zz l h.lt

def bga (w : World) (n : Nat) (e : Ending) (w' : World) : Prop := ∃ A cap l, e = .returned (.slice A l.length cap) ∧ qw w' A cap l n ∧ Below w.heap.size w w'

theorem qw.Ak {w : World} {b cap : Nat} {T : TypeId} {zs : List Nat} {k : Nat} (hz : ZB .u32 w b T zs) (hlt : ∀ x ∈ zs, x < fe) (ht : Wd.Gv zs (zs.take k)) (hk : k ≤ zs.length) (hc : zs.length ≤ cap) (hc2 : cap ≤ 9223372036854775807) :
  qw w (some ⟨b, 0, none⟩) cap (zs.take k) (Wd.val fe zs) :=
 ⟨(hz.Dq _ hz.lt).Qu k, by simp; omega, hc2, fun x hx => hlt x (List.mem_of_mem_take hx), ht.norm, ht.val _⟩

theorem Cm (A : Option Addr) (cap : Nat) (l : List Nat) (B : Nat) (w : World) (hr : Ws .u32 w B A l) (hcap : l.length ≤ cap) (hm : cap ≤ 9223372036854775807) :
  Calls Tryz.prog 180 #[.slice A l.length cap] w fun e w' => (∃ k, e = .returned (.slice A k cap) ∧ Wd.Gv l (l.take k) ∧ k ≤ l.length) ∧ w' = w := by
 go_enter Tryz.func180, Tryz.ntmps180
 go_wp2
 go_loop [0] (fun v => ∃ k : Nat, k ≤ l.length ∧ v = .slice A k cap ∧ ∀ i, k ≤ i → i < l.length → l.getD i 0 = 0) (fun v => slen v)
 case atStart => exact ⟨l.length, Nat.le_refl _, rfl, fun i h1 h2 => by omega⟩
 case round =>
  obtain ⟨k, hk, rfl, hz⟩ := hrel
  have HZ := Lib.hid hz
  clear hz
  by_cases h0 : k = 0
  ·
   subst h0
   go_wp2
   go_ret
   exact ⟨⟨0, rfl, ⟨0, Nat.zero_le _, rfl, HZ.out, .inl rfl⟩, Nat.zero_le _⟩, rfl⟩
  ·
   obtain ⟨b, off, rfl, hb, hc⟩ := hr om
   have hck := hc (k - 1) om
   clear hc
   go_wp2
   ·
    have ht : (((Wd.g l (k - 1) : Nat) : Int) == 0) = true := by assumption
    go_round
    case rel =>
     refine ⟨k - 1, by omega, rfl, fun i h1 h2 => ?_⟩
     by_cases hi : i = k - 1
     ·
      subst hi; have := beq_iff_eq.1 ht; rw [Wd.qo] at this; omega
     ·
      exact HZ.out i om h2
    case measure => simp [slen]; omega
   ·
    have ht : (((Wd.g l (k - 1) : Nat) : Int) == 0) = false := by assumption
    go_ret
    refine ⟨⟨k, rfl, ⟨k, hk, rfl, HZ.out, .inr ?_⟩, hk⟩, rfl⟩
    have := beq_eq_false_iff_ne.1 ht; rw [Wd.qo] at this; omega

theorem Lx {w w1 : World} (h : ∃ t, w1 = w.drewN t) (k : Nat) : ∃ t, w1.drewN k = w.drewN t := by
 obtain ⟨t, rfl⟩ := h
 exact ⟨t + k, by simp [World.drewN, Nat.add_assoc]⟩
theorem World.drewN_drewN (w : World) (a b : Nat) : (w.drewN a).drewN b = w.drewN (a + b) := by
 simp [World.drewN, Nat.add_assoc]
theorem Qr (Ax Ay : Option Addr) (cx cy : Nat) (xl yl : List Nat) (n m : Nat) (w : World) (hx : qw w Ax cx xl n) (hy : qw w Ay cy yl m) :
  Calls Tryz.prog 182 #[.slice Ax xl.length cx, .slice Ay yl.length cy] w fun e w' => e = .returned (.int .i64 (ze n m)) ∧ ∃ k, w' = w.drewN k := by
 have hx1 := hx.tq; have hx2 := hx.cap2; have hy1 := hy.tq; have hy2 := hy.cap2
 by_cases hl : xl.length = yl.length
 ·
  have hb : (((xl.length : Nat) : Int) != ((yl.length : Nat) : Int)) = false := by simp; omega
  go_enter Tryz.func182, Tryz.ntmps182
  go_wp2
  go_loopw [5] (fun iv wr => ∃ i : Int, -1 ≤ i ∧ i < xl.length ∧ iv = .int .i64 i ∧ Hid (∀ j : Nat, i < j → j < xl.length → xl.getD j 0 = yl.getD j 0) ∧ Hid (∃ t, wr = w.drewN t)) (fun iv _ => (intOf iv + 1).toNat)
  case atStart => exact ⟨(xl.length : Int) - 1, by omega, by omega, by go_num, fun j h1 h2 => by omega, ⟨0, rfl⟩⟩
  case round =>
   obtain ⟨i, hi1, hi2, rfl, hall, ht⟩ := hrel
   by_cases h0 : i < 0
   ·
    have hv : ze n m = 0 := by
     have : xl = yl := Wd.Le xl yl hl (fun j hj => hall.out j om hj)
     rw [← hx.val, ← hy.val, this]
     unfold ze
     rw [if_neg om, if_neg om]
    have HV := Lib.hid hv
    clear hv hl
    go_wp2
    go_ret
    exact ⟨yc HV.out.symm, ht.out⟩
   ·
    obtain ⟨j, rfl⟩ := Int.eq_ofNat_of_zero_le (show 0 ≤ i by omega)
    have Uk : j < xl.length := by omega
    have hjy : j < yl.length := by omega
    obtain ⟨bx, ox, rfl, hbx, hcx⟩ := hx.ws om
    obtain ⟨by', oy, rfl, hby, hcy⟩ := hy.ws om
    have hsame : ∀ p, wr.cell? p = w.cell? p := fun p => by obtain ⟨t, rfl⟩ := ht.out; rfl
    have Eg := (hsame _).trans (hcx j Uk)
    have Sk := (hsame _).trans (hcy j hjy)
    clear hcx hcy hsame
    obtain ⟨xj, hxj⟩ : ∃ xj, xj = Wd.g xl j := ⟨_, rfl⟩
    obtain ⟨yj, hyj⟩ : ∃ yj, yj = Wd.g yl j := ⟨_, rfl⟩
    rw [← hxj] at Eg
    rw [← hyj] at Sk
    by_cases hlt : xj < yj
    ·
     have d1 : decide ((xj : Int) < (yj : Int)) = true := decide_eq_true om
     have d1' : decide (xj < yj) = true := decide_eq_true hlt
     have hv : ze n m = -1 := by
      rw [← hx.val, ← hy.val]
      unfold ze
      rw [if_pos (Wd.Gc xl yl hx.lt hl j Uk (fun t h1 h2 => hall.out t om h2) (by show Wd.g xl j < Wd.g yl j; omega))]
     have HV := Lib.hid hv
     clear hv hxj hyj hl hlt
     go_wp2_with fail
     go_quiet (fail)
     go_wp2_with fail
     go_ret
     exact ⟨yc HV.out.symm, by first | exact Lx (Lx ht.out _) _ | exact Lx ht.out _⟩
    ·
     have d1 : decide ((xj : Int) < (yj : Int)) = false := decide_eq_false om
     have d1' : decide (xj < yj) = false := decide_eq_false hlt
     by_cases hgt : yj < xj
     ·
      have d2 : decide ((yj : Int) < (xj : Int)) = true := decide_eq_true om
      have d2' : decide (yj < xj) = true := decide_eq_true hgt
      have hv : ze n m = 1 := by
       rw [← hx.val, ← hy.val]
       unfold ze
       have := Wd.Gc yl xl hy.lt hl.symm j hjy (fun t h1 h2 => (hall.out t om om).symm) (by show Wd.g yl j < Wd.g xl j; omega)
       rw [if_neg om, if_pos this]
      have HV := Lib.hid hv
      clear hv hxj hyj hl hlt hgt
      go_wp2_with fail
      go_quiet (fail)
      go_wp2_with fail
      go_quiet (fail)
      go_wp2_with fail
      go_ret
      exact ⟨yc HV.out.symm, by first | exact Lx (Lx ht.out _) _ | exact Lx ht.out _⟩
     ·
      have d2 : decide ((yj : Int) < (xj : Int)) = false := decide_eq_false om
      have d2' : decide (yj < xj) = false := decide_eq_false hgt
      have hnext : ∀ t : Nat, ((j : Int) - 1 < t) → t < xl.length → xl.getD t 0 = yl.getD t 0 := fun t h1 h2 => by
       by_cases ht : t = j
       ·
        subst ht; exact hxj.symm.trans ((show xj = yj by omega).trans hyj)
       ·
        exact hall.out t om h2
      have HN := hide hnext
      clear hnext hxj hyj hl hlt hgt
      go_wp2_with fail
      go_quiet (fail)
      go_wp2_with fail
      go_quiet (fail)
      go_wp2_with fail
      go_roundw
      case rel => exact ⟨(j : Int) - 1, by omega, by omega, by go_num, HN, by first | exact Lx (Lx ht.out _) _ | exact Lx ht.out _⟩
      case measure => simp [intOf] <;> omega
 ·
  have hb : (((xl.length : Nat) : Int) != ((yl.length : Nat) : Int)) = true := by simp; omega
  have ho : ze n m = if xl.length < yl.length then -1 else 1 := by
   unfold ze
   rw [← hx.val, ← hy.val]
   by_cases h : xl.length < yl.length
   ·
    rw [if_pos h, if_pos (Wd.wz Ck xl yl hx.lt hy.norm h)]
   ·
    have := Wd.wz Ck yl xl hy.lt hx.norm om
    rw [if_neg h, if_neg om, if_pos this]
  have HO := Lib.hid ho
  clear ho
  go_enter Tryz.func182, Tryz.ntmps182
  go_wp2
  all_goals
   go_ret
   refine ⟨yc ?_, ⟨0, rfl⟩⟩
   rw [HO.out]
  ·
   rw [if_pos om]
  ·
   rw [if_neg om]

theorem bdf : (Tryz.prog.info? 187).map (fun i => (i.zero, i.size, i.bytes)) = some (some (.int .u32 0), 1, 4) := by kernel_rfl
theorem Za (n : Nat) (h : n ≤ 35184372088832) (w : World) : (Instr.makeSlice 64 (.int .i64 (n : Int)) (.int .i64 (n : Int))).run Tryz.prog w =
  .ok (.slice (some ⟨w.heap.size, 0, none⟩) n n) (w.alloc (.cells (xu .u32 (List.replicate n 0)) 187)) := by
 obtain ⟨i0, hi, hz0, hz1, hz2⟩ := info_parts bdf
 have hr := run_make (P := Tryz.prog) w 64 187 i0 (.int .u32 0) Tryz.underlying64 hi hz0 .i64 .i64 n n om (Int.le_refl _) (by rw [hz2]; omega) om
 simp only [Int.toNat_natCast] at hr
 rw [hr, hz1, Oc]

theorem je {a : Int} {c : Nat} (h : a = (c : Int)) (hc : c < dz) : IntKind.u64.wrap a = ((c : Nat) : Int) := by
 rw [IntKind.wrap_u64, h]; rw [gy] at hc; omega
theorem Be (c : Nat) : IntKind.u32.wrap (c : Int) = ((c % fe : Nat) : Int) := by
 rw [IntKind.wrap_u32, fq]; omega

theorem akz (Ax Ay : Option Addr) (cx cy : Nat) (xl yl : List Nat) (n m : Nat) (w : World) (hx : qw w Ax cx xl n) (hy : qw w Ay cy yl m) (hk : xl.length + yl.length ≤ 35184372088832) :
  Calls Tryz.prog 184 #[.slice Ax xl.length cx, .slice Ay yl.length cy] w fun e w' => bga w (n * m) e w' := by
 have hmk := Za (xl.length + yl.length) hk
 simp only [Int.natCast_add] at hmk
 have hx1 := hx.tq; have hx2 := hx.cap2; have hy1 := hy.tq; have hy2 := hy.cap2
 go_enter Tryz.func184, Tryz.ntmps184
 go_wp2
 go_loopw [6] (fun iv wr => ∃ (i : Nat) (zr : List Nat), i ≤ xl.length ∧ iv = .int .i64 ((i : Nat) : Int) ∧ Wd.Fw fe xl yl zr i ∧ ZB .u32 wr w.heap.size 187 zr ∧ Below w.heap.size w wr) (fun iv _ => xl.length - (intOf iv).toNat)
 case atStart => exact ⟨0, List.replicate (xl.length + yl.length) 0, Nat.zero_le _, rfl, Wd.Fw.start _ _ _ (by rw [fq]; omega) (by simp) (Lm _), heap_alloc_new w _, (Below.refl _ _).alloc (Nat.le_refl _) _⟩
 case round =>
  obtain ⟨i, zr, hi, rfl, hinv, ll, hg⟩ := hrel
  obtain ⟨wo, rfl⟩ : ∃ wo : World, wo = wr := ⟨_, rfl⟩
  have hlen := hinv.len
  have HI := Lib.hid hinv
  clear hinv
  by_cases hlt : i < xl.length
  ·
   obtain ⟨bx, ox, rfl, hbx, hcx⟩ := hx.ws om
   have bdj := hcx i hlt
   have HX := hide (And.intro hbx bdj)
   clear hcx bdj
   obtain ⟨xi, hxi⟩ : ∃ xi, xi = Wd.g xl i := ⟨_, rfl⟩
   rw [← hxi] at HX
   have zg : xi < fe := by rw [hxi]; exact Wd.getD_lt (by rw [fq]; omega) _ hx.lt i
   have HXI := Lib.hid hxi
   have HXB := hide zg
   clear hxi zg
   go_wp2_with fail
   go_loopw [7, 8] (fun cv jv wr => ∃ (j c : Nat) (zc : List Nat), j ≤ yl.length ∧ cv = .int .u64 ((c : Nat) : Int) ∧ jv = .int .i64 ((j : Nat) : Int) ∧ Wd.Ei fe zr yl zc i (Wd.g xl i) j c ∧ ZB .u32 wr w.heap.size 187 zc ∧ Below w.heap.size w wr) (fun _ jv _ => yl.length - (intOf jv).toNat)
   case atStart => exact ⟨0, 0, zr, Nat.zero_le _, rfl, rfl, Wd.Ei.start _ _ _ _ (by rw [fq]; omega) HI.out.lt, ll, hg⟩
   case round =>
    obtain ⟨j, c, zc, hj, rfl, rfl, Rt, hzc, hgc⟩ := hrel
    have Ru := Rt.len
    have HM := Lib.hid Rt
    clear Rt
    have Eg := (hgc.cell (p := ⟨bx, ox + i, none⟩) (aa HX).1).trans (aa HX).2
    by_cases hjl : j < yl.length
    ·
     obtain ⟨by', oy, rfl, hby, hcy⟩ := hy.ws om
     have Sk := (hgc.cell (p := ⟨by', oy + j, none⟩) hby).trans (hcy j hjl)
     clear hcy
     have Ug := hzc.cell (i + j) om
     have Mt := hzc.frozen (i + j)
     obtain ⟨yj, hyj⟩ : ∃ yj, yj = Wd.g yl j := ⟨_, rfl⟩
     obtain ⟨z, hz⟩ : ∃ z, z = Wd.g zc (i + j) := ⟨_, rfl⟩
     rw [← hyj] at Sk
     rw [← hz] at Ug
     have Fp : yj < fe := by rw [hyj]; exact Wd.getD_lt (by rw [fq]; omega) _ hy.lt j
     have Gj : z < fe := by rw [hz]; exact Wd.getD_lt (by rw [fq]; omega) _ HM.out.lt _
     have hbd := Wd.Kk (aa HXB) Fp HM.out.c1 Gj
     have hBB : fe * fe = dz := by rw [fq, gy]
     rw [hBB] at hbd
     obtain ⟨p, hp⟩ : ∃ t, t = xi * yj := ⟨_, rfl⟩
     obtain ⟨s, hs⟩ : ∃ t, t = p + z := ⟨_, rfl⟩
     obtain ⟨r, hr⟩ : ∃ t, t = c + s := ⟨_, rfl⟩
     obtain ⟨d, hd⟩ : ∃ t, t = r % fe := ⟨_, rfl⟩
     obtain ⟨q, hq⟩ : ∃ t, t = r / fe := ⟨_, rfl⟩
     rw [← hp] at hbd
     have e1 : IntKind.u64.wrap ((xi : Int) * (yj : Int)) = (p : Int) := je (by rw [hp]; simp) om
     have e2 : IntKind.u64.wrap ((p : Int) + (z : Int)) = (s : Int) := je (by rw [hs]; simp) om
     have e3 : IntKind.u64.wrap ((c : Int) + (s : Int)) = (r : Int) := je (by rw [hr]; simp) om
     have e4 : IntKind.u32.wrap (r : Int) = (d : Int) := by rw [Be, hd]
     have e4' : (r : Int) % 4294967296 = (d : Int) := by rw [hd, fq]; omega
     have b64 : ∀ t : Nat, t < fe → t < dz := fun t ht => by rw [fq] at ht; rw [gy]; omega
     have e6 : IntKind.u64.wrap (xi : Int) = (xi : Int) := je rfl (b64 _ (aa HXB))
     have e7 : IntKind.u64.wrap (yj : Int) = (yj : Int) := je rfl (b64 _ Fp)
     have e8 : IntKind.u64.wrap (z : Int) = (z : Int) := je rfl (b64 _ Gj)
     have e5 : (r : Int) / 4294967296 = (q : Int) := by rw [hq, fq]; omega
     have hfin : ∀ t W, W = (wr.drewN t).setCell ⟨w.heap.size, i + j, none⟩ (.int .u32 (d : Int)) → Wd.Ei fe zr yl (zc.set (i + j) d) i (Wd.g xl i) (j + 1) q ∧ ZB .u32 W w.heap.size 187 (zc.set (i + j) d) ∧ Below w.heap.size w W := by
      rintro t W rfl
      refine ⟨?_, (hzc.drewN t).Bu _ _, (ni hgc t).setCell (by simp) _⟩
      have := HM.out.step Ck (by rw [← HXI.out]; exact aa HXB) hy.lt om
      have e : r = Wd.g xl i * yl.getD j 0 + c + zc.getD (i + j) 0 := by
       rw [hr, hs, hp, HXI.out, hyj, hz]; show c + (Wd.g xl i * yl.getD j 0 + zc.getD (i + j) 0) = _; omega
      rw [hd, hq, e]
      exact this
     have HF := hide hfin
     clear hfin b64 hbd hBB hp hs hr hd hq hyj hz Fp Gj hzc hgc ll hg hlen Ru
     go_wp2_with fail
     go_quiet (fail)
     go_wp2_with fail
     go_roundw
     case rel =>
      obtain ⟨r1, r2, r3⟩ := (aa HF) _ _ rfl
      exact ⟨j + 1, q, zc.set (i + j) d, by omega, rfl, by go_num, r1, r2, r3⟩
     case measure => simp [intOf]; omega
    ·
     have e : j = yl.length := by omega
     subst e
     have Ug := hzc.cell (i + yl.length) om
     have Mt := hzc.frozen (i + yl.length)
     have hrow := HI.out.step hlt HM.out
     have HR := Lib.hid hrow
     have hc32 : (c : Int) % 4294967296 = (c : Int) := by have := HM.out.c1; rw [fq] at this; omega
     have btj : IntKind.u32.wrap (c : Int) = (c : Int) := by rw [IntKind.wrap_u32]; exact hc32
     clear hrow
     have hfin : ∀ W, W = wr.setCell ⟨w.heap.size, i + yl.length, none⟩ (.int .u32 (c : Int)) → ZB .u32 W w.heap.size 187 (zc.set (i + yl.length) c) ∧ Below w.heap.size w W := by
      rintro W rfl
      exact ⟨hzc.Bu _ _, hgc.setCell (by simp) _⟩
     have HF := hide hfin
     clear hfin hzc hgc ll hg hlen Ru Eg
     go_wp2_with fail
     go_roundw
     case rel =>
      obtain ⟨r2, r3⟩ := (aa HF) _ rfl
      exact ⟨i + 1, zc.set (i + yl.length) c, by omega, by go_num, HR.out, r2, r3⟩
     case measure => simp [intOf]; omega
  ·
   have e : i = xl.length := by omega
   subst e
   have hlt2 := HI.out.lt
   have hv := HI.out.done
   rw [hx.val, hy.val] at hv
   have HV := Lib.hid hv
   have Bb := hide hlt2
   clear hv hlt2
   go_wp2_with fail
   have htr := Cm (some ⟨w.heap.size, 0, none⟩) zr.length zr (wo.heap.size) wo (ll.Dq _ ll.lt) (Nat.le_refl _) om
   rw [hlen] at htr
   refine htr.mono ?_
   rintro e w' ⟨⟨k, rfl, ht, hk2⟩, rfl⟩
   go_wp2_with fail
   go_ret
   have hk3 : k = (zr.take k).length := by simp; omega
   refine ⟨some ⟨w.heap.size, 0, none⟩, xl.length + yl.length, zr.take k, Hz hk3, ?_, hg⟩
   have := qw.Ak (cap := xl.length + yl.length) ll (aa Bb) ht om om om
   rwa [HV.out] at this

theorem Ot (a b : Nat) (ha : a < fe) (hb : b < fe) : Go.bits .or .u32 (a : Int) (b : Int) = ((a ||| b : Nat) : Int) := by
 rw [fq] at ha hb
 have hx : a ||| b < 2 ^ 32 := Nat.or_lt_two_pow om om
 have h1 : (BitVec.ofInt 32 (a : Int)).toNat = a := by
  rw [BitVec.ofInt_natCast, BitVec.toNat_ofNat]; exact Nat.mod_eq_of_lt om
 have h2 : (BitVec.ofInt 32 (b : Int)).toNat = b := by
  rw [BitVec.ofInt_natCast, BitVec.toNat_ofNat]; exact Nat.mod_eq_of_lt om
 show IntKind.u32.wrap ((BitVec.ofInt 32 (a : Int) ||| BitVec.ofInt 32 (b : Int)).toNat : Int) = _
 rw [BitVec.toNat_or, h1, h2, IntKind.wrap_u32]
 omega
theorem Bn (s : Nat) (hs : s ≤ 32) : 2 ^ s * 2 ^ (32 - s) = fe := by
 rw [← Nat.pow_add, show s + (32 - s) = 32 by omega]; rfl
theorem aoj {m s : Nat} (hm : m < fe) (hs : s < 32) : m * 2 ^ s < dz := by
 have h1 : 2 ^ s < 2 ^ 32 := Nat.pow_lt_pow_right om hs
 have h2 : m * 2 ^ s ≤ m * 2 ^ 32 := Nat.mul_le_mul_left _ om
 rw [fq] at hm; rw [gy]; omega
theorem aoi {m s : Nat} (hs : s < 32) : m * 2 ^ s % fe = m % 2 ^ (32 - s) * 2 ^ s ∧ m * 2 ^ s / fe = m / 2 ^ (32 - s) := by
 rw [← Bn s om, Nat.mul_comm (2 ^ s), Nat.mul_mod_mul_right]
 exact ⟨rfl, Nat.mul_div_mul_right _ _ (Nat.pow_pos om)⟩

def bnk (w : World) (xl : List Nat) (v : Nat) (e : Ending) (w' : World) : Prop :=
 ∃ zr, e = .returned (.slice (some ⟨w.heap.size, 0, none⟩) (xl.length + 1) (xl.length + 1)) ∧ zr.length = xl.length + 1 ∧ (∀ x ∈ zr, x < fe) ∧ Wd.val fe zr = v ∧ ZB .u32 w' w.heap.size 187 zr ∧ Below w.heap.size w w'

theorem ain (Ax : Option Addr) (cx : Nat) (xl : List Nat) (n s : Nat) (w : World) (hx : qw w Ax cx xl n) (hs : s < 32) (hk : xl.length + 1 ≤ 35184372088832) :
  Calls Tryz.prog 212 #[.slice Ax xl.length cx, .int .u64 ((s : Nat) : Int)] w fun e w' => bnk w xl (n * 2 ^ s) e w' := by
 have hmk := Za (xl.length + 1) hk
 simp only [Int.natCast_add, Int.cast_ofNat_Int] at hmk
 have hx1 := hx.tq; have hx2 := hx.cap2
 go_enter Tryz.func212, Tryz.ntmps212
 go_wp2
 go_loopw [6] (fun iv wr => ∃ (i : Nat) (zr : List Nat), i ≤ xl.length ∧ iv = .int .i64 ((i : Nat) : Int) ∧ Hid (Wd.Di fe (2 ^ s) xl zr i) ∧ ZB .u32 wr w.heap.size 187 zr ∧ Below w.heap.size w wr) (fun iv _ => xl.length - (intOf iv).toNat)
 case atStart => exact ⟨0, List.replicate (xl.length + 1) 0, Nat.zero_le _, rfl, Wd.Di.start _ _ (Nat.pow_pos om) (by rw [fq]; omega) (by simp) (Lm _), heap_alloc_new w _, (Below.refl _ _).alloc (Nat.le_refl _) _⟩
 case round =>
  obtain ⟨i, zr, hi, rfl, HI, ll, hg⟩ := hrel
  have hlen := HI.out.len
  by_cases hlt : i < xl.length
  ·
   obtain ⟨bx, ox, rfl, hbx, hcx⟩ := hx.ws om
   have Eg := (hg.cell (p := ⟨bx, ox + i, none⟩) hbx).trans (hcx i hlt)
   clear hcx
   have hzc := ll.cell i om
   have Mt := ll.frozen i
   have blu := ll.cell (i + 1) om
   have bdg := ll.frozen (i + 1)
   obtain ⟨m, hm⟩ : ∃ m, m = Wd.g xl i := ⟨_, rfl⟩
   obtain ⟨z, hz⟩ : ∃ z, z = Wd.g zr i := ⟨_, rfl⟩
   rw [← hm] at Eg
   rw [← hz] at hzc
   have Jb : m < fe := by rw [hm]; exact Wd.getD_lt (by rw [fq]; omega) _ hx.lt i
   have Gj : z < fe := by rw [hz]; exact Wd.getD_lt (by rw [fq]; omega) _ HI.out.lt i
   have hzS : z < 2 ^ s := by rw [hz]; exact HI.out.low
   obtain ⟨x, Sl⟩ : ∃ x, x = m * 2 ^ s := ⟨_, rfl⟩
   obtain ⟨p, hp⟩ : ∃ p, p = x % fe := ⟨_, rfl⟩
   obtain ⟨r, hr⟩ : ∃ r, r = z + p := ⟨_, rfl⟩
   obtain ⟨q, hq⟩ : ∃ q, q = x / fe := ⟨_, rfl⟩
   have Al := aoi (m := m) hs
   rw [← Sl, ← hp, ← hq] at Al
   have Py : p < fe := by rw [hp]; exact Nat.mod_lt _ (by rw [fq]; omega)
   have Lh : q < fe := by rw [hq, Nat.div_lt_iff_lt_mul (by rw [fq]; omega)]; have := aoj Jb hs; rw [Sl, fq]; rw [gy] at this; omega
   have e0 : IntKind.u64.wrap (m : Int) = (m : Int) := je rfl (by rw [fq] at Jb; rw [gy]; omega)
   have e1 : IntKind.u64.wrap ((m : Int) * 2 ^ s) = (x : Int) := je (by rw [Sl]; simp) (by rw [Sl]; exact aoj Jb hs)
   have e2 : Go.bits .or .u32 (z : Int) (p : Int) = (r : Int) := by
    rw [Ot z p Gj Py, hr, Al.1, Mh hzS]
   have e3 : (x : Int) / 4294967296 = (q : Int) := by rw [hq, fq]; omega
   have e4 : (x : Int) % 4294967296 = (p : Int) := by rw [hp, fq]; omega
   have e5 : (q : Int) % 4294967296 = (q : Int) := by rw [fq] at Lh; omega
   have e6 : IntKind.u32.wrap (x : Int) = (p : Int) := by rw [Be, hp]
   have e7 : IntKind.u32.wrap (q : Int) = (q : Int) := by rw [IntKind.wrap_u32]; exact e5
   have hfin : ∀ W, W = (wr.setCell ⟨w.heap.size, i, none⟩ (.int .u32 (r : Int))).setCell ⟨w.heap.size, i + 1, none⟩ (.int .u32 (q : Int)) → Hid (Wd.Di fe (2 ^ s) xl ((zr.set i r).set (i + 1) q) (i + 1)) ∧ ZB .u32 W w.heap.size 187 ((zr.set i r).set (i + 1) q) ∧ Below w.heap.size w W := by
    rintro W rfl
    refine ⟨?_, (ll.Bu _ _).Bu _ _, (hg.setCell (by simp) _).setCell (by simp) _⟩
    have := HI.out.step (Bn s om) (Nat.pow_pos om) hlt (by rw [← Wd.qo, ← hm]; exact Jb)
    rw [hr, Al.1, Al.2, hm, hz]
    exact this
   have HF := hide hfin
   clear hfin Al hp hr hq hm hz hzS ll hg Sl Py Lh Jb Gj
   go_wp2_with fail
   go_roundw
   case rel =>
    obtain ⟨r1, r2, r3⟩ := (aa HF) _ rfl
    exact ⟨i + 1, _, by omega, by go_num, r1, r2, r3⟩
   case measure => simp [intOf] <;> omega
  ·
   have e : i = xl.length := by omega
   subst e
   have hv := HI.out.done
   rw [hx.val] at hv
   have HV := Lib.hid hv
   clear hv
   go_wp2_with fail
   go_ret
   exact ⟨zr, rfl, hlen, HI.out.lt, HV.out, ll, hg⟩
end Go.Proofs.YtfgeaakhlcaibaaGreatDoor
namespace Go.Proofs.YtfgeaakhlcaibaaGreatDoor
namespace Wd

structure Yf (B top head Q q r : Nat) : Prop where
 eq : q * top + r = head
 ge : Q ≤ q
 lt : q < B
theorem Yf.step {B top next head d Q q r : Nat} (hQ : Q * (top * B + next) ≤ head * B + d) (h : Yf B top head Q q r) (hlt : r * B + d < q * next) : 1 ≤ q ∧ Yf B top head Q (q - 1) (r + top) := by
 have h1 : Q < q := by
  rcases Nat.lt_or_ge Q q with h1 | h1
  ·
   exact h1
  ·
   have h2 : q * (top * B + next) ≤ Q * (top * B + next) := Nat.mul_le_mul_right _ h1
   have h3 : q * (top * B + next) = q * top * B + q * next := by rw [Nat.mul_add, Nat.mul_assoc]
   have h4 : head * B = q * top * B + r * B := by rw [← h.eq, Nat.add_mul]
   omega
 have he := h.eq
 obtain ⟨p, rfl⟩ : ∃ p, q = p + 1 := ⟨q - 1, by omega⟩
 refine ⟨by omega, ⟨?_, by omega, by have := h.lt; omega⟩⟩
 rw [Nat.add_sub_cancel]
 rw [Nat.add_mul, Nat.one_mul] at he
 omega
theorem Yf.fits {B top next head d Q q r : Nat} (hn : next < B) (h : Yf B top head Q q r) (hs : B ≤ r ∨ q * next ≤ r * B + d) : q * (top * B + next) ≤ head * B + d := by
 have h3 : q * (top * B + next) = q * top * B + q * next := by rw [Nat.mul_add, Nat.mul_assoc]
 have h4 : head * B = q * top * B + r * B := by rw [← h.eq, Nat.add_mul]
 have h5 : q * next ≤ r * B + d := by
  rcases hs with h1 | h1
  ·
   have h6 : q * next ≤ B * B := Nat.mul_le_mul (Nat.le_of_lt h.lt) (Nat.le_of_lt hn)
   have h7 : B * B ≤ r * B := Nat.mul_le_mul_right _ h1
   omega
  ·
   exact h1
 omega
theorem aqt {B P X Y U3 Yt Q q : Nat} (hP : 0 < P) (hX : U3 * P ≤ X) (hY : Y < (Yt + 1) * P) (hY0 : 0 < Y) (hQ : Q = X / Y) (hq : q * Yt ≤ U3) (hB : q ≤ Yt) : q ≤ Q + 1 := by
 rcases Nat.eq_zero_or_pos q with h | h
 ·
  omega
 obtain ⟨p, rfl⟩ : ∃ p, q = p + 1 := ⟨q - 1, by omega⟩
 suffices p ≤ Q by omega
 rw [hQ, Nat.le_div_iff_mul_le hY0]
 have h1 : p * Y ≤ p * ((Yt + 1) * P) := Nat.mul_le_mul_left _ (Nat.le_of_lt hY)
 have h2 : p * ((Yt + 1) * P) = (p * Yt + p) * P := by rw [← Nat.mul_assoc, Nat.mul_add, Nat.mul_one]
 have h3 : (p * Yt + p) * P ≤ ((p + 1) * Yt) * P := Nat.mul_le_mul_right _ (by rw [Nat.add_mul]; omega)
 have h4 : (p + 1) * Yt * P ≤ U3 * P := Nat.mul_le_mul_right _ hq
 omega

structure Nj (B : Nat) (ul vl zc : List Nat) (q i c b : Nat) : Prop where
 len : zc.length = ul.length
 same : ∀ j, i ≤ j → zc.getD j 0 = ul.getD j 0
 lt : ∀ x ∈ zc, x < B
 eq : val B (zc.take i) + q * val B (vl.take i) = val B (ul.take i) + B ^ i * (c + b)
 c1 : c < B
 b1 : b ≤ 1
theorem Nj.start {B : Nat} (ul vl : List Nat) (q : Nat) (hB : 0 < B) (h : ∀ x ∈ ul, x < B) : Nj B ul vl ul q 0 0 0 := ⟨rfl, fun _ _ => rfl, h, by simp [val], hB, by omega⟩
theorem Nj.step {B : Nat} {ul vl zc : List Nat} {q i c b d b' t : Nat} (h : Nj B ul vl zc q i c b) (hi : i < ul.length) (ht : t = c + q * vl.getD i 0) (Uj : t < B * B) (hd : d < B) (hb : b' ≤ 1)
  (e : d + t % B + b = ul.getD i 0 + B * b') : Nj B ul vl (zc.set i d) q (i + 1) (t / B) b' := by
 have hlen := h.len
 have hB : 0 < B := by omega
 refine ⟨by simp [hlen], fun j hj => ?_, yo _ _ _ h.lt hd, ?_, ?_, hb⟩
 ·
  rw [Cw _ _ _ _ om, h.same j om]
 ·
  rw [xk _ _ _ om, zh, ma, ma, List.length_take, Nat.min_eq_left om, Nat.pow_succ]
  have he := h.eq
  have Ba := Nat.div_add_mod t B
  generalize B ^ i = P at *
  generalize val B (zc.take i) = Z at *
  generalize val B (vl.take i) = V at *
  generalize val B (ul.take i) = U at *
  generalize vl.getD i 0 = y at *
  generalize ul.getD i 0 = x at *
  generalize t / B = hi at *
  generalize t % B = lo at *
  have k1 : P * d + P * lo + P * b = P * x + P * (B * b') := by rw [← Nat.mul_add, ← Nat.mul_add, e, Nat.mul_add]
  have k2 : P * (B * hi) + P * lo = P * c + P * (q * y) := by rw [← Nat.mul_add, Ba, ht, Nat.mul_add]
  rw [Nat.mul_add] at he
  rw [Nat.mul_add, Nat.mul_add, show q * (P * y) = P * (q * y) by simp only [Nat.mul_left_comm], Nat.mul_assoc, Nat.mul_assoc]
  omega
 ·
  rw [Nat.div_lt_iff_lt_mul hB]; exact Uj
theorem Nj.done {B : Nat} {ul vl zc : List Nat} {q b : Nat} (h : Nj B ul vl zc q ul.length 0 b) (hv : vl.length ≤ ul.length) : val B zc + q * val B vl = val B ul + B ^ ul.length * b := by
 have e := h.eq
 have hl := h.len
 rwa [jh _ zc _ om, jh _ vl _ hv, jh _ _ _ (Nat.le_refl _), Nat.zero_add] at e
end Wd
end Go.Proofs.YtfgeaakhlcaibaaGreatDoor
namespace Go.Proofs.YtfgeaakhlcaibaaGreatDoor
open Go.RowKit

structure StepT (ul vl zr : List Nat) (q : Nat) : Prop where
 len : zr.length = ul.length
 lt : ∀ x ∈ zr, x < fe
 quo : q = Wd.val fe ul / Wd.val fe vl
 rem : Wd.val fe zr = Wd.val fe ul % Wd.val fe vl

theorem aej {x lo b s1 s2 : Nat} (hx : x < fe) (hlo : lo < fe) (hb : b ≤ 1) (h1 : (s1 : Int) = ((x : Int) - (lo : Int)) % 18446744073709551616) (h2 : (s2 : Int) = ((s1 : Int) - (b : Int)) % 18446744073709551616) :
  s2 % fe < fe ∧ s2 / 9223372036854775808 ≤ 1 ∧ s2 % fe + lo + b = x + fe * (s2 / 9223372036854775808) := by
 rw [fq] at *
 omega
theorem bbu {B : Nat} (hB : 0 < B) (l : List Nat) (n : Nat) (hn : 2 ≤ n) (hl : l.length = n + 1) (hlt : ∀ x ∈ l, x < B) :
  ((l.getD n 0 * B + l.getD (n - 1) 0) * B + l.getD (n - 2) 0) * B ^ (n - 2) ≤ Wd.val B l ∧ Wd.val B l < ((l.getD n 0 * B + l.getD (n - 1) 0) * B + l.getD (n - 2) 0 + 1) * B ^ (n - 2) := by
 have h1 := Wd.oh B l n om
 rw [Wd.jh _ _ _ om] at h1
 have h2 := Wd.oh B l (n - 1) om
 rw [show n - 1 + 1 = n by omega] at h2
 have h2' := Wd.oh B l (n - 2) om
 rw [show n - 2 + 1 = n - 1 by omega] at h2'
 have h3 := Wd.zz (B := B) (l.take (n - 2)) (fun x hx => hlt x (List.mem_of_mem_take hx))
 rw [List.length_take, Nat.min_eq_left om] at h3
 have e : B ^ n = B ^ (n - 2) * B * B := by rw [← Nat.pow_succ, ← Nat.pow_succ, show (n - 2).succ.succ = n by omega]
 have e' : B ^ (n - 1) = B ^ (n - 2) * B := by rw [← Nat.pow_succ, show (n - 2).succ = n - 1 by omega]
 rw [h1, h2, h2', e, e']
 generalize B ^ (n - 2) = P at *
 generalize l.getD n 0 = a at *
 generalize l.getD (n - 1) 0 = b at *
 generalize l.getD (n - 2) 0 = c at *
 have k1 : ((a * B + b) * B + c) * P = P * B * B * a + P * B * b + P * c := by
  simp only [Nat.add_mul, Nat.mul_add, Nat.mul_comm, Nat.mul_left_comm, Nat.mul_assoc]
 rw [Nat.add_mul _ 1 P, Nat.one_mul, k1]
 omega
theorem ala {B : Nat} (l : List Nat) (n : Nat) (hn : 2 ≤ n) (hl : l.length = n) (hlt : ∀ x ∈ l, x < B) :
  (l.getD (n - 1) 0 * B + l.getD (n - 2) 0) * B ^ (n - 2) ≤ Wd.val B l ∧ Wd.val B l < (l.getD (n - 1) 0 * B + l.getD (n - 2) 0 + 1) * B ^ (n - 2) := by
 have h2 := Wd.oh B l (n - 1) om
 rw [show n - 1 + 1 = n by omega, Wd.jh _ _ _ om] at h2
 have h2' := Wd.oh B l (n - 2) om
 rw [show n - 2 + 1 = n - 1 by omega] at h2'
 have h3 := Wd.zz (B := B) (l.take (n - 2)) (fun x hx => hlt x (List.mem_of_mem_take hx))
 rw [List.length_take, Nat.min_eq_left om] at h3
 have e' : B ^ (n - 1) = B ^ (n - 2) * B := by rw [← Nat.pow_succ, show (n - 2).succ = n - 1 by omega]
 rw [h2, h2', e']
 generalize B ^ (n - 2) = P at *
 generalize l.getD (n - 1) 0 = b at *
 generalize l.getD (n - 2) 0 = c at *
 have k1 : (b * B + c) * P = P * B * b + P * c := by
  simp only [Nat.add_mul, Nat.mul_add, Nat.mul_comm, Nat.mul_left_comm, Nat.mul_assoc]
 rw [Nat.add_mul _ 1 P, Nat.one_mul, k1]
 omega
theorem afd {a z : Nat} (ha : a < fe) (hz : z < fe) : Go.bits .or .u64 ((a * fe : Nat) : Int) (z : Int) = ((a * fe + z : Nat) : Int) := by
 have h := Mh (z := z) (a := a) (s := 32) (by rw [fq] at hz; omega)
 rw [bits_or_u64_nat _ _ (by rw [fq] at *; omega) (by rw [fq] at *; omega), Nat.or_comm, fq]
 rw [show (2 : Nat) ^ 32 = 4294967296 from rfl] at h
 rw [h, Nat.add_comm]

structure Ih (ul vl : List Nat) (n : Nat) : Prop where
 n2 : 2 ≤ n
 Ms : vl.length = n
 Ar : ul.length = n + 1
 ltu : ∀ x ∈ ul, x < fe
 Zb : ∀ x ∈ vl, x < fe
 top : vl.getD (n - 1) 0 ≠ 0
 pre : Wd.val fe ul < fe * Wd.val fe vl
theorem Ih.start {ul vl : List Nat} {n head top : Nat} (h : Ih ul vl n) (hh : head = ul.getD n 0 * fe + ul.getD (n - 1) 0) (ht : top = vl.getD (n - 1) 0) :
  Wd.Yf fe top head (Wd.val fe ul / Wd.val fe vl) (min (head / top) 4294967295) (head - min (head / top) 4294967295 * top) ∧ min (head / top) 4294967295 * top ≤ head := by
 have hB : 0 < fe := by rw [fq]; omega
 have hV := (ala vl n h.n2 h.Ms h.Zb).1
 have hU := bbv hB ul n (by have := h.n2; omega) h.Ar h.ltu
 have h1 := asq (B := fe) vl n (by have := h.n2; omega) h.Ms
 rw [← ht] at h1
 rw [← hh] at hU
 have ht0 : 0 < top := by rw [ht]; exact Nat.pos_of_ne_zero h.top
 have Ig : 0 < Wd.val fe vl := by
  have h2 : 0 < fe ^ (n - 1) := Nat.pow_pos hB
  have := Nat.mul_pos ht0 h2; omega
 have hQ : Wd.val fe ul / Wd.val fe vl * top ≤ head := Wd.Ye h1 hU (Nat.div_mul_le_self _ _)
 have hQB : Wd.val fe ul / Wd.val fe vl < fe := by rw [Nat.div_lt_iff_lt_mul Ig]; exact h.pre
 have hle : min (head / top) 4294967295 * top ≤ head := Nat.le_trans (Nat.mul_le_mul_right _ (Nat.min_le_left _ _)) (Nat.div_mul_le_self _ _)
 refine ⟨⟨Nat.add_sub_of_le hle, ?_, ?_⟩, hle⟩
 ·
  rw [Nat.le_min]
  exact ⟨(Nat.le_div_iff_mul_le ht0).2 hQ, Nat.le_of_lt_succ (by rw [fq] at hQB; exact hQB)⟩
 ·
  exact Nat.lt_of_le_of_lt (Nat.min_le_right (head / top) 4294967295) (by rw [fq]; omega)
theorem Ih.low {ul vl : List Nat} {n : Nat} (h : Ih ul vl n) : Wd.val fe ul / Wd.val fe vl * (vl.getD (n - 1) 0 * fe + vl.getD (n - 2) 0) ≤ (ul.getD n 0 * fe + ul.getD (n - 1) 0) * fe + ul.getD (n - 2) 0 := by
 have hB : 0 < fe := by rw [fq]; omega
 exact Wd.Ye (ala vl n h.n2 h.Ms h.Zb).1 (bbu hB ul n h.n2 h.Ar h.ltu).2 (Nat.div_mul_le_self _ _)
theorem Ih.one {ul vl : List Nat} {n q : Nat} (h : Ih ul vl n) (hq : q * (vl.getD (n - 1) 0 * fe + vl.getD (n - 2) 0) ≤ (ul.getD n 0 * fe + ul.getD (n - 1) 0) * fe + ul.getD (n - 2) 0) (hlt : q < fe) : q ≤ Wd.val fe ul / Wd.val fe vl + 1 := by
 have hB : 0 < fe := by rw [fq]; omega
 have ht0 : 1 ≤ vl.getD (n - 1) 0 := Nat.pos_of_ne_zero h.top
 have h1 : 1 * fe ≤ vl.getD (n - 1) 0 * fe := Nat.mul_le_mul_right _ ht0
 have hV := (ala vl n h.n2 h.Ms h.Zb)
 have hP : 0 < fe ^ (n - 2) := Nat.pow_pos hB
 have Ig : 0 < Wd.val fe vl := by
  have := Nat.mul_pos (show 0 < vl.getD (n - 1) 0 * fe + vl.getD (n - 2) 0 by omega) hP; omega
 exact Wd.aqt (B := fe) hP (bbu hB ul n h.n2 h.Ar h.ltu).1 hV.2 Ig rfl hq om

theorem aku (b off cap T n : Nat) (us ul vl : List Nat) (Av : Option Addr) (cv : Nat) (B top next : Nat) (w : World)
  (hz : ZB .u32 w b T us) (hoff : off + ul.length ≤ us.length) (Kq : ul = (us.drop off).take ul.length) (hcz : ul.length ≤ cap) (ags : cap ≤ 9223372036854775807)
  (hv : Ws .u32 w B Av vl) (hB : ∀ bv ov, Av = some ⟨bv, ov, none⟩ → bv ≠ b) (hBw : B ≤ w.heap.size) (hcv : vl.length ≤ cv) (ams : cv ≤ 9223372036854775807) (hp : Ih ul vl n) (htop : top = Wd.g vl (n - 1)) (hnext : next = Wd.g vl (n - 2)) :
  Calls Tryz.prog 213 #[.slice (some ⟨b, off, none⟩) (n + 1) cap, .slice Av n cv, .int .u64 ((top : Nat) : Int), .int .u64 ((next : Nat) : Int)] w fun e w' =>
   ∃ zr q, e = .returned (.int .u32 ((q : Nat) : Int)) ∧ StepT ul vl zr q ∧ q < fe ∧ ZB .u32 w' b T (win us off zr) ∧ w.grownBy w' (some b) := by
 have hB0 : 0 < fe := by rw [fq]; omega
 have hn2 := hp.n2; have Fq := hp.Ms; have huv := hp.Ar
 obtain ⟨bv, ov, hA, hbv, agt⟩ := hv om
 subst hA
 have hgw : ∀ i, i < ul.length → Wd.g us (off + i) = Wd.g ul i := fun i hi => by
  have h := Ju us off ul hoff i hi
  rwa [show win us off ul = us by rw [Kq]; exact Jf us off _ hoff] at h
 have hu0 := hz.cell (off + n) om
 have hu1 := hz.cell (off + (n - 1)) om
 have hu2 := hz.cell (off + (n - 2)) om
 rw [hgw n om] at hu0
 rw [hgw (n - 1) om] at hu1
 rw [hgw (n - 2) om] at hu2
 obtain ⟨x0, hx0⟩ : ∃ t, t = Wd.g ul n := ⟨_, rfl⟩
 obtain ⟨x1, hx1⟩ : ∃ t, t = Wd.g ul (n - 1) := ⟨_, rfl⟩
 obtain ⟨x2, hx2⟩ : ∃ t, t = Wd.g ul (n - 2) := ⟨_, rfl⟩
 rw [← hx0] at hu0
 rw [← hx1] at hu1
 rw [← hx2] at hu2
 have b0 : x0 < fe := by rw [hx0]; exact Wd.getD_lt hB0 _ hp.ltu _
 have b1 : x1 < fe := by rw [hx1]; exact Wd.getD_lt hB0 _ hp.ltu _
 have b2 : x2 < fe := by rw [hx2]; exact Wd.getD_lt hB0 _ hp.ltu _
 have bt : top < fe := by rw [htop]; exact Wd.getD_lt hB0 _ hp.Zb _
 have bn : next < fe := by rw [hnext]; exact Wd.getD_lt hB0 _ hp.Zb _
 obtain ⟨hh, hhh⟩ : ∃ t, t = x0 * fe := ⟨_, rfl⟩
 obtain ⟨head, hhead⟩ : ∃ t, t = x0 * fe + x1 := ⟨_, rfl⟩
 obtain ⟨gq, hgq⟩ : ∃ t, t = head / top := ⟨_, rfl⟩
 obtain ⟨q0, hq0⟩ : ∃ t, t = min gq 4294967295 := ⟨_, rfl⟩
 obtain ⟨qt, hqt⟩ : ∃ t, t = q0 * top := ⟨_, rfl⟩
 obtain ⟨r0, hr0⟩ : ∃ t, t = head - qt := ⟨_, rfl⟩
 obtain ⟨Q, hQ⟩ : ∃ t, t = Wd.val fe ul / Wd.val fe vl := ⟨_, rfl⟩
 have hst := hp.start (head := head) (top := top) (by rw [hhead, hx0, hx1]; rfl) (by rw [htop]; rfl)
 rw [← hgq, ← hq0, ← hQ, ← hqt, ← hr0] at hst
 have hlow := hp.low
 rw [← hQ, ← Wd.qo, ← Wd.qo, ← Wd.qo, ← Wd.qo, ← Wd.qo, ← htop, ← hnext, ← hx0, ← hx1, ← hx2, ← hhead] at hlow
 have hone : ∀ q, q * (top * fe + next) ≤ head * fe + x2 → q < fe → q ≤ Q + 1 := fun q h1 h2 => by
  have := hp.one (q := q) (by rw [← Wd.qo, ← Wd.qo, ← Wd.qo, ← Wd.qo, ← Wd.qo, ← htop, ← hnext, ← hx0, ← hx1, ← hx2, ← hhead]; exact h1) h2
  rwa [← hQ] at this
 have ht0 : 0 < top := by rw [htop]; exact Nat.pos_of_ne_zero hp.top
 have b64 : ∀ t : Nat, t < fe → t < dz := fun t ht => by rw [fq] at ht; rw [gy]; omega
 have aqp : head < dz := by rw [hhead]; rw [fq] at *; rw [gy]; omega
 have e0 : IntKind.u64.wrap (x0 : Int) = (x0 : Int) := je rfl (b64 _ b0)
 have e1 : IntKind.u64.wrap (x1 : Int) = (x1 : Int) := je rfl (b64 _ b1)
 have e2 : IntKind.u64.wrap (x2 : Int) = (x2 : Int) := je rfl (b64 _ b2)
 have e3 : IntKind.u64.wrap ((x0 : Int) * 4294967296) = (hh : Int) := je (by rw [hhh, fq]; simp) (by rw [hhh]; rw [fq] at *; rw [gy]; omega)
 have e4 : Go.bits .or .u64 (hh : Int) (x1 : Int) = (head : Int) := by rw [hhh, afd b0 b1, hhead]
 have e5 : (head : Int).tdiv (top : Int) = (gq : Int) := by rw [hgq]; exact (Int.ofNat_tdiv _ _).symm
 have e5w : IntKind.u64.wrap (gq : Int) = (gq : Int) := je rfl (by have := Nat.div_le_self head top; omega)
 have e6 : min (gq : Int) 4294967295 = (q0 : Int) := by rw [hq0]; omega
 have e7 : IntKind.u64.wrap ((q0 : Int) * (top : Int)) = (qt : Int) := je (by rw [hqt]; simp) (by have := hst.2; omega)
 have e8 : IntKind.u64.wrap ((head : Int) - (qt : Int)) = (r0 : Int) := je (by have := hst.2; rw [hr0]; omega) (by rw [hr0]; omega)
 have e9 : ((top : Int) == 0) = false := beq_eq_false_iff_ne.2 om
 have e9' : ¬ ((top : Int) = 0) := by omega
 have bmw : ¬ (top = 0) := by omega
 have f1 : IntKind.i64.wrap ((n : Int) - 1) = (n : Int) - 1 := IntWalk.i64_in _ om
 have f2 : (0 : Int) ≤ (n : Int) - 1 := by omega
 have f3 : ((n : Int) - 1).toNat = n - 1 := by omega
 have f4 : IntKind.i64.wrap ((n : Int) - 2) = (n : Int) - 2 := IntWalk.i64_in _ om
 have f5 : (0 : Int) ≤ (n : Int) - 2 := by omega
 have f6 : ((n : Int) - 2).toNat = n - 2 := by omega
 have HB2 := hide (And.intro b2 bn)
 have HST := hide hst; have bgh := hide hlow; have bge := hide hone; have HQ := Lib.hid hQ; have HP := hide hp
 have HGW := hide hgw; have HZ := hide hz; have HV := hide hv; have HT := hide (And.intro bt aqp); have Va := hide b64
 have HWU := Lib.hid (show win us off ul = us by rw [Kq]; exact Jf us off _ hoff)
 have abx := hide hoff; have HCV := hide agt; have HBB := hide (And.intro (hB bv ov rfl) (Nat.lt_of_lt_of_le hbv hBw))
 have hlen1 : n + 1 ≤ cap := by omega
 have Ru : n ≤ cv := by omega
 clear hst hlow hone hQ hp hgw Kq hx0 hx1 hx2 b0 b1 b2 bt bn hhh hhead hgq hq0 hqt hr0 ht0 b64 aqp htop hnext hoff hcz hcv Fq huv agt hz hv hB0 hB hbv hBw
 go_enter Tryz.func213, Tryz.ntmps213
 go_wp2_with fail
 go_quiet (fail)
 go_upto_block 0 with (fail)
 go_cut [11] (fun qv wx => ∃ q : Nat, qv = .int .u64 ((q : Nat) : Int) ∧ Hid (Q ≤ q ∧ q ≤ Q + 1 ∧ q < fe) ∧ ∃ t, wx = w.drewN t)
 case first =>
  have HL := bgh
  go_wp2_with fail
  go_loop [11, 12] (fun qv rv => ∃ q r : Nat, qv = .int .u64 ((q : Nat) : Int) ∧ rv = .int .u64 ((r : Nat) : Int) ∧ Hid (r < dz) ∧ Hid (Wd.Yf fe top head Q q r)) (fun qv _ => (intOf qv).toNat)
  case atStart => exact ⟨q0, r0, rfl, rfl, show r0 < dz by have h1 := (aa HST).1.eq; have h2 := (aa HT).2; omega, (aa HST).1⟩
  case round =>
   obtain ⟨q, r, rfl, rfl, hr, HI⟩ := hrel
   by_cases hb : fe ≤ r
   ·
    have d1 : decide ((r : Int) < 4294967296) = false := decide_eq_false (by rw [fq] at hb; omega)
    have hfits := (aa HI).fits (aa HB2).2 (d := x2) (.inl hb)
    have hres : Q ≤ q ∧ q ≤ Q + 1 ∧ q < fe := ⟨(aa HI).ge, (aa bge) q hfits (aa HI).lt, (aa HI).lt⟩
    have HR := hide hres
    clear hfits hres hb
    go_wp2_with fail
    go_meet
    exact ⟨q, rfl, HR, _, rfl⟩
   ·
    have d1 : decide ((r : Int) < 4294967296) = true := decide_eq_true (by rw [fq] at hb; omega)
    have Px : r < fe := by omega
    obtain ⟨p, Al⟩ : ∃ t, t = q * next := ⟨_, rfl⟩
    obtain ⟨rs, hrs⟩ : ∃ t, t = r * fe := ⟨_, rfl⟩
    obtain ⟨ro, hro⟩ : ∃ t, t = r * fe + x2 := ⟨_, rfl⟩
    have Py : p < dz := by
     have h1 := (aa HI).lt
     have h2 := (aa HB2).2
     have h3 : q * next ≤ 4294967295 * 4294967295 := Nat.mul_le_mul (by rw [fq] at h1; omega) (by rw [fq] at h2; omega)
     rw [Al, gy]; omega
    have g1 : IntKind.u64.wrap ((q : Int) * (next : Int)) = (p : Int) := je (by rw [Al]; simp) Py
    have g2 : IntKind.u64.wrap ((r : Int) * 4294967296) = (rs : Int) := je (by rw [hrs, fq]; simp) (by rw [hrs]; rw [fq] at *; rw [gy]; omega)
    have g3 : Go.bits .or .u64 (rs : Int) (x2 : Int) = (ro : Int) := by rw [hrs, afd Px (aa HB2).1, hro]
    by_cases hlt : ro < p
    ·
     have d2 : decide ((ro : Int) < (p : Int)) = true := decide_eq_true om
     have d2' : decide (ro < p) = true := decide_eq_true hlt
     obtain ⟨h1, hstep⟩ := (aa HI).step (aa bgh) (by rw [← hro, ← Al]; exact hlt)
     obtain ⟨q2, hq2⟩ : ∃ t, t = q - 1 := ⟨_, rfl⟩
     obtain ⟨r2, hr2⟩ : ∃ t, t = r + top := ⟨_, rfl⟩
     rw [← hq2, ← hr2] at hstep
     have auy : r2 < dz := by have := (aa HT).1; rw [hr2]; rw [fq] at *; rw [gy]; omega
     have g4 : IntKind.u64.wrap ((q : Int) - 1) = (q2 : Int) := je (by rw [hq2]; omega) (by have := (aa HI).lt; rw [hq2]; rw [fq] at this; rw [gy]; omega)
     have g5 : IntKind.u64.wrap ((r : Int) + (top : Int)) = (r2 : Int) := je (by rw [hr2]; simp) auy
     have HS := hide hstep; have HR2 := hide auy; have HM := hide (show q2 < q by omega)
     clear hstep auy hq2 hr2 h1 hlt Al hrs hro Py Px hb
     go_wp2_with fail
     go_round
     case rel => exact ⟨q2, r2, rfl, rfl, HR2, HS⟩
     case measure => have := aa HM; simp [intOf]; omega
    ·
     have d2 : decide ((ro : Int) < (p : Int)) = false := decide_eq_false om
     have d2' : decide (ro < p) = false := decide_eq_false hlt
     have hfits := (aa HI).fits (aa HB2).2 (d := x2) (.inr (by rw [← hro, ← Al]; omega))
     have hres : Q ≤ q ∧ q ≤ Q + 1 ∧ q < fe := ⟨(aa HI).ge, (aa bge) q hfits (aa HI).lt, (aa HI).lt⟩
     have HR := hide hres
     clear hfits hres hlt Al hrs hro Py Px hb
     go_wp2_with fail
     go_meet
     exact ⟨q, rfl, HR, _, rfl⟩
 case rest =>
  obtain ⟨q, rfl, HQR, t0, rfl⟩ := hcut
  go_wp2_with fail
  go_loopw [13, 14, 15] (fun bv cv iv wr => ∃ (i c b' : Nat) (zc : List Nat), i ≤ n + 1 ∧ bv = .int .u64 ((b' : Nat) : Int) ∧ cv = .int .u64 ((c : Nat) : Int) ∧ iv = .int .i64 ((i : Nat) : Int) ∧ Hid (Wd.Nj fe ul vl zc q i c b') ∧ Hid (i = n + 1 → c = 0) ∧ ZB .u32 wr b T (win us off zc) ∧ w.grownBy wr (some b)) (fun _ _ iv _ => n + 1 - (intOf iv).toNat)
  case atStart => exact ⟨0, 0, 0, ul, by omega, rfl, rfl, rfl, Wd.Nj.start _ _ _ (by rw [fq]; omega) (aa HP).ltu, fun _ => rfl, by rw [HWU.out]; exact (aa HZ).drewN _, aiw (qz _ _) _⟩
  case round =>
   obtain ⟨i, c, b', zc, hi, rfl, rfl, rfl, HI, HC0, ll, hgr⟩ := hrel
   have abk : fe * fe = dz := by rw [fq, gy]
   have hzl := (aa HI).len
   by_cases hle : i ≤ n
   ·
    have d1 : decide ((i : Int) ≤ (n : Int)) = true := decide_eq_true om
    have d1' : decide (i ≤ n) = true := decide_eq_true hle
    obtain ⟨x, hx⟩ : ∃ t, t = Wd.g ul i := ⟨_, rfl⟩
    have Eg := ll.cell (off + i) (by rw [win_length _ _ _ (by rw [hzl]; exact aa abx)]; have h1 := (aa abx); have h2 := (aa HP).Ar; omega)
    rw [Ju us off zc (by rw [hzl]; exact aa abx) i (by rw [hzl, (aa HP).Ar]; omega), show Wd.g zc i = Wd.g ul i from (aa HI).same i (Nat.le_refl _), ← hx] at Eg
    have Mt := ll.frozen (off + i)
    have zg : x < fe := by rw [hx]; exact Wd.getD_lt (by rw [fq]; omega) _ (aa HP).ltu _
    by_cases hin : i < n
    ·
     have d2 : decide ((i : Int) < (n : Int)) = true := decide_eq_true om
     have d2' : decide (i < n) = true := decide_eq_true hin
     obtain ⟨y, hy⟩ : ∃ t, t = Wd.g vl i := ⟨_, rfl⟩
     have Sk := (World.cell?_of_block (hgr.block bv (aa HBB).2 (fun e => by injection e with e; exact (aa HBB).1 e))).trans ((aa HCV) i (by rw [(aa HP).Ms]; exact hin))
     rw [← hy] at Sk
     have Fp : y < fe := by rw [hy]; exact Wd.getD_lt (by rw [fq]; omega) _ (aa HP).Zb _
     obtain ⟨p, Al⟩ : ∃ t, t = q * y := ⟨_, rfl⟩
     obtain ⟨t, ht⟩ : ∃ t, t = c + p := ⟨_, rfl⟩
     have Uj : t < fe * fe := by
      have h1 := Wd.Kk (z := 0) (aa HQR).2.2 Fp (aa HI).c1 (by rw [fq]; omega)
      rw [ht, Al]; omega
     have k1 : IntKind.u64.wrap (y : Int) = (y : Int) := je rfl ((aa Va) _ Fp)
     have k2 : IntKind.u64.wrap ((q : Int) * (y : Int)) = (p : Int) := je (by rw [Al]; simp) (by rw [← abk]; omega)
     have k3 : IntKind.u64.wrap ((c : Int) + (p : Int)) = (t : Int) := je (by rw [ht]; simp) (by rw [← abk]; exact Uj)
     obtain ⟨lo, hlo⟩ : ∃ u, u = t % fe := ⟨_, rfl⟩
     obtain ⟨c2, hc2⟩ : ∃ u, u = t / fe := ⟨_, rfl⟩
     obtain ⟨s1, hs1⟩ : ∃ u : Nat, (u : Int) = ((x : Int) - (lo : Int)) % 18446744073709551616 := ⟨(((x : Int) - (lo : Int)) % 18446744073709551616).toNat, by omega⟩
     obtain ⟨s2, hs2⟩ : ∃ u : Nat, (u : Int) = ((s1 : Int) - (b' : Int)) % 18446744073709551616 := ⟨(((s1 : Int) - (b' : Int)) % 18446744073709551616).toNat, by omega⟩
     obtain ⟨d, hd⟩ : ∃ u, u = s2 % fe := ⟨_, rfl⟩
     obtain ⟨b2, hb2⟩ : ∃ u, u = s2 / 9223372036854775808 := ⟨_, rfl⟩
     have Ip : lo < fe := by rw [hlo]; exact Nat.mod_lt _ (by rw [fq]; omega)
     have hsw := aej zg Ip (aa HI).b1 hs1 hs2
     rw [← hd, ← hb2] at hsw
     have hnew : Wd.Nj fe ul vl (zc.set i d) q (i + 1) c2 b2 := by
      rw [hc2]
      refine (aa HI).step (by rw [(aa HP).Ar]; omega) (by rw [ht, Al, hy]; rfl) Uj hsw.1 hsw.2.1 ?_
      rw [← hlo, ← Wd.qo, ← hx]
      exact hsw.2.2
     have m1 : IntKind.u64.wrap (x : Int) = (x : Int) := je rfl ((aa Va) _ zg)
     have m2 : IntKind.u32.wrap (t : Int) = (lo : Int) := by rw [Be, hlo]
     have m2' : (t : Int) % 4294967296 = (lo : Int) := by rw [hlo, fq]; omega
     have m3 : IntKind.u64.wrap (lo : Int) = (lo : Int) := je rfl ((aa Va) _ Ip)
     have m4 : IntKind.u64.wrap ((x : Int) - (lo : Int)) = (s1 : Int) := by rw [IntKind.wrap_u64, hs1]
     have m5 : IntKind.u64.wrap ((s1 : Int) - (b' : Int)) = (s2 : Int) := by rw [IntKind.wrap_u64, hs2]
     have m6 : IntKind.u32.wrap (s2 : Int) = (d : Int) := by rw [Be, hd]
     have m6' : (s2 : Int) % 4294967296 = (d : Int) := by rw [hd, fq]; omega
     have m7 : (s2 : Int) / 9223372036854775808 = (b2 : Int) := by rw [hb2]; omega
     have m8 : (t : Int) / 4294967296 = (c2 : Int) := by rw [hc2, fq]; omega
     have hfin : ∀ W, W = wr.setCell ⟨b, off + i, none⟩ (.int .u32 (d : Int)) → ZB .u32 W b T (win us off (zc.set i d)) ∧ w.grownBy W (some b) := by
      rintro W rfl
      refine ⟨?_, lu hgr _ _⟩
      rw [← Gb us off zc (by rw [hzl, (aa HP).Ar]; have := (aa abx); rw [(aa HP).Ar] at this; exact this) i d (by rw [hzl, (aa HP).Ar]; omega)]
      exact ll.Bu _ _
     have HN := hide hnew; have HF := hide hfin
     clear hnew hfin hsw hd hb2 hs1 hs2 hlo hc2 ht Uj Ip zg hx hzl hgr ll abk Al hy Fp
     go_wp2_with fail
     go_roundw
     case rel =>
      obtain ⟨r1, r2⟩ := (aa HF) _ rfl
      exact ⟨i + 1, c2, b2, zc.set i d, by omega, rfl, rfl, by go_num, HN, fun h => by omega, r1, r2⟩
     case measure => simp [intOf]; omega
    ·
     have d2 : decide ((i : Int) < (n : Int)) = false := decide_eq_false om
     have d2' : decide (i < n) = false := decide_eq_false hin
     replace hin : i = n := by omega
     have hy0 : vl.getD i 0 = 0 := by
      have h := (aa HP).Ms
      rw [List.getD, List.getElem?_eq_none om]; rfl
     obtain ⟨t, ht⟩ : ∃ t, t = c := ⟨_, rfl⟩
     have htc : (t : Int) = (c : Int) := by rw [ht]
     have Uj : t < fe * fe := by
      have h1 := (aa HI).c1
      have h2 : fe * 1 ≤ fe * fe := Nat.mul_le_mul_left _ (by rw [fq]; omega)
      omega
     obtain ⟨lo, hlo⟩ : ∃ u, u = t % fe := ⟨_, rfl⟩
     obtain ⟨c2, hc2⟩ : ∃ u, u = t / fe := ⟨_, rfl⟩
     obtain ⟨s1, hs1⟩ : ∃ u : Nat, (u : Int) = ((x : Int) - (lo : Int)) % 18446744073709551616 := ⟨(((x : Int) - (lo : Int)) % 18446744073709551616).toNat, by omega⟩
     obtain ⟨s2, hs2⟩ : ∃ u : Nat, (u : Int) = ((s1 : Int) - (b' : Int)) % 18446744073709551616 := ⟨(((s1 : Int) - (b' : Int)) % 18446744073709551616).toNat, by omega⟩
     obtain ⟨d, hd⟩ : ∃ u, u = s2 % fe := ⟨_, rfl⟩
     obtain ⟨b2, hb2⟩ : ∃ u, u = s2 / 9223372036854775808 := ⟨_, rfl⟩
     have Ip : lo < fe := by rw [hlo]; exact Nat.mod_lt _ (by rw [fq]; omega)
     have hsw := aej zg Ip (aa HI).b1 hs1 hs2
     rw [← hd, ← hb2] at hsw
     have hnew : Wd.Nj fe ul vl (zc.set i d) q (i + 1) c2 b2 := by
      rw [hc2]
      refine (aa HI).step (by rw [(aa HP).Ar]; omega) (by rw [ht, hy0, Nat.mul_zero, Nat.add_zero]) Uj hsw.1 hsw.2.1 ?_
      rw [← hlo, ← Wd.qo, ← hx]
      exact hsw.2.2
     have m1 : IntKind.u64.wrap (x : Int) = (x : Int) := je rfl ((aa Va) _ zg)
     have m2 : IntKind.u32.wrap (t : Int) = (lo : Int) := by rw [Be, hlo]
     have m2' : (t : Int) % 4294967296 = (lo : Int) := by rw [hlo, fq]; omega
     have m3 : IntKind.u64.wrap (lo : Int) = (lo : Int) := je rfl ((aa Va) _ Ip)
     have m4 : IntKind.u64.wrap ((x : Int) - (lo : Int)) = (s1 : Int) := by rw [IntKind.wrap_u64, hs1]
     have m5 : IntKind.u64.wrap ((s1 : Int) - (b' : Int)) = (s2 : Int) := by rw [IntKind.wrap_u64, hs2]
     have m6 : IntKind.u32.wrap (s2 : Int) = (d : Int) := by rw [Be, hd]
     have m6' : (s2 : Int) % 4294967296 = (d : Int) := by rw [hd, fq]; omega
     have m7 : (s2 : Int) / 9223372036854775808 = (b2 : Int) := by rw [hb2]; omega
     have m8 : (t : Int) / 4294967296 = (c2 : Int) := by rw [hc2, fq]; omega
     have hfin : ∀ W, W = wr.setCell ⟨b, off + i, none⟩ (.int .u32 (d : Int)) → ZB .u32 W b T (win us off (zc.set i d)) ∧ w.grownBy W (some b) := by
      rintro W rfl
      refine ⟨?_, lu hgr _ _⟩
      rw [← Gb us off zc (by rw [hzl, (aa HP).Ar]; have := (aa abx); rw [(aa HP).Ar] at this; exact this) i d (by rw [hzl, (aa HP).Ar]; omega)]
      exact ll.Bu _ _
     have Su := Lib.hid (show c2 = 0 by rw [hc2, ht]; exact Nat.div_eq_of_lt (aa HI).c1)
     have HN := hide hnew; have HF := hide hfin
     clear hnew hfin hsw hd hb2 hs1 hs2 hlo hc2 Uj Ip zg hx hzl hgr ll abk
     have HIN := Lib.hid hin
     subst ht
     clear hin hy0 htc
     go_wp2_with fail
     go_roundw
     case rel =>
      obtain ⟨r1, r2⟩ := (aa HF) _ rfl
      exact ⟨i + 1, c2, b2, zc.set i d, by have := HIN.out; omega, rfl, rfl, by go_num, HN, fun _ => Su.out, r1, r2⟩
     case measure => have := HIN.out; simp [intOf]; omega
   ·
    have d1 : decide ((i : Int) ≤ (n : Int)) = false := decide_eq_false om
    have d1' : decide (i ≤ n) = false := decide_eq_false hle
    have e : i = n + 1 := by omega
    subst e
    clear hle
    have hc0 := (aa HC0) rfl
    subst hc0
    have Lh := (aa HQR).2.2
    have j1 : (q : Int) % 4294967296 = (q : Int) := by rw [fq] at Lh; omega
    have j2 : IntKind.u32.wrap (q : Int) = (q : Int) := by rw [IntKind.wrap_u32]; exact j1
    have hdone : Wd.val fe zc + q * Wd.val fe vl = Wd.val fe ul + fe ^ (n + 1) * b' := by
     have h1 := (aa HP).Ar
     have h2 := aa HI
     rw [← h1] at h2 ⊢
     exact h2.done (by rw [h1, (aa HP).Ms]; omega)
    have Ig : 0 < Wd.val fe vl := by
     rcases Nat.eq_zero_or_pos (Wd.val fe vl) with h | h
     ·
      have := (aa HP).pre; rw [h] at this; omega
     ·
      exact h
    have Ba := Nat.div_add_mod (Wd.val fe ul) (Wd.val fe vl)
    rw [← HQ.out, Nat.mul_comm] at Ba
    have hml := Nat.mod_lt (Wd.val fe ul) Ig
    have amh := Wd.zz zc (aa HI).lt
    rw [hzl, (aa HP).Ar] at amh
    rcases (show b' = 0 ∨ b' = 1 by have := (aa HI).b1; omega) with rfl | rfl
    ·
     have hqQ : q = Q := by
      have h1 := (aa HQR).1
      have h2 := (aa HQR).2.1
      rcases (show q = Q ∨ q = Q + 1 by omega) with h | h
      ·
       exact h
      ·
       rw [h, Nat.add_mul, Nat.one_mul] at hdone; omega
     have hok : StepT ul vl zc q := ⟨hzl, (aa HI).lt, hqQ.trans HQ.out, by rw [hqQ] at hdone; omega⟩
     have rf := hide hok
     clear hok hqQ hdone Ig Ba hml amh abk Lh
     go_wp2_with fail
     go_ret
     exact ⟨zc, q, rfl, aa rf, (aa HQR).2.2, ll, hgr⟩
    ·
     have hqQ : q = Q + 1 := by
      have h1 := (aa HQR).1
      have h2 := (aa HQR).2.1
      rcases (show q = Q ∨ q = Q + 1 by omega) with h | h
      ·
       rw [h] at hdone; omega
      ·
       exact h
     have bew : off + (n + 1) ≤ us.length := by have := aa abx; rwa [(aa HP).Ar] at this
     have aii := hide bew
     have Wt := Lib.hid (hzl.trans (aa HP).Ar)
     have HQQ := Lib.hid hqQ
     have HDN := Lib.hid hdone
     have HDM := hide (And.intro Ba (And.intro hml amh))
     have j3 : IntKind.u64.wrap ((q : Int) - 1) = (Q : Int) := je (by rw [hqQ]; omega) (by rw [fq] at Lh; rw [gy]; omega)
     have j4 : (Q : Int) % 4294967296 = (Q : Int) := by rw [fq] at Lh; omega
     have j5 : IntKind.u32.wrap (Q : Int) = (Q : Int) := by rw [IntKind.wrap_u32]; exact j4
     have HQB := hide (show Q < fe by omega)
     have HZC := hide (aa HI).lt
     clear hdone Ig Ba hml amh abk Lh bew hqQ
     go_wp2_with fail
     go_loopw [14, 17] (fun cv iv wr => ∃ (i c : Nat) (zd : List Nat), i ≤ n + 1 ∧ cv = .int .u64 ((c : Nat) : Int) ∧ iv = .int .i64 ((i : Nat) : Int) ∧ Hid (Wd.Bc fe zc vl zd i c) ∧ ZB .u32 wr b T (win us off zd) ∧ w.grownBy wr (some b)) (fun _ iv _ => n + 1 - (intOf iv).toNat)
     case atStart => exact ⟨0, 0, zc, by omega, rfl, rfl, Wd.Bc.start _ _ (aa HZC), ll, hgr⟩
     case round =>
      clear ll hgr
      obtain ⟨i, c, zd, hi, rfl, rfl, HA, ll, hgr⟩ := hrel
      have Mv := (aa HA).len.trans Wt.out
      by_cases hle : i ≤ n
      ·
       have d1 : decide ((i : Int) ≤ (n : Int)) = true := decide_eq_true om
       have d1' : decide (i ≤ n) = true := decide_eq_true hle
       obtain ⟨x, hx⟩ : ∃ t, t = Wd.g zc i := ⟨_, rfl⟩
       have Eg := ll.cell (off + i) (by rw [win_length _ _ _ (by rw [Mv]; exact aa aii)]; have h1 := (aa aii); omega)
       rw [Ju us off zd (by rw [Mv]; exact aa aii) i (by rw [Mv]; omega), show Wd.g zd i = Wd.g zc i from (aa HA).same i (Nat.le_refl _), ← hx] at Eg
       have Mt := ll.frozen (off + i)
       have zg : x < fe := by rw [hx]; exact Wd.getD_lt (by rw [fq]; omega) _ (aa HZC) _
       by_cases hin : i < n
       ·
        have d2 : decide ((i : Int) < (n : Int)) = true := decide_eq_true om
        have d2' : decide (i < n) = true := decide_eq_true hin
        obtain ⟨y, hy⟩ : ∃ t, t = Wd.g vl i := ⟨_, rfl⟩
        have Sk := (World.cell?_of_block (hgr.block bv (aa HBB).2 (fun e => by injection e with e; exact (aa HBB).1 e))).trans ((aa HCV) i (by rw [(aa HP).Ms]; exact hin))
        rw [← hy] at Sk
        have Fp : y < fe := by rw [hy]; exact Wd.getD_lt (by rw [fq]; omega) _ (aa HP).Zb _
        obtain ⟨s, hs⟩ : ∃ u, u = c + x := ⟨_, rfl⟩
        obtain ⟨t, ht⟩ : ∃ u, u = s + y := ⟨_, rfl⟩
        have hcB := (aa HA).c1
        have k1 : IntKind.u64.wrap (y : Int) = (y : Int) := je rfl ((aa Va) _ Fp)
        have k2 : IntKind.u64.wrap ((c : Int) + (x : Int)) = (s : Int) := je (by rw [hs]; simp) (by rw [hs]; rw [fq] at *; rw [gy]; omega)
        have k3 : IntKind.u64.wrap ((s : Int) + (y : Int)) = (t : Int) := je (by rw [ht]; simp) (by rw [ht, hs]; rw [fq] at *; rw [gy]; omega)
        have het : zd.getD i 0 + vl.getD i 0 + c = t := by rw [ht, hs, hx, hy, (aa HA).same i (Nat.le_refl _)]; show _ + Wd.g vl i + c = c + Wd.g zc i + Wd.g vl i; rw [show zc.getD i 0 = Wd.g zc i from rfl]; omega
        obtain ⟨d, hd⟩ : ∃ u, u = t % fe := ⟨_, rfl⟩
        obtain ⟨c2, hc2⟩ : ∃ u, u = t / fe := ⟨_, rfl⟩
        have hnew : Wd.Bc fe zc vl (zd.set i d) (i + 1) c2 := by
         have := (aa HA).step Ck (aa HP).Zb (by rw [Wt.out]; omega)
         rw [het] at this
         rw [hd, hc2]; exact this
        have m1 : IntKind.u64.wrap (x : Int) = (x : Int) := je rfl ((aa Va) _ zg)
        have m2 : IntKind.u32.wrap (t : Int) = (d : Int) := by rw [Be, hd]
        have m2' : (t : Int) % 4294967296 = (d : Int) := by rw [hd, fq]; omega
        have m8 : (t : Int) / 4294967296 = (c2 : Int) := by rw [hc2, fq]; omega
        have hfin : ∀ W, W = wr.setCell ⟨b, off + i, none⟩ (.int .u32 (d : Int)) → ZB .u32 W b T (win us off (zd.set i d)) ∧ w.grownBy W (some b) := by
         rintro W rfl
         refine ⟨?_, lu hgr _ _⟩
         rw [← Gb us off zd (by rw [Mv]; exact aa aii) i d (by rw [Mv]; omega)]
         exact ll.Bu _ _
        have HN := hide hnew; have HF := hide hfin
        have HIN := Lib.hid hin
        clear hnew hfin het hd hc2 ht zg hx Mv hgr ll hcB hin hs hy Fp
        go_wp2_with fail
        go_roundw
        case rel =>
         obtain ⟨r1, r2⟩ := (aa HF) _ rfl
         exact ⟨i + 1, c2, zd.set i d, by have := HIN.out; omega, rfl, by go_num, HN, r1, r2⟩
        case measure => have := HIN.out; simp [intOf]; omega
       ·
        have d2 : decide ((i : Int) < (n : Int)) = false := decide_eq_false om
        have d2' : decide (i < n) = false := decide_eq_false hin
        replace hin : i = n := by omega
        have hy0 : vl.getD i 0 = 0 := by
         have h := (aa HP).Ms
         rw [List.getD, List.getElem?_eq_none om]; rfl
        obtain ⟨t, ht⟩ : ∃ u, u = c + x := ⟨_, rfl⟩
        have hcB := (aa HA).c1
        have k2 : IntKind.u64.wrap ((c : Int) + (x : Int)) = (t : Int) := je (by rw [ht]; simp) (by rw [ht]; rw [fq] at *; rw [gy]; omega)
        have het : zd.getD i 0 + vl.getD i 0 + c = t := by rw [ht, hx, hy0, (aa HA).same i (Nat.le_refl _)]; show _ + 0 + c = c + Wd.g zc i; rw [show zc.getD i 0 = Wd.g zc i from rfl]; omega
        obtain ⟨d, hd⟩ : ∃ u, u = t % fe := ⟨_, rfl⟩
        obtain ⟨c2, hc2⟩ : ∃ u, u = t / fe := ⟨_, rfl⟩
        have hnew : Wd.Bc fe zc vl (zd.set i d) (i + 1) c2 := by
         have := (aa HA).step Ck (aa HP).Zb (by rw [Wt.out]; omega)
         rw [het] at this
         rw [hd, hc2]; exact this
        have m1 : IntKind.u64.wrap (x : Int) = (x : Int) := je rfl ((aa Va) _ zg)
        have m2 : IntKind.u32.wrap (t : Int) = (d : Int) := by rw [Be, hd]
        have m2' : (t : Int) % 4294967296 = (d : Int) := by rw [hd, fq]; omega
        have m8 : (t : Int) / 4294967296 = (c2 : Int) := by rw [hc2, fq]; omega
        have hfin : ∀ W, W = wr.setCell ⟨b, off + i, none⟩ (.int .u32 (d : Int)) → ZB .u32 W b T (win us off (zd.set i d)) ∧ w.grownBy W (some b) := by
         rintro W rfl
         refine ⟨?_, lu hgr _ _⟩
         rw [← Gb us off zd (by rw [Mv]; exact aa aii) i d (by rw [Mv]; omega)]
         exact ll.Bu _ _
        have HN := hide hnew; have HF := hide hfin
        have HIN := Lib.hid hin
        clear hnew hfin het hd hc2 ht zg hx Mv hgr ll hcB hin hy0
        go_wp2_with fail
        go_roundw
        case rel =>
         obtain ⟨r1, r2⟩ := (aa HF) _ rfl
         exact ⟨i + 1, c2, zd.set i d, by have := HIN.out; omega, rfl, by go_num, HN, r1, r2⟩
        case measure => have := HIN.out; simp [intOf]; omega
      ·
       have d1 : decide ((i : Int) ≤ (n : Int)) = false := decide_eq_false om
       have d1' : decide (i ≤ n) = false := decide_eq_false hle
       have e : i = n + 1 := by omega
       subst e
       have hok : StepT ul vl zd Q := by
        have h1 : Wd.val fe zd + fe ^ (n + 1) * c = Wd.val fe zc + Wd.val fe vl := by
         have h2 := aa HA
         rw [← Wt.out] at h2 ⊢
         exact h2.done (by rw [Wt.out, (aa HP).Ms]; omega)
        have h3 := Wd.zz zd (aa HA).lt
        rw [Mv] at h3
        have h4 := HDN.out
        rw [HQQ.out, Nat.add_mul, Nat.one_mul, Nat.mul_one] at h4
        have h5 := (aa HDM).1
        have h6 := (aa HDM).2.2
        have hc := (aa HA).c1
        refine ⟨(aa HA).len.trans (Wt.out.trans (aa HP).Ar.symm), (aa HA).lt, HQ.out, ?_⟩
        rcases (show c = 0 ∨ c = 1 by omega) with rfl | rfl
        ·
         rw [Nat.mul_zero] at h1; omega
        ·
         rw [Nat.mul_one] at h1; omega
       have rf := hide hok
       clear hok hle Mv
       go_wp2_with fail
       go_ret
       exact ⟨zd, Q, rfl, aa rf, aa HQB, ll, hgr⟩

def aaj (w : World) (q r : Nat) (e : Ending) (w' : World) : Prop :=
 ∃ A cap l A' cap' l', e = .returned (.tuple #[.slice A l.length cap, .slice A' l'.length cap']) ∧ qw w' A cap l q ∧ qw w' A' cap' l' r ∧ Below w.heap.size w w'

theorem ais (Ax Ay : Option Addr) (cx cy : Nat) (xl yl : List Nat) (n m : Nat) (w : World) (hx : qw w Ax cx xl n) (hy : qw w Ay cy yl m) (hlt : n < m) :
  Calls Tryz.prog 178 #[.slice Ax xl.length cx, .slice Ay yl.length cy] w fun e w' => aaj w (n / m) (n % m) e w' := by
 have hc := Qr Ax Ay cx cy xl yl n m w hx hy
 rw [show ze n m = -1 by unfold ze; rw [if_pos hlt]] at hc
 rw [Nat.div_eq_of_lt hlt, Nat.mod_eq_of_lt hlt]
 have HC := hide hc
 have HX := hide hx
 clear hc hx hy hlt
 go_enter Tryz.func178, Tryz.ntmps178
 go_wp2_with fail
 refine (aa HC).mono ?_
 rintro e w' ⟨rfl, k, rfl⟩
 go_wp2
 go_ret2
 exact ⟨none, 0, [], Ax, cx, xl, rfl, qw.Rk _ _ om, (aa HX).below (ni (Below.refl _ _) k), ni (Below.refl _ _) k⟩

theorem apr (Ax Ay : Option Addr) (cx cy : Nat) (xl yl : List Nat) (n m : Nat) (w : World) (hx : qw w Ax cx xl n) (hy : qw w Ay cy yl m) (hge : ¬ n < m) (h1 : yl.length = 1) (hk : xl.length ≤ 35184372088832) :
  Calls Tryz.prog 178 #[.slice Ax xl.length cx, .slice Ay yl.length cy] w fun e w' => aaj w (n / m) (n % m) e w' := by
 have hc := Qr Ax Ay cx cy xl yl n m w hx hy
 obtain ⟨o, ho⟩ : ∃ o, o = ze n m := ⟨_, rfl⟩
 rw [← ho] at hc
 have hd : decide (o < 0) = false := decide_eq_false (by rw [ho]; unfold ze; rw [if_neg hge]; split <;> omega)
 have HC := hide hc
 have hmk := Za xl.length hk
 have hx1 := hx.tq; have hx2 := hx.cap2; have hy1 := hy.tq; have hy2 := hy.cap2
 obtain ⟨by', oy, hA, hby, hcy⟩ := hy.ws om
 subst hA
 have hy0 := hcy 0 om
 have hym : Wd.g yl 0 = m := by rw [Rj fe yl h1]; exact hy.val
 rw [hym, Nat.add_zero] at hy0
 have Jb : m < fe := by rw [← hym]; exact Wd.getD_lt (by rw [fq]; omega) _ hy.lt 0
 have hm0 : 0 < m := by
  rcases hy.norm with h | h
  ·
   rw [h] at h1; simp at h1
  ·
   rw [h1] at h; have : Wd.g yl 0 ≠ 0 := h; omega
 have l1 : ((yl.length : Int) == 1) = true := by rw [h1]; rfl
 have e1 : IntKind.u64.wrap (m : Int) = (m : Int) := je rfl (by rw [fq] at Jb; rw [gy]; omega)
 have e9 : ((m : Int) == 0) = false := beq_eq_false_iff_ne.2 om
 have e9' : ¬ ((m : Int) = 0) := by omega
 have bmw : ¬ (m = 0) := by omega
 have bst : 0 < yl.length := by omega
 have HY0 := hide (And.intro hby hy0)
 have hne1 : ¬ (w.heap.size = by') := by omega
 have hne2 : ¬ (by' = w.heap.size) := by omega
 have HMB := hide Jb; have HM0 := hide hm0
 have HX := hide hx
 clear hc ho hcy hy hym Jb hm0 hge hy0 hby hx h1
 go_enter Tryz.func178, Tryz.ntmps178
 go_wp2_with fail
 refine (aa HC).mono ?_
 rintro e w' ⟨rfl, k, rfl⟩
 go_wp2_with fail
 go_loopw [7, 8] (fun rv iv wr => ∃ (i : Int) (r : Nat) (qc : List Nat), -1 ≤ i ∧ i < xl.length ∧ iv = .int .i64 i ∧ rv = .int .u64 ((r : Nat) : Int) ∧ Hid (Wd.Cf fe xl qc m (i + 1).toNat r) ∧ ZB .u32 wr w.heap.size 187 qc ∧ Below w.heap.size w wr) (fun _ iv _ => (intOf iv + 1).toNat)
 case atStart =>
  refine ⟨(xl.length : Int) - 1, 0, List.replicate xl.length 0, by omega, by omega, by first | rfl | go_num, rfl, ?_, heap_alloc_new (w.drewN k) _, (ni (Below.refl _ _) k).alloc (Nat.le_refl _) _⟩
  rw [show ((xl.length : Int) - 1 + 1).toNat = xl.length by omega]
  exact Wd.Cf.start _ _ _ (by simp) (aa HM0) (Jd (by rw [fq]; omega) _)
 case round =>
  obtain ⟨i, r, qc, hi1, hi2, rfl, rfl, HI, ll, hg⟩ := hrel
  have hlen := HI.out.len
  by_cases h0 : i < 0
  ·
   have e : i = -1 := by omega
   subst e
   obtain ⟨v1, v2⟩ := HI.out.done
   rw [(aa HX).val] at v1 v2
   have Px : r < fe := Nat.lt_trans HI.out.r1 (aa HMB)
   have j1 : (r : Int) % 4294967296 = (r : Int) := by rw [fq] at Px; omega
   have j2 : IntKind.u32.wrap (r : Int) = (r : Int) := by rw [IntKind.wrap_u32]; exact j1
   have V1 := Lib.hid v1; have V2 := Lib.hid v2; have HRB := hide Px
   clear v1 v2 Px
   go_wp2_with fail
   have htr := Cm (some ⟨w.heap.size, 0, none⟩) qc.length qc (wr.heap.size) wr (ll.Dq _ ll.lt) (Nat.le_refl _) om
   rw [hlen] at htr
   refine htr.mono ?_
   rintro e w' ⟨⟨k1, rfl, ht, hk2⟩, hw⟩
   obtain rfl : wr = w' := hw.symm
   clear hw
   go_wp2_with fail
   have hn := heap_alloc_new wr (.cells (xu .u32 [r]) 187)
   have auk : ZB .u32 (wr.alloc (.cells (xu .u32 [r]) 187)) wr.heap.size 187 [r] := hn
   have Jo := Cm (some ⟨wr.heap.size, 0, none⟩) 1 [r] _ _ (auk.Dq _ auk.lt) (Nat.le_refl _) om
   refine Jo.mono ?_
   rintro e w' ⟨⟨k3, rfl, ht2, hk3⟩, hw⟩
   subst hw
   go_wp2_with fail
   go_ret2
   have hk4 : k1 = (qc.take k1).length := by simp; omega
   have hk5 : k3 = ([r].take k3).length := by rw [List.length_take]; omega
   have q1 := qw.Ak (cap := xl.length) ll HI.out.lt ht om om om
   rw [V1.out] at q1
   have q2 := qw.Ak (cap := 1) auk (by simpa using aa HRB) ht2 hk3 (by simp) om
   rw [show Wd.val fe [r] = n % m by rw [← V2.out]; simp [Wd.val]] at q2
   exact ⟨some ⟨w.heap.size, 0, none⟩, xl.length, qc.take k1, some ⟨wr.heap.size, 0, none⟩, 1, [r].take k3, Re hk4 hk5, q1.below ((Below.refl _ _).alloc (Nat.le_refl _) _), q2, hg.alloc hg.size _⟩
  ·
   obtain ⟨j, rfl⟩ := Int.eq_ofNat_of_zero_le (show 0 ≤ i by omega)
   have Uk : j < xl.length := by omega
   obtain ⟨bx, ox, rfl, hbx, hcx⟩ := (aa HX).ws om
   have Eg := (hg.cell (p := ⟨bx, ox + j, none⟩) hbx).trans (hcx j Uk)
   have Sk := (hg.cell (p := ⟨by', oy, none⟩) (aa HY0).1).trans (aa HY0).2
   clear hcx
   have hzc := ll.cell j om
   have Mt := ll.frozen j
   obtain ⟨xj, hxj⟩ : ∃ t, t = Wd.g xl j := ⟨_, rfl⟩
   rw [← hxj] at Eg
   have zg : xj < fe := by rw [hxj]; exact Wd.getD_lt (by rw [fq]; omega) _ (aa HX).lt _
   have hinv : Wd.Cf fe xl qc m (j + 1) r := by have := HI.out; rwa [show ((j : Int) + 1).toNat = j + 1 by omega] at this
   have Px : r < fe := Nat.lt_trans hinv.r1 (aa HMB)
   obtain ⟨rs, hrs⟩ : ∃ t, t = r * fe := ⟨_, rfl⟩
   obtain ⟨X, hX⟩ : ∃ t, t = r * fe + xj := ⟨_, rfl⟩
   obtain ⟨q, hq⟩ : ∃ t, t = (r * fe + xj) / m := ⟨_, rfl⟩
   obtain ⟨s, hs⟩ : ∃ t, t = (r * fe + xj) % m := ⟨_, rfl⟩
   have hXB : X < dz := by rw [hX]; rw [fq] at *; rw [gy]; omega
   have Lh : q < fe := by
    rw [hq, Nat.div_lt_iff_lt_mul (aa HM0)]
    have h1 : (r + 1) * fe ≤ m * fe := Nat.mul_le_mul_right _ hinv.r1
    rw [Nat.add_mul, Nat.one_mul] at h1
    rw [Nat.mul_comm fe]; omega
   have hsm : s < m := by rw [hs]; exact Nat.mod_lt _ (aa HM0)
   have b64 : ∀ t : Nat, t < fe → t < dz := fun t ht => by rw [fq] at ht; rw [gy]; omega
   have g1 : IntKind.u64.wrap ((r : Int) * 4294967296) = (rs : Int) := je (by rw [hrs, fq]; simp) om
   have g2 : Go.bits .or .u64 (rs : Int) (xj : Int) = (X : Int) := by rw [hrs, afd Px zg, hX]
   have g3 : IntKind.u64.wrap (xj : Int) = (xj : Int) := je rfl (b64 _ zg)
   have g4 : (X : Int).tdiv (m : Int) = (q : Int) := by rw [hq, hX]; exact (Int.ofNat_tdiv _ _).symm
   have g5 : (X : Int).tmod (m : Int) = (s : Int) := by rw [hs, hX]; exact (Int.ofNat_tmod _ _).symm
   have g6 : IntKind.u64.wrap (q : Int) = (q : Int) := je rfl (b64 _ Lh)
   have g7 : IntKind.u64.wrap (s : Int) = (s : Int) := je rfl (b64 _ (Nat.lt_trans hsm (aa HMB)))
   have g8 : (q : Int) % 4294967296 = (q : Int) := by rw [fq] at Lh; omega
   have g9 : IntKind.u32.wrap (q : Int) = (q : Int) := by rw [IntKind.wrap_u32]; exact g8
   have g10 : IntKind.u64.wrap (X : Int) = (X : Int) := je rfl hXB
   have hfin : ∀ W, W = wr.setCell ⟨w.heap.size, j, none⟩ (.int .u32 (q : Int)) → Hid (Wd.Cf fe xl (qc.set j q) m j s) ∧ ZB .u32 W w.heap.size 187 (qc.set j q) ∧ Below w.heap.size w W := by
    rintro W rfl
    refine ⟨?_, ll.Bu _ _, hg.setCell (p := ⟨w.heap.size, j, none⟩) (Nat.le_refl _) _⟩
    rw [hq, hs, hxj]
    exact hinv.step Uk (by rw [← Wd.qo, ← hxj]; exact zg)
   have HF := hide hfin
   clear hfin hq hs hxj zg hinv ll hg HI hX hrs hXB Lh hsm b64 Px
   go_wp2_with fail
   go_roundw
   case rel =>
    obtain ⟨r1, r2, r3⟩ := (aa HF) _ rfl
    exact ⟨(j : Int) - 1, s, qc.set j q, by omega, by omega, by go_num, rfl, by rw [show ((j : Int) - 1 + 1).toNat = j by omega]; exact r1, r2, r3⟩
   case measure => simp [intOf] <;> omega
end Go.Proofs.YtfgeaakhlcaibaaGreatDoor
