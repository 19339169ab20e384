/- Texts beneath a law of layer 1. -/
import Derived.Test.YtjdnmdlnaoedoaaGreatDoorCu6
import Derived.BigQuiet
import Derived.Deep.QuietTactic
import Derived.Laws.Bits64b
import Derived.Deep.CutBlock
import Derived.Deep.DeepCutAuto
set_option maxRecDepth 100000
set_option maxHeartbeats 16000000
namespace Go.Proofs.YtjdnmdlnaoedoaaGreatDoor
open Go.RowKit

theorem att (s1 : Int) (dw : Bool) (A1 : Option Addr) (c1 : Nat) (l1 : List Nat) (s2 : Int) (ek : Bool) (A2 : Option Addr) (c2 : Nat) (l2 : List Nat) (z1 z2 g r1 r2 : Int) (w : World) (f1 : ig w s1 dw A1 c1 l1 z1) (f2 : ig w s2 ek A2 c2 l2 z2) (hs : ¬ z2 < 0)
  (hg : Dh w 143 z1 z2 g) (hq1 : Dh w 144 z1 g r1) (hq2 : Dh w 144 z2 g r2) :
  Calls Tryz.prog 123 #[(Value.agg #[.int .i64 s1, .bool dw, .slice A1 l1.length c1]), (Value.agg #[.int .i64 s2, .bool ek, .slice A2 l2.length c2])] w fun e w' => Hy w r1 r2 e w' := by

 have H1 := hide f1
 have H2 := hide f2
 have HG := hide hg
 have Ww := hide hq1
 have HQ2 := hide hq2
 have hs' : decide (iw z2 < 0) = false := decide_eq_false (by rw [Jk]; exact hs)
 obtain ⟨o, ho⟩ : ∃ o, o = iw z2 := ⟨_, rfl⟩
 have HS := hide (fun W (f : ig W s2 ek A2 c2 l2 z2) => (show Calls Tryz.prog 146 #[(Value.agg #[.int .i64 s2, .bool ek, .slice A2 l2.length c2])] W fun e w' => e = .returned (.int .i64 o) ∧ Below W.heap.size W w' by rw [ho]; exact Ap s2 ek A2 c2 l2 z2 W f))
 rw [← ho] at hs'
 clear f1 f2 hg hq1 hq2 hs ho
 go_enter Tryz.func123, Tryz.ntmps123
 go_upto_region 1 with fail
 obtain ⟨n0, n1, n2, hsz, hw0⟩ := nu w (.cells #[.int .i64 s1, .bool dw, .slice A1 l1.length c1] 72) (.cells #[.int .i64 s2, .bool ek, .slice A2 l2.length c2] 72) (.cells #[.int .i64 0, .bool false, .slice none 0 0, .int .i64 0, .bool false, .slice none 0 0] 74)
 generalize (((w.alloc (.cells #[.int .i64 s1, .bool dw, .slice A1 l1.length c1] 72)).alloc (.cells #[.int .i64 s2, .bool ek, .slice A2 l2.length c2] 72)).alloc (.cells #[.int .i64 0, .bool false, .slice none 0 0, .int .i64 0, .bool false, .slice none 0 0] 74)) = W0 at *
 have yc : W0.cell? ⟨w.heap.size, 0, none⟩ = some (.int .i64 s1) := ah n0 0
 have xz : W0.cell? ⟨w.heap.size, 1, none⟩ = some (.bool dw) := ah n0 1
 have Ak : W0.cell? ⟨w.heap.size, 2, none⟩ = some (.slice A1 l1.length c1) := ah n0 2
 have q0 : w.heap.size < W0.heap.size := by omega
 have Ad : W0.cell? ⟨w.heap.size + 1, 0, none⟩ = some (.int .i64 s2) := ah n1 0
 have Ac : W0.cell? ⟨w.heap.size + 1, 1, none⟩ = some (.bool ek) := ah n1 1
 have El : W0.cell? ⟨w.heap.size + 1, 2, none⟩ = some (.slice A2 l2.length c2) := ah n1 2
 have q1 : w.heap.size + 1 < W0.heap.size := by omega
 have agf : W0.cell? ⟨w.heap.size + 1 + 1, 0, none⟩ = some (.int .i64 0) := ah n2 0
 have age : W0.cell? ⟨w.heap.size + 1 + 1, 1, none⟩ = some (.bool false) := ah n2 1
 have agd : W0.cell? ⟨w.heap.size + 1 + 1, 2, none⟩ = some (.slice none 0 0) := ah n2 2
 have agc : W0.cell? ⟨w.heap.size + 1 + 1, 3, none⟩ = some (.int .i64 0) := ah n2 3
 have agb : W0.cell? ⟨w.heap.size + 1 + 1, 4, none⟩ = some (.bool false) := ah n2 4
 have aga : W0.cell? ⟨w.heap.size + 1 + 1, 5, none⟩ = some (.slice none 0 0) := ah n2 5
 have q2 : w.heap.size + 1 + 1 < W0.heap.size := by omega
 have ahk := bf n2 0
 have ahj := bf n2 1
 have ahi := bf n2 2
 have ahh := bf n2 3
 have ahg := bf n2 4
 have ahf := bf n2 5
 have NR := Lib.hid n2
 clear hsz n0 n1 n2
 replace H1 := hide ((aa H1).below hw0)
 replace H2 := hide ((aa H2).below hw0)
 go_cut [5] (fun s5_ wx => ∃ b5 : Nat, s5_ = .pointer (some ⟨b5, 0, none⟩) ∧ Ni wx b5 g ∧ Below W0.heap.size W0 wx ∧ W0.heap.size ≤ b5)
 case first =>
  go_wp2_with fail
  refine ((aa HG) s1 dw A1 c1 l1 s2 ek A2 c2 l2 _ hw0 (aa H1) (aa H2)).mono ?_
  rintro e w' ⟨s5, Cb, A5, c5, l5, rfl, yx, hb5⟩
  go_wp2_with fail
  go_meet
  exact ⟨_, rfl, awr yx hb5 rfl⟩
 case rest =>
  revert hcut
  generalize wc = W1
  intro hcut
  obtain ⟨b5, rfl, ⟨s5, Cb, A5, c5, l5, n5, f5⟩, hB1, ob5⟩ := hcut
  have Za : W1.cell? ⟨b5, 0, none⟩ = some (.int .i64 s5) := ah n5 0
  have Yz : W1.cell? ⟨b5, 1, none⟩ = some (.bool Cb) := ah n5 1
  have Yy : W1.cell? ⟨b5, 2, none⟩ = some (.slice A5 l5.length c5) := ah n5 2
  have y0 : W1.cell? ⟨w.heap.size + 1, 0, none⟩ = some (.int .i64 s2) := ib hB1 q1 Ad
  have y1 : W1.cell? ⟨w.heap.size + 1, 1, none⟩ = some (.bool ek) := ib hB1 q1 Ac
  have y2 : W1.cell? ⟨w.heap.size + 1, 2, none⟩ = some (.slice A2 l2.length c2) := ib hB1 q1 El
  go_wp2_with fail
  refine ((aa HS) W1 ((aa H2).below hB1)).mono ?_
  rintro e W2 ⟨rfl, hb⟩
  have q5 := lt_of_block n5
  have n5' := (hb.block _ q5).trans n5
  have f5' := f5.below hb
  have hB := bz hB1 hb
  clear Za Yz Yy y0 y1 y2 f5 n5 hB1
  have ng := n5'
  have fg := f5'
  clear n5' f5' hb
  have FG := hide fg
  clear fg
  have aas : W2.cell? ⟨w.heap.size, 0, none⟩ = some (.int .i64 s1) := ib hB q0 yc
  have aar : W2.cell? ⟨w.heap.size, 1, none⟩ = some (.bool dw) := ib hB q0 xz
  have aaq : W2.cell? ⟨w.heap.size, 2, none⟩ = some (.slice A1 l1.length c1) := ib hB q0 Ak
  have Rk : w.heap.size < W2.heap.size := Nat.lt_of_lt_of_le q0 hB.size
  have aap : W2.cell? ⟨w.heap.size + 1, 0, none⟩ = some (.int .i64 s2) := ib hB q1 Ad
  have aao : W2.cell? ⟨w.heap.size + 1, 1, none⟩ = some (.bool ek) := ib hB q1 Ac
  have aan : W2.cell? ⟨w.heap.size + 1, 2, none⟩ = some (.slice A2 l2.length c2) := ib hB q1 El
  have q1' : w.heap.size + 1 < W2.heap.size := Nat.lt_of_lt_of_le q1 hB.size
  have Tn := ah ng 0
  have Tm := ah ng 1
  have Tk := ah ng 2
  have Rj := lt_of_block ng
  simp only [Array.getElem?_eq_getElem, jw, jr, jq] at Tn Tm Tk
  have aue : W2.cell? ⟨w.heap.size + 1 + 1, 0, none⟩ = some (.int .i64 0) := ib hB q2 agf
  have bky : W2.frozen? ⟨w.heap.size + 1 + 1, 0, none⟩ = false := (hB.frozen (p := ⟨w.heap.size + 1 + 1, 0, none⟩) q2).trans ahk
  have aud : W2.cell? ⟨w.heap.size + 1 + 1, 1, none⟩ = some (.bool false) := ib hB q2 age
  have bkx : W2.frozen? ⟨w.heap.size + 1 + 1, 1, none⟩ = false := (hB.frozen (p := ⟨w.heap.size + 1 + 1, 1, none⟩) q2).trans ahj
  have auc : W2.cell? ⟨w.heap.size + 1 + 1, 2, none⟩ = some (.slice none 0 0) := ib hB q2 agd
  have bkw : W2.frozen? ⟨w.heap.size + 1 + 1, 2, none⟩ = false := (hB.frozen (p := ⟨w.heap.size + 1 + 1, 2, none⟩) q2).trans ahi
  have aub : W2.cell? ⟨w.heap.size + 1 + 1, 3, none⟩ = some (.int .i64 0) := ib hB q2 agc
  have bkv : W2.frozen? ⟨w.heap.size + 1 + 1, 3, none⟩ = false := (hB.frozen (p := ⟨w.heap.size + 1 + 1, 3, none⟩) q2).trans ahh
  have aua : W2.cell? ⟨w.heap.size + 1 + 1, 4, none⟩ = some (.bool false) := ib hB q2 agb
  have bku : W2.frozen? ⟨w.heap.size + 1 + 1, 4, none⟩ = false := (hB.frozen (p := ⟨w.heap.size + 1 + 1, 4, none⟩) q2).trans ahg
  have atz : W2.cell? ⟨w.heap.size + 1 + 1, 5, none⟩ = some (.slice none 0 0) := ib hB q2 aga
  have bkt : W2.frozen? ⟨w.heap.size + 1 + 1, 5, none⟩ = false := (hB.frozen (p := ⟨w.heap.size + 1 + 1, 5, none⟩) q2).trans ahf
  have qr : w.heap.size + 1 + 1 < W2.heap.size := Nat.lt_of_lt_of_le q2 hB.size
  have or5 : w.heap.size + 1 + 1 < b5 := Nat.lt_of_lt_of_le q2 ob5
  clear yc xz Ak Ad Ac El agf age agd agc agb aga ahk ahj ahi ahh ahg ahf ng
  have KEEP := hide (show ∀ X, Below W2.heap.size W2 X → X.cell? ⟨w.heap.size, 0, none⟩ = some (.int .i64 s1) ∧ X.cell? ⟨w.heap.size, 1, none⟩ = some (.bool dw) ∧ X.cell? ⟨w.heap.size, 2, none⟩ = some (.slice A1 l1.length c1) ∧ X.cell? ⟨w.heap.size + 1, 0, none⟩ = some (.int .i64 s2) ∧ X.cell? ⟨w.heap.size + 1, 1, none⟩ = some (.bool ek) ∧ X.cell? ⟨w.heap.size + 1, 2, none⟩ = some (.slice A2 l2.length c2) ∧ X.cell? ⟨b5, 0, none⟩ = some (.int .i64 s5) ∧ X.cell? ⟨b5, 1, none⟩ = some (.bool Cb) ∧ X.cell? ⟨b5, 2, none⟩ = some (.slice A5 l5.length c5) from fun X hX => ⟨ib hX Rk aas, ib hX Rk aar, ib hX Rk aaq, ib hX q1' aap, ib hX q1' aao, ib hX q1' aan, ib hX Rj Tn, ib hX Rj Tm, ib hX Rj Tk⟩)
  go_wp2_with fail
  go_region_held3 (fun w' => w'.cell? ⟨w.heap.size, 0, none⟩ = some (.int .i64 s1) ∧ w'.cell? ⟨w.heap.size, 1, none⟩ = some (.bool dw) ∧ w'.cell? ⟨w.heap.size, 2, none⟩ = some (.slice A1 l1.length c1) ∧ w'.cell? ⟨w.heap.size + 1, 0, none⟩ = some (.int .i64 s2) ∧ w'.cell? ⟨w.heap.size + 1, 1, none⟩ = some (.bool ek) ∧ w'.cell? ⟨w.heap.size + 1, 2, none⟩ = some (.slice A2 l2.length c2) ∧ w'.cell? ⟨b5, 0, none⟩ = some (.int .i64 s5) ∧ w'.cell? ⟨b5, 1, none⟩ = some (.bool Cb) ∧ w'.cell? ⟨b5, 2, none⟩ = some (.slice A5 l5.length c5)) (first | with_reducible exact ⟨(jy _ _ _ _ _ _ _ _ om).trans (ib hbw Rk aas), (jy _ _ _ _ _ _ _ _ om).trans (ib hbw Rk aar), (jy _ _ _ _ _ _ _ _ om).trans (ib hbw Rk aaq), (jy _ _ _ _ _ _ _ _ om).trans (ib hbw q1' aap), (jy _ _ _ _ _ _ _ _ om).trans (ib hbw q1' aao), (jy _ _ _ _ _ _ _ _ om).trans (ib hbw q1' aan), (jy _ _ _ _ _ _ _ _ om).trans (ib hbw Rj Tn), (jy _ _ _ _ _ _ _ _ om).trans (ib hbw Rj Tm), (jy _ _ _ _ _ _ _ _ om).trans (ib hbw Rj Tk)⟩ | with_reducible exact (aa KEEP) _ bel) (first | (go_at_call_of 144 (Value.agg #[.int .i64 s1, .bool dw, .slice A1 l1.length c1]); refine ((aa Ww) s1 dw A1 c1 l1 s5 Cb A5 c5 l5 _ (bz hw0 (bz hB bel)) (ig.below (aa H1) (bz hB bel)) (ig.below (aa FG) bel)).mono ?_; rintro e w' ⟨s8, afw, A8, c8, l8, rfl, hf8, hb8⟩; have hbw := cu (w := W2) bel hb8; have hsw := hbw.size; obtain ⟨hc, hfz⟩ := fu hbw) | (go_at_call_of 144 (Value.agg #[.int .i64 s2, .bool ek, .slice A2 l2.length c2]); refine ((aa HQ2) s2 ek A2 c2 l2 s5 Cb A5 c5 l5 _ (bz hw0 (bz hB bel)) (ig.below (aa H2) (bz hB bel)) (ig.below (aa FG) bel)).mono ?_; rintro e w' ⟨s9, afv, A9, c9, l9, rfl, hf9, jh⟩; have hf8 := ig.below (ig.below hf8 bel) jh; have hbw := cu (w := W2) bel jh; have hsw := hbw.size; obtain ⟨hc, hfz⟩ := fu hbw))
  have hBB : Below W0.heap.size W0 w' := bz hB hbw
  have hblk : w'.heap[w.heap.size + 1 + 1]? = some (.cells #[.int .i64 0, .bool false, .slice none 0 0, .int .i64 0, .bool false, .slice none 0 0] 74 (0, 0)) := (hBB.block _ q2).trans NR.out
  have kg := Lib.hid hblk
  have jh : Below w.heap.size w w' := bz hw0 hBB
  clear hblk
  go_wp2_with fail
  exact bodyPost_ret (v := (Value.agg #[.int .i64 s8, .bool afw, .slice A8 l8.length c8, .int .i64 s9, .bool afv, .slice A9 l9.length c9])) (by simp [results, Tryz.results123, go_sem, hc, aue, aud, auc, aub, aua, atz, qr]) rfl
   ⟨s8, afw, A8, c8, l8, s9, afv, A9, c9, l9, rfl, (hf8).upto kg.out (Cu _ _ _ _ _ _ _ _ _ _) (uf _ _ _ _ _ _ _ _), (hf9).upto kg.out (Cu _ _ _ _ _ _ _ _ _ _) (uf _ _ _ _ _ _ _ _), jh.grown (uf _ _ _ _ _ _ _ _) jh.size (fun k hk => by injection hk with hk; omega)⟩
theorem atu (s1 : Int) (dw : Bool) (A1 : Option Addr) (c1 : Nat) (l1 : List Nat) (s2 : Int) (ek : Bool) (A2 : Option Addr) (c2 : Nat) (l2 : List Nat) (z1 z2 g gn r1 r2 : Int) (w : World) (f1 : ig w s1 dw A1 c1 l1 z1) (f2 : ig w s2 ek A2 c2 l2 z2) (hs : z2 < 0) (hgn : gn = -g)
  (hg : Dh w 143 z1 z2 g) (hq1 : Dh w 144 z1 gn r1) (hq2 : Dh w 144 z2 gn r2) :
  Calls Tryz.prog 123 #[(Value.agg #[.int .i64 s1, .bool dw, .slice A1 l1.length c1]), (Value.agg #[.int .i64 s2, .bool ek, .slice A2 l2.length c2])] w fun e w' => Hy w r1 r2 e w' := by
 subst hgn
 have H1 := hide f1
 have H2 := hide f2
 have HG := hide hg
 have Ww := hide hq1
 have HQ2 := hide hq2
 have hs' : decide (iw z2 < 0) = true := decide_eq_true (by rw [Jk]; exact hs)
 obtain ⟨o, ho⟩ : ∃ o, o = iw z2 := ⟨_, rfl⟩
 have HS := hide (fun W (f : ig W s2 ek A2 c2 l2 z2) => (show Calls Tryz.prog 146 #[(Value.agg #[.int .i64 s2, .bool ek, .slice A2 l2.length c2])] W fun e w' => e = .returned (.int .i64 o) ∧ Below W.heap.size W w' by rw [ho]; exact Ap s2 ek A2 c2 l2 z2 W f))
 rw [← ho] at hs'
 clear f1 f2 hg hq1 hq2 hs ho
 go_enter Tryz.func123, Tryz.ntmps123
 go_upto_region 1 with fail
 obtain ⟨n0, n1, n2, hsz, hw0⟩ := nu w (.cells #[.int .i64 s1, .bool dw, .slice A1 l1.length c1] 72) (.cells #[.int .i64 s2, .bool ek, .slice A2 l2.length c2] 72) (.cells #[.int .i64 0, .bool false, .slice none 0 0, .int .i64 0, .bool false, .slice none 0 0] 74)
 generalize (((w.alloc (.cells #[.int .i64 s1, .bool dw, .slice A1 l1.length c1] 72)).alloc (.cells #[.int .i64 s2, .bool ek, .slice A2 l2.length c2] 72)).alloc (.cells #[.int .i64 0, .bool false, .slice none 0 0, .int .i64 0, .bool false, .slice none 0 0] 74)) = W0 at *
 have yc : W0.cell? ⟨w.heap.size, 0, none⟩ = some (.int .i64 s1) := ah n0 0
 have xz : W0.cell? ⟨w.heap.size, 1, none⟩ = some (.bool dw) := ah n0 1
 have Ak : W0.cell? ⟨w.heap.size, 2, none⟩ = some (.slice A1 l1.length c1) := ah n0 2
 have q0 : w.heap.size < W0.heap.size := by omega
 have Ad : W0.cell? ⟨w.heap.size + 1, 0, none⟩ = some (.int .i64 s2) := ah n1 0
 have Ac : W0.cell? ⟨w.heap.size + 1, 1, none⟩ = some (.bool ek) := ah n1 1
 have El : W0.cell? ⟨w.heap.size + 1, 2, none⟩ = some (.slice A2 l2.length c2) := ah n1 2
 have q1 : w.heap.size + 1 < W0.heap.size := by omega
 have agf : W0.cell? ⟨w.heap.size + 1 + 1, 0, none⟩ = some (.int .i64 0) := ah n2 0
 have age : W0.cell? ⟨w.heap.size + 1 + 1, 1, none⟩ = some (.bool false) := ah n2 1
 have agd : W0.cell? ⟨w.heap.size + 1 + 1, 2, none⟩ = some (.slice none 0 0) := ah n2 2
 have agc : W0.cell? ⟨w.heap.size + 1 + 1, 3, none⟩ = some (.int .i64 0) := ah n2 3
 have agb : W0.cell? ⟨w.heap.size + 1 + 1, 4, none⟩ = some (.bool false) := ah n2 4
 have aga : W0.cell? ⟨w.heap.size + 1 + 1, 5, none⟩ = some (.slice none 0 0) := ah n2 5
 have q2 : w.heap.size + 1 + 1 < W0.heap.size := by omega
 have ahk := bf n2 0
 have ahj := bf n2 1
 have ahi := bf n2 2
 have ahh := bf n2 3
 have ahg := bf n2 4
 have ahf := bf n2 5
 have NR := Lib.hid n2
 clear hsz n0 n1 n2
 replace H1 := hide ((aa H1).below hw0)
 replace H2 := hide ((aa H2).below hw0)
 go_cut [5] (fun s5_ wx => ∃ b5 : Nat, s5_ = .pointer (some ⟨b5, 0, none⟩) ∧ Ni wx b5 g ∧ Below W0.heap.size W0 wx ∧ W0.heap.size ≤ b5)
 case first =>
  go_wp2_with fail
  refine ((aa HG) s1 dw A1 c1 l1 s2 ek A2 c2 l2 _ hw0 (aa H1) (aa H2)).mono ?_
  rintro e w' ⟨s5, Cb, A5, c5, l5, rfl, yx, hb5⟩
  go_wp2_with fail
  go_meet
  exact ⟨_, rfl, awr yx hb5 rfl⟩
 case rest =>
  revert hcut
  generalize wc = W1
  intro hcut
  obtain ⟨b5, rfl, ⟨s5, Cb, A5, c5, l5, n5, f5⟩, hB1, ob5⟩ := hcut
  have Za : W1.cell? ⟨b5, 0, none⟩ = some (.int .i64 s5) := ah n5 0
  have Yz : W1.cell? ⟨b5, 1, none⟩ = some (.bool Cb) := ah n5 1
  have Yy : W1.cell? ⟨b5, 2, none⟩ = some (.slice A5 l5.length c5) := ah n5 2
  have y0 : W1.cell? ⟨w.heap.size + 1, 0, none⟩ = some (.int .i64 s2) := ib hB1 q1 Ad
  have y1 : W1.cell? ⟨w.heap.size + 1, 1, none⟩ = some (.bool ek) := ib hB1 q1 Ac
  have y2 : W1.cell? ⟨w.heap.size + 1, 2, none⟩ = some (.slice A2 l2.length c2) := ib hB1 q1 El
  go_wp2_with fail
  refine ((aa HS) W1 ((aa H2).below hB1)).mono ?_
  rintro e W2 ⟨rfl, hb⟩
  have q5 := lt_of_block n5
  have n5' := (hb.block _ q5).trans n5
  have f5' := f5.below hb
  have hB := bz hB1 hb
  clear Za Yz Yy y0 y1 y2 f5 n5 hB1
  have Za : W2.cell? ⟨b5, 0, none⟩ = some (.int .i64 s5) := ah n5' 0
  have Yz : W2.cell? ⟨b5, 1, none⟩ = some (.bool Cb) := ah n5' 1
  have Yy : W2.cell? ⟨b5, 2, none⟩ = some (.slice A5 l5.length c5) := ah n5' 2
  have F5 := hide f5'
  clear f5' hb
  go_wp2_with fail
  refine (Rn s5 Cb A5 c5 l5 g _ (aa F5)).mono ?_
  rintro e W3 ⟨s7, Yu, A7, c7, l7, rfl, hf7, hb⟩
  have n5 := (hb.block _ (lt_of_block n5')).trans n5'
  replace hB := bz hB hb
  clear Za Yz Yy n5' hb
  have Za : W3.cell? ⟨b5, 0, none⟩ = some (.int .i64 s5) := ah n5 0
  have Yz : W3.cell? ⟨b5, 1, none⟩ = some (.bool Cb) := ah n5 1
  have Yy : W3.cell? ⟨b5, 2, none⟩ = some (.slice A5 l5.length c5) := ah n5 2
  have bjs := bf n5 0
  have bjr := bf n5 1
  have bjq := bf n5 2
  have HF7 := hide hf7
  have N5 := hide n5
  clear hf7 n5
  go_upto_region 4 with fail
  have pb := alj (u0 := .int .i64 s7) (u1 := .bool Yu) (u2 := .slice A7 l7.length c7) (aa N5)
  have g3 := jl W3 b5 (.int .i64 s7) (.bool Yu) (.slice A7 l7.length c7)
  have fg := (aa HF7).upto (aa N5) (ze _ _ _ _ _) g3
  replace hB := hB.grown g3 hB.size (fun k hk => by injection hk with hk; omega)
  have ng := pb
  clear pb g3 Za Yz Yy bjs bjr bjq
  generalize (((W3.setCell ⟨b5, 0, none⟩ (.int .i64 s7)).setCell ⟨b5, 1, none⟩ (.bool Yu)).setCell ⟨b5, 2, none⟩ (.slice A7 l7.length c7)) = W4 at *
  have FG := hide fg
  clear fg
  have aas : W4.cell? ⟨w.heap.size, 0, none⟩ = some (.int .i64 s1) := ib hB q0 yc
  have aar : W4.cell? ⟨w.heap.size, 1, none⟩ = some (.bool dw) := ib hB q0 xz
  have aaq : W4.cell? ⟨w.heap.size, 2, none⟩ = some (.slice A1 l1.length c1) := ib hB q0 Ak
  have Rk : w.heap.size < W4.heap.size := Nat.lt_of_lt_of_le q0 hB.size
  have aap : W4.cell? ⟨w.heap.size + 1, 0, none⟩ = some (.int .i64 s2) := ib hB q1 Ad
  have aao : W4.cell? ⟨w.heap.size + 1, 1, none⟩ = some (.bool ek) := ib hB q1 Ac
  have aan : W4.cell? ⟨w.heap.size + 1, 2, none⟩ = some (.slice A2 l2.length c2) := ib hB q1 El
  have q1' : w.heap.size + 1 < W4.heap.size := Nat.lt_of_lt_of_le q1 hB.size
  have Tn := ah ng 0
  have Tm := ah ng 1
  have Tk := ah ng 2
  have Rj := lt_of_block ng
  simp only [Array.getElem?_eq_getElem, jw, jr, jq] at Tn Tm Tk
  have aue : W4.cell? ⟨w.heap.size + 1 + 1, 0, none⟩ = some (.int .i64 0) := ib hB q2 agf
  have bky : W4.frozen? ⟨w.heap.size + 1 + 1, 0, none⟩ = false := (hB.frozen (p := ⟨w.heap.size + 1 + 1, 0, none⟩) q2).trans ahk
  have aud : W4.cell? ⟨w.heap.size + 1 + 1, 1, none⟩ = some (.bool false) := ib hB q2 age
  have bkx : W4.frozen? ⟨w.heap.size + 1 + 1, 1, none⟩ = false := (hB.frozen (p := ⟨w.heap.size + 1 + 1, 1, none⟩) q2).trans ahj
  have auc : W4.cell? ⟨w.heap.size + 1 + 1, 2, none⟩ = some (.slice none 0 0) := ib hB q2 agd
  have bkw : W4.frozen? ⟨w.heap.size + 1 + 1, 2, none⟩ = false := (hB.frozen (p := ⟨w.heap.size + 1 + 1, 2, none⟩) q2).trans ahi
  have aub : W4.cell? ⟨w.heap.size + 1 + 1, 3, none⟩ = some (.int .i64 0) := ib hB q2 agc
  have bkv : W4.frozen? ⟨w.heap.size + 1 + 1, 3, none⟩ = false := (hB.frozen (p := ⟨w.heap.size + 1 + 1, 3, none⟩) q2).trans ahh
  have aua : W4.cell? ⟨w.heap.size + 1 + 1, 4, none⟩ = some (.bool false) := ib hB q2 agb
  have bku : W4.frozen? ⟨w.heap.size + 1 + 1, 4, none⟩ = false := (hB.frozen (p := ⟨w.heap.size + 1 + 1, 4, none⟩) q2).trans ahg
  have atz : W4.cell? ⟨w.heap.size + 1 + 1, 5, none⟩ = some (.slice none 0 0) := ib hB q2 aga
  have bkt : W4.frozen? ⟨w.heap.size + 1 + 1, 5, none⟩ = false := (hB.frozen (p := ⟨w.heap.size + 1 + 1, 5, none⟩) q2).trans ahf
  have qr : w.heap.size + 1 + 1 < W4.heap.size := Nat.lt_of_lt_of_le q2 hB.size
  have or5 : w.heap.size + 1 + 1 < b5 := Nat.lt_of_lt_of_le q2 ob5
  clear yc xz Ak Ad Ac El agf age agd agc agb aga ahk ahj ahi ahh ahg ahf ng
  have KEEP := hide (show ∀ X, Below W4.heap.size W4 X → X.cell? ⟨w.heap.size, 0, none⟩ = some (.int .i64 s1) ∧ X.cell? ⟨w.heap.size, 1, none⟩ = some (.bool dw) ∧ X.cell? ⟨w.heap.size, 2, none⟩ = some (.slice A1 l1.length c1) ∧ X.cell? ⟨w.heap.size + 1, 0, none⟩ = some (.int .i64 s2) ∧ X.cell? ⟨w.heap.size + 1, 1, none⟩ = some (.bool ek) ∧ X.cell? ⟨w.heap.size + 1, 2, none⟩ = some (.slice A2 l2.length c2) ∧ X.cell? ⟨b5, 0, none⟩ = some (.int .i64 s7) ∧ X.cell? ⟨b5, 1, none⟩ = some (.bool Yu) ∧ X.cell? ⟨b5, 2, none⟩ = some (.slice A7 l7.length c7) from fun X hX => ⟨ib hX Rk aas, ib hX Rk aar, ib hX Rk aaq, ib hX q1' aap, ib hX q1' aao, ib hX q1' aan, ib hX Rj Tn, ib hX Rj Tm, ib hX Rj Tk⟩)
  go_wp2_with fail
  go_region_held3 (fun w' => w'.cell? ⟨w.heap.size, 0, none⟩ = some (.int .i64 s1) ∧ w'.cell? ⟨w.heap.size, 1, none⟩ = some (.bool dw) ∧ w'.cell? ⟨w.heap.size, 2, none⟩ = some (.slice A1 l1.length c1) ∧ w'.cell? ⟨w.heap.size + 1, 0, none⟩ = some (.int .i64 s2) ∧ w'.cell? ⟨w.heap.size + 1, 1, none⟩ = some (.bool ek) ∧ w'.cell? ⟨w.heap.size + 1, 2, none⟩ = some (.slice A2 l2.length c2) ∧ w'.cell? ⟨b5, 0, none⟩ = some (.int .i64 s7) ∧ w'.cell? ⟨b5, 1, none⟩ = some (.bool Yu) ∧ w'.cell? ⟨b5, 2, none⟩ = some (.slice A7 l7.length c7)) (first | with_reducible exact ⟨(jy _ _ _ _ _ _ _ _ om).trans (ib hbw Rk aas), (jy _ _ _ _ _ _ _ _ om).trans (ib hbw Rk aar), (jy _ _ _ _ _ _ _ _ om).trans (ib hbw Rk aaq), (jy _ _ _ _ _ _ _ _ om).trans (ib hbw q1' aap), (jy _ _ _ _ _ _ _ _ om).trans (ib hbw q1' aao), (jy _ _ _ _ _ _ _ _ om).trans (ib hbw q1' aan), (jy _ _ _ _ _ _ _ _ om).trans (ib hbw Rj Tn), (jy _ _ _ _ _ _ _ _ om).trans (ib hbw Rj Tm), (jy _ _ _ _ _ _ _ _ om).trans (ib hbw Rj Tk)⟩ | with_reducible exact (aa KEEP) _ bel) (first | (go_at_call_of 144 (Value.agg #[.int .i64 s1, .bool dw, .slice A1 l1.length c1]); refine ((aa Ww) s1 dw A1 c1 l1 s7 Yu A7 c7 l7 _ (bz hw0 (bz hB bel)) (ig.below (aa H1) (bz hB bel)) (ig.below (aa FG) bel)).mono ?_; rintro e w' ⟨s8, afw, A8, c8, l8, rfl, hf8, hb8⟩; have hbw := cu (w := W4) bel hb8; have hsw := hbw.size; obtain ⟨hc, hfz⟩ := fu hbw) | (go_at_call_of 144 (Value.agg #[.int .i64 s2, .bool ek, .slice A2 l2.length c2]); refine ((aa HQ2) s2 ek A2 c2 l2 s7 Yu A7 c7 l7 _ (bz hw0 (bz hB bel)) (ig.below (aa H2) (bz hB bel)) (ig.below (aa FG) bel)).mono ?_; rintro e w' ⟨s9, afv, A9, c9, l9, rfl, hf9, jh⟩; have hf8 := ig.below (ig.below hf8 bel) jh; have hbw := cu (w := W4) bel jh; have hsw := hbw.size; obtain ⟨hc, hfz⟩ := fu hbw))
  have hBB : Below W0.heap.size W0 w' := bz hB hbw
  have hblk : w'.heap[w.heap.size + 1 + 1]? = some (.cells #[.int .i64 0, .bool false, .slice none 0 0, .int .i64 0, .bool false, .slice none 0 0] 74 (0, 0)) := (hBB.block _ q2).trans NR.out
  have kg := Lib.hid hblk
  have jh : Below w.heap.size w w' := bz hw0 hBB
  clear hblk
  go_wp2_with fail
  exact bodyPost_ret (v := (Value.agg #[.int .i64 s8, .bool afw, .slice A8 l8.length c8, .int .i64 s9, .bool afv, .slice A9 l9.length c9])) (by simp [results, Tryz.results123, go_sem, hc, aue, aud, auc, aub, aua, atz, qr]) rfl
   ⟨s8, afw, A8, c8, l8, s9, afv, A9, c9, l9, rfl, (hf8).upto kg.out (Cu _ _ _ _ _ _ _ _ _ _) (uf _ _ _ _ _ _ _ _), (hf9).upto kg.out (Cu _ _ _ _ _ _ _ _ _ _) (uf _ _ _ _ _ _ _ _), jh.grown (uf _ _ _ _ _ _ _ _) jh.size (fun k hk => by injection hk with hk; omega)⟩
theorem atv {K : Nat} (s1 : Int) (dw : Bool) (A1 : Option Addr) (c1 : Nat) (l1 : List Nat) (s2 : Int) (ek : Bool) (A2 : Option Addr) (c2 : Nat) (l2 : List Nat) (z1 z2 : Int) (w : World) (hT : qy w) (f1 : ig w s1 dw A1 c1 l1 z1) (f2 : ig w s2 ek A2 c2 l2 z2) (h0 : z2 ≠ 0) (hx : Wd.Sz fo K z1) (hy : Wd.Sz fo K z2) (hK : K ≤ lim) :
  Calls Tryz.prog 123 #[(Value.agg #[.int .i64 s1, .bool dw, .slice A1 l1.length c1]), (Value.agg #[.int .i64 s2, .bool ek, .slice A2 l2.length c2])] w fun e w' => Hy w (Rat.divInt z1 z2).num ((Rat.divInt z1 z2).den : Int) e w' := by
 have hp := Wd.Pt z1 z2 h0
 have g0 : 0 < z1.natAbs.gcd z2.natAbs := Nat.gcd_pos_of_pos_right _ om
 have sg : Wd.Sz fo K ((z1.natAbs.gcd z2.natAbs : Nat) : Int) := hy.gcd_right h0
 rw [hp.1, hp.2]
 by_cases hs : z2 < 0
 ·
  have e : z2.sign * ((z1.natAbs.gcd z2.natAbs : Nat) : Int) = -((z1.natAbs.gcd z2.natAbs : Nat) : Int) := by rw [Int.sign_eq_neg_one_of_neg hs]; omega
  rw [e]
  exact atu s1 dw A1 c1 l1 s2 ek A2 c2 l2 z1 z2 _ _ _ _ w f1 f2 hs rfl (Rm hT hx hy hK rfl) (Ev hx sg.neg hK om rfl) (Ev hy sg.neg hK om rfl)
 ·
  have e : z2.sign * ((z1.natAbs.gcd z2.natAbs : Nat) : Int) = ((z1.natAbs.gcd z2.natAbs : Nat) : Int) := by rw [Int.sign_eq_one_of_pos om]; omega
  rw [e]
  exact att s1 dw A1 c1 l1 s2 ek A2 c2 l2 z1 z2 _ _ _ w f1 f2 hs (Rm hT hx hy hK rfl) (Ev hx sg hK om rfl) (Ev hy sg hK om rfl)

end Go.Proofs.YtjdnmdlnaoedoaaGreatDoor
namespace Go.Proofs.YtjdnmdlnaoedoaaGreatDoor
open Go.RowKit

structure qo (w : World) (A : Option Addr) (cap : Nat) (l : List Nat) (n : Nat) : Prop where
 ws : Ws .u32 w w.heap.size A l
 tu : l.length ≤ cap
 cap2 : cap ≤ 9223372036854775807
 lt : ∀ x ∈ l, x < eu
 norm : Wd.Norm l
 val : Wd.val eu l = n

theorem qo.below {w w' : World} {A : Option Addr} {cap : Nat} {l : List Nat} {n : Nat} (h : qo w A cap l n) (hb : Below w.heap.size w w') : qo w' A cap l n :=
 ⟨(h.ws.below hb).more hb.size, h.tu, h.cap2, h.lt, h.norm, h.val⟩
theorem qo.len {w : World} {A : Option Addr} {cap : Nat} {l : List Nat} {n k : Nat} (h : qo w A cap l n) (hn : n < eu ^ k) : l.length ≤ k :=
 Wd.Yr Am l h.norm k (by rw [h.val]; exact hn)
theorem qo.Qz (w : World) (cap : Nat) (hc : cap ≤ 9223372036854775807) : qo w none cap [] 0 := ⟨Ws.Qz, by simp, hc, by simp, .inl rfl, rfl⟩
theorem qo.Mc {w : World} {A : Option Addr} {cap : Nat} {l : List Nat} {n : Nat} (h : qo w A cap l n) : n < eu ^ l.length := by
 rw [← h.val]; exact Wd.Cf l h.lt

def ank (w : World) (n : Nat) (e : Ending) (w' : World) : Prop := ∃ A cap l, e = .returned (.slice A l.length cap) ∧ qo w' A cap l n ∧ Below w.heap.size w w'

theorem qo.Ct {w : World} {b cap : Nat} {T : TypeId} {zs : List Nat} {k : Nat} (hz : ZB .u32 w b T zs) (hlt : ∀ x ∈ zs, x < eu) (ht : Wd.Gz zs (zs.take k)) (hk : k ≤ zs.length) (hc : zs.length ≤ cap) (hc2 : cap ≤ 9223372036854775807) :
  qo w (some ⟨b, 0, none⟩) cap (zs.take k) (Wd.val eu zs) :=
 ⟨(hz.Et _ hz.lt).Qh k, by simp; omega, hc2, fun x hx => hlt x (List.mem_of_mem_take hx), ht.norm, ht.val _⟩

theorem Ck (A : Option Addr) (cap : Nat) (l : List Nat) (B : Nat) (w : World) (hr : Ws .u32 w B A l) (hcap : l.length ≤ cap) (hm : cap ≤ 9223372036854775807) :
  Calls Tryz.prog 160 #[.slice A l.length cap] w fun e w' => (∃ k, e = .returned (.slice A k cap) ∧ Wd.Gz l (l.take k) ∧ k ≤ l.length) ∧ w' = w := by
 go_enter Tryz.func160, Tryz.ntmps160
 go_wp2
 go_loop [0] (fun v => ∃ k : Nat, k ≤ l.length ∧ v = .slice A k cap ∧ ∀ i, k ≤ i → i < l.length → l.getD i 0 = 0) (fun v => slen v)
 case atStart => exact ⟨l.length, Nat.le_refl _, rfl, fun i h1 h2 => by omega⟩
 case round =>
  obtain ⟨k, hk, rfl, hz⟩ := hrel
  have HZ := Lib.hid hz
  clear hz
  by_cases h0 : k = 0
  ·
   subst h0
   go_wp2
   go_ret
   exact ⟨⟨0, rfl, ⟨0, Nat.zero_le _, rfl, HZ.out, .inl rfl⟩, Nat.zero_le _⟩, rfl⟩
  ·
   obtain ⟨b, off, rfl, hb, hc⟩ := hr om
   have hck := hc (k - 1) om
   clear hc
   go_wp2
   ·
    have ht : (((Wd.g l (k - 1) : Nat) : Int) == 0) = true := by assumption
    go_round
    case rel =>
     refine ⟨k - 1, by omega, rfl, fun i h1 h2 => ?_⟩
     by_cases hi : i = k - 1
     ·
      subst hi; have := beq_iff_eq.1 ht; rw [Wd.qz] at this; omega
     ·
      exact HZ.out i om h2
    case measure => simp [slen]; omega
   ·
    have ht : (((Wd.g l (k - 1) : Nat) : Int) == 0) = false := by assumption
    go_ret
    refine ⟨⟨k, rfl, ⟨k, hk, rfl, HZ.out, .inr ?_⟩, hk⟩, rfl⟩
    have := beq_eq_false_iff_ne.1 ht; rw [Wd.qz] at this; omega

theorem Nw {w w1 : World} (h : ∃ t, w1 = w.drewN t) (k : Nat) : ∃ t, w1.drewN k = w.drewN t := by
 obtain ⟨t, rfl⟩ := h
 exact ⟨t + k, by simp [World.drewN, Nat.add_assoc]⟩
theorem World.drewN_drewN (w : World) (a b : Nat) : (w.drewN a).drewN b = w.drewN (a + b) := by
 simp [World.drewN, Nat.add_assoc]
theorem Hf (Ax Ay : Option Addr) (cx cy : Nat) (xl yl : List Nat) (n m : Nat) (w : World) (hx : qo w Ax cx xl n) (hy : qo w Ay cy yl m) :
  Calls Tryz.prog 162 #[.slice Ax xl.length cx, .slice Ay yl.length cy] w fun e w' => e = .returned (.int .i64 (uk n m)) ∧ ∃ k, w' = w.drewN k := by
 have hx1 := hx.tu; have hx2 := hx.cap2; have hy1 := hy.tu; have hy2 := hy.cap2
 by_cases hl : xl.length = yl.length
 ·
  have hb : (((xl.length : Nat) : Int) != ((yl.length : Nat) : Int)) = false := by simp; omega
  go_enter Tryz.func162, Tryz.ntmps162
  go_wp2
  go_loopw [5] (fun iv wr => ∃ i : Int, -1 ≤ i ∧ i < xl.length ∧ iv = .int .i64 i ∧ Hid (∀ j : Nat, i < j → j < xl.length → xl.getD j 0 = yl.getD j 0) ∧ Hid (∃ t, wr = w.drewN t)) (fun iv _ => (intOf iv + 1).toNat)
  case atStart => exact ⟨(xl.length : Int) - 1, by omega, by omega, by go_num, fun j h1 h2 => by omega, ⟨0, rfl⟩⟩
  case round =>
   obtain ⟨i, hi1, hi2, rfl, hall, ht⟩ := hrel
   by_cases h0 : i < 0
   ·
    have hv : uk n m = 0 := by
     have : xl = yl := Wd.Nf xl yl hl (fun j hj => hall.out j om hj)
     rw [← hx.val, ← hy.val, this]
     unfold uk
     rw [if_neg om, if_neg om]
    have HV := Lib.hid hv
    clear hv hl
    go_wp2
    go_ret
    exact ⟨wy HV.out.symm, ht.out⟩
   ·
    obtain ⟨j, rfl⟩ := Int.eq_ofNat_of_zero_le (show 0 ≤ i by omega)
    have Vp : j < xl.length := by omega
    have hjy : j < yl.length := by omega
    obtain ⟨bx, ox, rfl, hbx, hcx⟩ := hx.ws om
    obtain ⟨by', oy, rfl, hby, hcy⟩ := hy.ws om
    have hsame : ∀ p, wr.cell? p = w.cell? p := fun p => by obtain ⟨t, rfl⟩ := ht.out; rfl
    have Eo := (hsame _).trans (hcx j Vp)
    have Pm := (hsame _).trans (hcy j hjy)
    clear hcx hcy hsame
    obtain ⟨xj, hxj⟩ : ∃ xj, xj = Wd.g xl j := ⟨_, rfl⟩
    obtain ⟨yj, hyj⟩ : ∃ yj, yj = Wd.g yl j := ⟨_, rfl⟩
    rw [← hxj] at Eo
    rw [← hyj] at Pm
    by_cases hlt : xj < yj
    ·
     have d1 : decide ((xj : Int) < (yj : Int)) = true := decide_eq_true om
     have d1' : decide (xj < yj) = true := decide_eq_true hlt
     have hv : uk n m = -1 := by
      rw [← hx.val, ← hy.val]
      unfold uk
      rw [if_pos (Wd.He xl yl hx.lt hl j Vp (fun t h1 h2 => hall.out t om h2) (by show Wd.g xl j < Wd.g yl j; omega))]
     have HV := Lib.hid hv
     clear hv hxj hyj hl hlt
     go_wp2_with fail
     go_quiet (fail)
     go_wp2_with fail
     go_ret
     exact ⟨wy HV.out.symm, by first | exact Nw (Nw ht.out _) _ | exact Nw ht.out _⟩
    ·
     have d1 : decide ((xj : Int) < (yj : Int)) = false := decide_eq_false om
     have d1' : decide (xj < yj) = false := decide_eq_false hlt
     by_cases hgt : yj < xj
     ·
      have d2 : decide ((yj : Int) < (xj : Int)) = true := decide_eq_true om
      have d2' : decide (yj < xj) = true := decide_eq_true hgt
      have hv : uk n m = 1 := by
       rw [← hx.val, ← hy.val]
       unfold uk
       have := Wd.He yl xl hy.lt hl.symm j hjy (fun t h1 h2 => (hall.out t om om).symm) (by show Wd.g yl j < Wd.g xl j; omega)
       rw [if_neg om, if_pos this]
      have HV := Lib.hid hv
      clear hv hxj hyj hl hlt hgt
      go_wp2_with fail
      go_quiet (fail)
      go_wp2_with fail
      go_quiet (fail)
      go_wp2_with fail
      go_ret
      exact ⟨wy HV.out.symm, by first | exact Nw (Nw ht.out _) _ | exact Nw ht.out _⟩
     ·
      have d2 : decide ((yj : Int) < (xj : Int)) = false := decide_eq_false om
      have d2' : decide (yj < xj) = false := decide_eq_false hgt
      have hnext : ∀ t : Nat, ((j : Int) - 1 < t) → t < xl.length → xl.getD t 0 = yl.getD t 0 := fun t h1 h2 => by
       by_cases ht : t = j
       ·
        subst ht; exact hxj.symm.trans ((show xj = yj by omega).trans hyj)
       ·
        exact hall.out t om h2
      have HN := hide hnext
      clear hnext hxj hyj hl hlt hgt
      go_wp2_with fail
      go_quiet (fail)
      go_wp2_with fail
      go_quiet (fail)
      go_wp2_with fail
      go_roundw
      case rel => exact ⟨(j : Int) - 1, by omega, by omega, by go_num, HN, by first | exact Nw (Nw ht.out _) _ | exact Nw ht.out _⟩
      case measure => simp [intOf] <;> omega
 ·
  have hb : (((xl.length : Nat) : Int) != ((yl.length : Nat) : Int)) = true := by simp; omega
  have ho : uk n m = if xl.length < yl.length then -1 else 1 := by
   unfold uk
   rw [← hx.val, ← hy.val]
   by_cases h : xl.length < yl.length
   ·
    rw [if_pos h, if_pos (Wd.zu Am xl yl hx.lt hy.norm h)]
   ·
    have := Wd.zu Am yl xl hy.lt hx.norm om
    rw [if_neg h, if_neg om, if_pos this]
  have HO := Lib.hid ho
  clear ho
  go_enter Tryz.func162, Tryz.ntmps162
  go_wp2
  all_goals
   go_ret
   refine ⟨wy ?_, ⟨0, rfl⟩⟩
   rw [HO.out]
  ·
   rw [if_pos om]
  ·
   rw [if_neg om]
end Go.Proofs.YtjdnmdlnaoedoaaGreatDoor
namespace Go.Proofs.YtjdnmdlnaoedoaaGreatDoor
open Go.RowKit

theorem aat : (Tryz.prog.info? 156).map (fun i => (i.zero, i.size, i.bytes)) = some (some (.int .u32 0), 1, 4) := by kernel_rfl
theorem aaj (n : Nat) (h : n ≤ 35184372088832) (w : World) : (Instr.makeSlice 59 (.int .i64 (n : Int)) (.int .i64 (n : Int))).run Tryz.prog w =
  .ok (.slice (some ⟨w.heap.size, 0, none⟩) n n) (w.alloc (.cells (wz .u32 (List.replicate n 0)) 156)) := by
 obtain ⟨i0, hi, hz0, hz1, hz2⟩ := info_parts aat
 have hr := run_make (P := Tryz.prog) w 59 156 i0 (.int .u32 0) Tryz.underlying59 hi hz0 .i64 .i64 n n om (Int.le_refl _) (by rw [hz2]; omega) om
 simp only [Int.toNat_natCast] at hr
 rw [hr, hz1, Ka]

theorem jf {a : Int} {c : Nat} (h : a = (c : Int)) (hc : c < fo) : IntKind.u64.wrap a = ((c : Nat) : Int) := by
 rw [IntKind.wrap_u64, h]; rw [ic] at hc; omega
theorem Cj (c : Nat) : IntKind.u32.wrap (c : Int) = ((c % eu : Nat) : Int) := by
 rw [IntKind.wrap_u32, gp]; omega

theorem akz (Ax Ay : Option Addr) (cx cy : Nat) (xl yl : List Nat) (n m : Nat) (w : World) (hx : qo w Ax cx xl n) (hy : qo w Ay cy yl m) (hk : xl.length + yl.length ≤ 35184372088832) :
  Calls Tryz.prog 164 #[.slice Ax xl.length cx, .slice Ay yl.length cy] w fun e w' => ank w (n * m) e w' := by
 have hmk := aaj (xl.length + yl.length) hk
 simp only [Int.natCast_add] at hmk
 have hx1 := hx.tu; have hx2 := hx.cap2; have hy1 := hy.tu; have hy2 := hy.cap2
 go_enter Tryz.func164, Tryz.ntmps164
 go_wp2
 go_loopw [6] (fun iv wr => ∃ (i : Nat) (zr : List Nat), i ≤ xl.length ∧ iv = .int .i64 ((i : Nat) : Int) ∧ Wd.Gx eu xl yl zr i ∧ ZB .u32 wr w.heap.size 156 zr ∧ Below w.heap.size w wr) (fun iv _ => xl.length - (intOf iv).toNat)
 case atStart => exact ⟨0, List.replicate (xl.length + yl.length) 0, Nat.zero_le _, rfl, Wd.Gx.start _ _ _ (by rw [gp]; omega) (by simp) (Nq _), heap_alloc_new w _, (Below.refl _ _).alloc (Nat.le_refl _) _⟩
 case round =>
  obtain ⟨i, zr, hi, rfl, hinv, mh, hg⟩ := hrel
  obtain ⟨wo, rfl⟩ : ∃ wo : World, wo = wr := ⟨_, rfl⟩
  have hlen := hinv.len
  have HI := Lib.hid hinv
  clear hinv
  by_cases hlt : i < xl.length
  ·
   obtain ⟨bx, ox, rfl, hbx, hcx⟩ := hx.ws om
   have bcb := hcx i hlt
   have HX := hide (And.intro hbx bcb)
   clear hcx bcb
   obtain ⟨xi, hxi⟩ : ∃ xi, xi = Wd.g xl i := ⟨_, rfl⟩
   rw [← hxi] at HX
   have yo : xi < eu := by rw [hxi]; exact Wd.getD_lt (by rw [gp]; omega) _ hx.lt i
   have HXI := Lib.hid hxi
   have HXB := hide yo
   clear hxi yo
   go_wp2_with fail
   go_loopw [7, 8] (fun cv jv wr => ∃ (j c : Nat) (zc : List Nat), j ≤ yl.length ∧ cv = .int .u64 ((c : Nat) : Int) ∧ jv = .int .i64 ((j : Nat) : Int) ∧ Wd.Fz eu zr yl zc i (Wd.g xl i) j c ∧ ZB .u32 wr w.heap.size 156 zc ∧ Below w.heap.size w wr) (fun _ jv _ => yl.length - (intOf jv).toNat)
   case atStart => exact ⟨0, 0, zr, Nat.zero_le _, rfl, rfl, Wd.Fz.start _ _ _ _ (by rw [gp]; omega) HI.out.lt, mh, hg⟩
   case round =>
    obtain ⟨j, c, zc, hj, rfl, rfl, Tv, hzc, hgc⟩ := hrel
    have Tw := Tv.len
    have HM := Lib.hid Tv
    clear Tv
    have Eo := (hgc.cell (p := ⟨bx, ox + i, none⟩) (aa HX).1).trans (aa HX).2
    by_cases hjl : j < yl.length
    ·
     obtain ⟨by', oy, rfl, hby, hcy⟩ := hy.ws om
     have Pm := (hgc.cell (p := ⟨by', oy + j, none⟩) hby).trans (hcy j hjl)
     clear hcy
     have Vl := hzc.cell (i + j) om
     have Pj := hzc.frozen (i + j)
     obtain ⟨yj, hyj⟩ : ∃ yj, yj = Wd.g yl j := ⟨_, rfl⟩
     obtain ⟨z, hz⟩ : ∃ z, z = Wd.g zc (i + j) := ⟨_, rfl⟩
     rw [← hyj] at Pm
     rw [← hz] at Vl
     have Ch : yj < eu := by rw [hyj]; exact Wd.getD_lt (by rw [gp]; omega) _ hy.lt j
     have Ib : z < eu := by rw [hz]; exact Wd.getD_lt (by rw [gp]; omega) _ HM.out.lt _
     have hbd := Wd.Lx (aa HXB) Ch HM.out.c1 Ib
     have hBB : eu * eu = fo := by rw [gp, ic]
     rw [hBB] at hbd
     obtain ⟨p, hp⟩ : ∃ t, t = xi * yj := ⟨_, rfl⟩
     obtain ⟨s, hs⟩ : ∃ t, t = p + z := ⟨_, rfl⟩
     obtain ⟨r, hr⟩ : ∃ t, t = c + s := ⟨_, rfl⟩
     obtain ⟨d, hd⟩ : ∃ t, t = r % eu := ⟨_, rfl⟩
     obtain ⟨q, hq⟩ : ∃ t, t = r / eu := ⟨_, rfl⟩
     rw [← hp] at hbd
     have e1 : IntKind.u64.wrap ((xi : Int) * (yj : Int)) = (p : Int) := jf (by rw [hp]; simp) om
     have e2 : IntKind.u64.wrap ((p : Int) + (z : Int)) = (s : Int) := jf (by rw [hs]; simp) om
     have e3 : IntKind.u64.wrap ((c : Int) + (s : Int)) = (r : Int) := jf (by rw [hr]; simp) om
     have e4 : IntKind.u32.wrap (r : Int) = (d : Int) := by rw [Cj, hd]
     have e4' : (r : Int) % 4294967296 = (d : Int) := by rw [hd, gp]; omega
     have b64 : ∀ t : Nat, t < eu → t < fo := fun t ht => by rw [gp] at ht; rw [ic]; omega
     have e6 : IntKind.u64.wrap (xi : Int) = (xi : Int) := jf rfl (b64 _ (aa HXB))
     have e7 : IntKind.u64.wrap (yj : Int) = (yj : Int) := jf rfl (b64 _ Ch)
     have e8 : IntKind.u64.wrap (z : Int) = (z : Int) := jf rfl (b64 _ Ib)
     have e5 : (r : Int) / 4294967296 = (q : Int) := by rw [hq, gp]; omega
     have hfin : ∀ t W, W = (wr.drewN t).setCell ⟨w.heap.size, i + j, none⟩ (.int .u32 (d : Int)) → Wd.Fz eu zr yl (zc.set (i + j) d) i (Wd.g xl i) (j + 1) q ∧ ZB .u32 W w.heap.size 156 (zc.set (i + j) d) ∧ Below w.heap.size w W := by
      rintro t W rfl
      refine ⟨?_, (hzc.drewN t).Dl _ _, (qb hgc t).setCell (by simp) _⟩
      have := HM.out.step Am (by rw [← HXI.out]; exact aa HXB) hy.lt om
      have e : r = Wd.g xl i * yl.getD j 0 + c + zc.getD (i + j) 0 := by
       rw [hr, hs, hp, HXI.out, hyj, hz]; show c + (Wd.g xl i * yl.getD j 0 + zc.getD (i + j) 0) = _; omega
      rw [hd, hq, e]
      exact this
     have HF := hide hfin
     clear hfin b64 hbd hBB hp hs hr hd hq hyj hz Ch Ib hzc hgc mh hg hlen Tw
     go_wp2_with fail
     go_quiet (fail)
     go_wp2_with fail
     go_roundw
     case rel =>
      obtain ⟨r1, r2, r3⟩ := (aa HF) _ _ rfl
      exact ⟨j + 1, q, zc.set (i + j) d, by omega, rfl, by go_num, r1, r2, r3⟩
     case measure => simp [intOf]; omega
    ·
     have e : j = yl.length := by omega
     subst e
     have Vl := hzc.cell (i + yl.length) om
     have Pj := hzc.frozen (i + yl.length)
     have hrow := HI.out.step hlt HM.out
     have HR := Lib.hid hrow
     have hc32 : (c : Int) % 4294967296 = (c : Int) := by have := HM.out.c1; rw [gp] at this; omega
     have bqj : IntKind.u32.wrap (c : Int) = (c : Int) := by rw [IntKind.wrap_u32]; exact hc32
     clear hrow
     have hfin : ∀ W, W = wr.setCell ⟨w.heap.size, i + yl.length, none⟩ (.int .u32 (c : Int)) → ZB .u32 W w.heap.size 156 (zc.set (i + yl.length) c) ∧ Below w.heap.size w W := by
      rintro W rfl
      exact ⟨hzc.Dl _ _, hgc.setCell (by simp) _⟩
     have HF := hide hfin
     clear hfin hzc hgc mh hg hlen Tw Eo
     go_wp2_with fail
     go_roundw
     case rel =>
      obtain ⟨r2, r3⟩ := (aa HF) _ rfl
      exact ⟨i + 1, zc.set (i + yl.length) c, by omega, by go_num, HR.out, r2, r3⟩
     case measure => simp [intOf]; omega
  ·
   have e : i = xl.length := by omega
   subst e
   have hlt2 := HI.out.lt
   have hv := HI.out.done
   rw [hx.val, hy.val] at hv
   have HV := Lib.hid hv
   have vo := hide hlt2
   clear hv hlt2
   go_wp2_with fail
   have htr := Ck (some ⟨w.heap.size, 0, none⟩) zr.length zr (wo.heap.size) wo (mh.Et _ mh.lt) (Nat.le_refl _) om
   rw [hlen] at htr
   refine htr.mono ?_
   rintro e w' ⟨⟨k, rfl, ht, hk2⟩, rfl⟩
   go_wp2_with fail
   go_ret
   have hk3 : k = (zr.take k).length := by simp; omega
   refine ⟨some ⟨w.heap.size, 0, none⟩, xl.length + yl.length, zr.take k, Fa hk3, ?_, hg⟩
   have := qo.Ct (cap := xl.length + yl.length) mh (aa vo) ht om om om
   rwa [HV.out] at this
end Go.Proofs.YtjdnmdlnaoedoaaGreatDoor
namespace Go.Proofs.YtjdnmdlnaoedoaaGreatDoor
open Go.RowKit

theorem Qu (a b : Nat) (ha : a < eu) (hb : b < eu) : Go.bits .or .u32 (a : Int) (b : Int) = ((a ||| b : Nat) : Int) := by
 rw [gp] at ha hb
 have hx : a ||| b < 2 ^ 32 := Nat.or_lt_two_pow om om
 have h1 : (BitVec.ofInt 32 (a : Int)).toNat = a := by
  rw [BitVec.ofInt_natCast, BitVec.toNat_ofNat]; exact Nat.mod_eq_of_lt om
 have h2 : (BitVec.ofInt 32 (b : Int)).toNat = b := by
  rw [BitVec.ofInt_natCast, BitVec.toNat_ofNat]; exact Nat.mod_eq_of_lt om
 show IntKind.u32.wrap ((BitVec.ofInt 32 (a : Int) ||| BitVec.ofInt 32 (b : Int)).toNat : Int) = _
 rw [BitVec.toNat_or, h1, h2, IntKind.wrap_u32]
 omega
theorem De (s : Nat) (hs : s ≤ 32) : 2 ^ s * 2 ^ (32 - s) = eu := by
 rw [← Nat.pow_add, show s + (32 - s) = 32 by omega]; rfl
theorem aon {m s : Nat} (hm : m < eu) (hs : s < 32) : m * 2 ^ s < fo := by
 have h1 : 2 ^ s < 2 ^ 32 := Nat.pow_lt_pow_right om hs
 have h2 : m * 2 ^ s ≤ m * 2 ^ 32 := Nat.mul_le_mul_left _ om
 rw [gp] at hm; rw [ic]; omega
theorem aom {m s : Nat} (hs : s < 32) : m * 2 ^ s % eu = m % 2 ^ (32 - s) * 2 ^ s ∧ m * 2 ^ s / eu = m / 2 ^ (32 - s) := by
 rw [← De s om, Nat.mul_comm (2 ^ s), Nat.mul_mod_mul_right]
 exact ⟨rfl, Nat.mul_div_mul_right _ _ (Nat.pow_pos om)⟩

def blp (w : World) (xl : List Nat) (v : Nat) (e : Ending) (w' : World) : Prop :=
 ∃ zr, e = .returned (.slice (some ⟨w.heap.size, 0, none⟩) (xl.length + 1) (xl.length + 1)) ∧ zr.length = xl.length + 1 ∧ (∀ x ∈ zr, x < eu) ∧ Wd.val eu zr = v ∧ ZB .u32 w' w.heap.size 156 zr ∧ Below w.heap.size w w'

theorem aiu (Ax : Option Addr) (cx : Nat) (xl : List Nat) (n s : Nat) (w : World) (hx : qo w Ax cx xl n) (hs : s < 32) (hk : xl.length + 1 ≤ 35184372088832) :
  Calls Tryz.prog 184 #[.slice Ax xl.length cx, .int .u64 ((s : Nat) : Int)] w fun e w' => blp w xl (n * 2 ^ s) e w' := by
 have hmk := aaj (xl.length + 1) hk
 simp only [Int.natCast_add, Int.cast_ofNat_Int] at hmk
 have hx1 := hx.tu; have hx2 := hx.cap2
 go_enter Tryz.func184, Tryz.ntmps184
 go_wp2
 go_loopw [6] (fun iv wr => ∃ (i : Nat) (zr : List Nat), i ≤ xl.length ∧ iv = .int .i64 ((i : Nat) : Int) ∧ Hid (Wd.Ew eu (2 ^ s) xl zr i) ∧ ZB .u32 wr w.heap.size 156 zr ∧ Below w.heap.size w wr) (fun iv _ => xl.length - (intOf iv).toNat)
 case atStart => exact ⟨0, List.replicate (xl.length + 1) 0, Nat.zero_le _, rfl, Wd.Ew.start _ _ (Nat.pow_pos om) (by rw [gp]; omega) (by simp) (Nq _), heap_alloc_new w _, (Below.refl _ _).alloc (Nat.le_refl _) _⟩
 case round =>
  obtain ⟨i, zr, hi, rfl, HI, mh, hg⟩ := hrel
  have hlen := HI.out.len
  by_cases hlt : i < xl.length
  ·
   obtain ⟨bx, ox, rfl, hbx, hcx⟩ := hx.ws om
   have Eo := (hg.cell (p := ⟨bx, ox + i, none⟩) hbx).trans (hcx i hlt)
   clear hcx
   have hzc := mh.cell i om
   have Pj := mh.frozen i
   have bjv := mh.cell (i + 1) om
   have bby := mh.frozen (i + 1)
   obtain ⟨m, hm⟩ : ∃ m, m = Wd.g xl i := ⟨_, rfl⟩
   obtain ⟨z, hz⟩ : ∃ z, z = Wd.g zr i := ⟨_, rfl⟩
   rw [← hm] at Eo
   rw [← hz] at hzc
   have Kj : m < eu := by rw [hm]; exact Wd.getD_lt (by rw [gp]; omega) _ hx.lt i
   have Ib : z < eu := by rw [hz]; exact Wd.getD_lt (by rw [gp]; omega) _ HI.out.lt i
   have hzS : z < 2 ^ s := by rw [hz]; exact HI.out.low
   obtain ⟨x, Fg⟩ : ∃ x, x = m * 2 ^ s := ⟨_, rfl⟩
   obtain ⟨p, hp⟩ : ∃ p, p = x % eu := ⟨_, rfl⟩
   obtain ⟨r, hr⟩ : ∃ r, r = z + p := ⟨_, rfl⟩
   obtain ⟨q, hq⟩ : ∃ q, q = x / eu := ⟨_, rfl⟩
   have Be := aom (m := m) hs
   rw [← Fg, ← hp, ← hq] at Be
   have Rv : p < eu := by rw [hp]; exact Nat.mod_lt _ (by rw [gp]; omega)
   have Nk : q < eu := by rw [hq, Nat.div_lt_iff_lt_mul (by rw [gp]; omega)]; have := aon Kj hs; rw [Fg, gp]; rw [ic] at this; omega
   have e0 : IntKind.u64.wrap (m : Int) = (m : Int) := jf rfl (by rw [gp] at Kj; rw [ic]; omega)
   have e1 : IntKind.u64.wrap ((m : Int) * 2 ^ s) = (x : Int) := jf (by rw [Fg]; simp) (by rw [Fg]; exact aon Kj hs)
   have e2 : Go.bits .or .u32 (z : Int) (p : Int) = (r : Int) := by
    rw [Qu z p Ib Rv, hr, Be.1, Oi hzS]
   have e3 : (x : Int) / 4294967296 = (q : Int) := by rw [hq, gp]; omega
   have e4 : (x : Int) % 4294967296 = (p : Int) := by rw [hp, gp]; omega
   have e5 : (q : Int) % 4294967296 = (q : Int) := by rw [gp] at Nk; omega
   have e6 : IntKind.u32.wrap (x : Int) = (p : Int) := by rw [Cj, hp]
   have e7 : IntKind.u32.wrap (q : Int) = (q : Int) := by rw [IntKind.wrap_u32]; exact e5
   have hfin : ∀ W, W = (wr.setCell ⟨w.heap.size, i, none⟩ (.int .u32 (r : Int))).setCell ⟨w.heap.size, i + 1, none⟩ (.int .u32 (q : Int)) → Hid (Wd.Ew eu (2 ^ s) xl ((zr.set i r).set (i + 1) q) (i + 1)) ∧ ZB .u32 W w.heap.size 156 ((zr.set i r).set (i + 1) q) ∧ Below w.heap.size w W := by
    rintro W rfl
    refine ⟨?_, (mh.Dl _ _).Dl _ _, (hg.setCell (by simp) _).setCell (by simp) _⟩
    have := HI.out.step (De s om) (Nat.pow_pos om) hlt (by rw [← Wd.qz, ← hm]; exact Kj)
    rw [hr, Be.1, Be.2, hm, hz]
    exact this
   have HF := hide hfin
   clear hfin Be hp hr hq hm hz hzS mh hg Fg Rv Nk Kj Ib
   go_wp2_with fail
   go_roundw
   case rel =>
    obtain ⟨r1, r2, r3⟩ := (aa HF) _ rfl
    exact ⟨i + 1, _, by omega, by go_num, r1, r2, r3⟩
   case measure => simp [intOf] <;> omega
  ·
   have e : i = xl.length := by omega
   subst e
   have hv := HI.out.done
   rw [hx.val] at hv
   have HV := Lib.hid hv
   clear hv
   go_wp2_with fail
   go_ret
   exact ⟨zr, rfl, hlen, HI.out.lt, HV.out, mh, hg⟩
end Go.Proofs.YtjdnmdlnaoedoaaGreatDoor
namespace Go.Proofs.YtjdnmdlnaoedoaaGreatDoor
namespace Wd

structure Zk (B top head Q q r : Nat) : Prop where
 eq : q * top + r = head
 ge : Q ≤ q
 lt : q < B
theorem Zk.step {B top next head d Q q r : Nat} (hQ : Q * (top * B + next) ≤ head * B + d) (h : Zk B top head Q q r) (hlt : r * B + d < q * next) : 1 ≤ q ∧ Zk B top head Q (q - 1) (r + top) := by
 have h1 : Q < q := by
  rcases Nat.lt_or_ge Q q with h1 | h1
  ·
   exact h1
  ·
   have h2 : q * (top * B + next) ≤ Q * (top * B + next) := Nat.mul_le_mul_right _ h1
   have h3 : q * (top * B + next) = q * top * B + q * next := by rw [Nat.mul_add, Nat.mul_assoc]
   have h4 : head * B = q * top * B + r * B := by rw [← h.eq, Nat.add_mul]
   omega
 have he := h.eq
 obtain ⟨p, rfl⟩ : ∃ p, q = p + 1 := ⟨q - 1, by omega⟩
 refine ⟨by omega, ⟨?_, by omega, by have := h.lt; omega⟩⟩
 rw [Nat.add_sub_cancel]
 rw [Nat.add_mul, Nat.one_mul] at he
 omega
theorem Zk.fits {B top next head d Q q r : Nat} (hn : next < B) (h : Zk B top head Q q r) (hs : B ≤ r ∨ q * next ≤ r * B + d) : q * (top * B + next) ≤ head * B + d := by
 have h3 : q * (top * B + next) = q * top * B + q * next := by rw [Nat.mul_add, Nat.mul_assoc]
 have h4 : head * B = q * top * B + r * B := by rw [← h.eq, Nat.add_mul]
 have h5 : q * next ≤ r * B + d := by
  rcases hs with h1 | h1
  ·
   have h6 : q * next ≤ B * B := Nat.mul_le_mul (Nat.le_of_lt h.lt) (Nat.le_of_lt hn)
   have h7 : B * B ≤ r * B := Nat.mul_le_mul_right _ h1
   omega
  ·
   exact h1
 omega
theorem aqn {B P X Y U3 Yt Q q : Nat} (hP : 0 < P) (hX : U3 * P ≤ X) (hY : Y < (Yt + 1) * P) (hY0 : 0 < Y) (hQ : Q = X / Y) (hq : q * Yt ≤ U3) (hB : q ≤ Yt) : q ≤ Q + 1 := by
 rcases Nat.eq_zero_or_pos q with h | h
 ·
  omega
 obtain ⟨p, rfl⟩ : ∃ p, q = p + 1 := ⟨q - 1, by omega⟩
 suffices p ≤ Q by omega
 rw [hQ, Nat.le_div_iff_mul_le hY0]
 have h1 : p * Y ≤ p * ((Yt + 1) * P) := Nat.mul_le_mul_left _ (Nat.le_of_lt hY)
 have h2 : p * ((Yt + 1) * P) = (p * Yt + p) * P := by rw [← Nat.mul_assoc, Nat.mul_add, Nat.mul_one]
 have h3 : (p * Yt + p) * P ≤ ((p + 1) * Yt) * P := Nat.mul_le_mul_right _ (by rw [Nat.add_mul]; omega)
 have h4 : (p + 1) * Yt * P ≤ U3 * P := Nat.mul_le_mul_right _ hq
 omega

structure Py (B : Nat) (ul vl zc : List Nat) (q i c b : Nat) : Prop where
 len : zc.length = ul.length
 same : ∀ j, i ≤ j → zc.getD j 0 = ul.getD j 0
 lt : ∀ x ∈ zc, x < B
 eq : val B (zc.take i) + q * val B (vl.take i) = val B (ul.take i) + B ^ i * (c + b)
 c1 : c < B
 b1 : b ≤ 1
theorem Py.start {B : Nat} (ul vl : List Nat) (q : Nat) (hB : 0 < B) (h : ∀ x ∈ ul, x < B) : Py B ul vl ul q 0 0 0 := ⟨rfl, fun _ _ => rfl, h, by simp [val], hB, by omega⟩
theorem Py.step {B : Nat} {ul vl zc : List Nat} {q i c b d b' t : Nat} (h : Py B ul vl zc q i c b) (hi : i < ul.length) (ht : t = c + q * vl.getD i 0) (Ul : t < B * B) (hd : d < B) (hb : b' ≤ 1)
  (e : d + t % B + b = ul.getD i 0 + B * b') : Py B ul vl (zc.set i d) q (i + 1) (t / B) b' := by
 have hlen := h.len
 have hB : 0 < B := by omega
 refine ⟨by simp [hlen], fun j hj => ?_, Bd _ _ _ h.lt hd, ?_, ?_, hb⟩
 ·
  rw [Ei _ _ _ _ om, h.same j om]
 ·
  rw [Ai _ _ _ om, Bi, mi, mi, List.length_take, Nat.min_eq_left om, Nat.pow_succ]
  have he := h.eq
  have Ci := Nat.div_add_mod t B
  generalize B ^ i = P at *
  generalize val B (zc.take i) = Z at *
  generalize val B (vl.take i) = V at *
  generalize val B (ul.take i) = U at *
  generalize vl.getD i 0 = y at *
  generalize ul.getD i 0 = x at *
  generalize t / B = hi at *
  generalize t % B = lo at *
  have k1 : P * d + P * lo + P * b = P * x + P * (B * b') := by rw [← Nat.mul_add, ← Nat.mul_add, e, Nat.mul_add]
  have k2 : P * (B * hi) + P * lo = P * c + P * (q * y) := by rw [← Nat.mul_add, Ci, ht, Nat.mul_add]
  rw [Nat.mul_add] at he
  rw [Nat.mul_add, Nat.mul_add, show q * (P * y) = P * (q * y) by simp only [Nat.mul_left_comm], Nat.mul_assoc, Nat.mul_assoc]
  omega
 ·
  rw [Nat.div_lt_iff_lt_mul hB]; exact Ul
theorem Py.done {B : Nat} {ul vl zc : List Nat} {q b : Nat} (h : Py B ul vl zc q ul.length 0 b) (hv : vl.length ≤ ul.length) : val B zc + q * val B vl = val B ul + B ^ ul.length * b := by
 have e := h.eq
 have hl := h.len
 rwa [jk _ zc _ om, jk _ vl _ hv, jk _ _ _ (Nat.le_refl _), Nat.zero_add] at e
end Wd
end Go.Proofs.YtjdnmdlnaoedoaaGreatDoor
namespace Go.Proofs.YtjdnmdlnaoedoaaGreatDoor
open Go.RowKit

structure StepT (ul vl zr : List Nat) (q : Nat) : Prop where
 len : zr.length = ul.length
 lt : ∀ x ∈ zr, x < eu
 quo : q = Wd.val eu ul / Wd.val eu vl
 rem : Wd.val eu zr = Wd.val eu ul % Wd.val eu vl

theorem aey {x lo b s1 s2 : Nat} (hx : x < eu) (hlo : lo < eu) (hb : b ≤ 1) (h1 : (s1 : Int) = ((x : Int) - (lo : Int)) % 18446744073709551616) (h2 : (s2 : Int) = ((s1 : Int) - (b : Int)) % 18446744073709551616) :
  s2 % eu < eu ∧ s2 / 9223372036854775808 ≤ 1 ∧ s2 % eu + lo + b = x + eu * (s2 / 9223372036854775808) := by
 rw [gp] at *
 omega
theorem bat {B : Nat} (hB : 0 < B) (l : List Nat) (n : Nat) (hn : 2 ≤ n) (hl : l.length = n + 1) (hlt : ∀ x ∈ l, x < B) :
  ((l.getD n 0 * B + l.getD (n - 1) 0) * B + l.getD (n - 2) 0) * B ^ (n - 2) ≤ Wd.val B l ∧ Wd.val B l < ((l.getD n 0 * B + l.getD (n - 1) 0) * B + l.getD (n - 2) 0 + 1) * B ^ (n - 2) := by
 have h1 := Wd.qp B l n om
 rw [Wd.jk _ _ _ om] at h1
 have h2 := Wd.qp B l (n - 1) om
 rw [show n - 1 + 1 = n by omega] at h2
 have h2' := Wd.qp B l (n - 2) om
 rw [show n - 2 + 1 = n - 1 by omega] at h2'
 have h3 := Wd.Cf (B := B) (l.take (n - 2)) (fun x hx => hlt x (List.mem_of_mem_take hx))
 rw [List.length_take, Nat.min_eq_left om] at h3
 have e : B ^ n = B ^ (n - 2) * B * B := by rw [← Nat.pow_succ, ← Nat.pow_succ, show (n - 2).succ.succ = n by omega]
 have e' : B ^ (n - 1) = B ^ (n - 2) * B := by rw [← Nat.pow_succ, show (n - 2).succ = n - 1 by omega]
 rw [h1, h2, h2', e, e']
 generalize B ^ (n - 2) = P at *
 generalize l.getD n 0 = a at *
 generalize l.getD (n - 1) 0 = b at *
 generalize l.getD (n - 2) 0 = c at *
 have k1 : ((a * B + b) * B + c) * P = P * B * B * a + P * B * b + P * c := by
  simp only [Nat.add_mul, Nat.mul_add, Nat.mul_comm, Nat.mul_left_comm, Nat.mul_assoc]
 rw [Nat.add_mul _ 1 P, Nat.one_mul, k1]
 omega
theorem alb {B : Nat} (l : List Nat) (n : Nat) (hn : 2 ≤ n) (hl : l.length = n) (hlt : ∀ x ∈ l, x < B) :
  (l.getD (n - 1) 0 * B + l.getD (n - 2) 0) * B ^ (n - 2) ≤ Wd.val B l ∧ Wd.val B l < (l.getD (n - 1) 0 * B + l.getD (n - 2) 0 + 1) * B ^ (n - 2) := by
 have h2 := Wd.qp B l (n - 1) om
 rw [show n - 1 + 1 = n by omega, Wd.jk _ _ _ om] at h2
 have h2' := Wd.qp B l (n - 2) om
 rw [show n - 2 + 1 = n - 1 by omega] at h2'
 have h3 := Wd.Cf (B := B) (l.take (n - 2)) (fun x hx => hlt x (List.mem_of_mem_take hx))
 rw [List.length_take, Nat.min_eq_left om] at h3
 have e' : B ^ (n - 1) = B ^ (n - 2) * B := by rw [← Nat.pow_succ, show (n - 2).succ = n - 1 by omega]
 rw [h2, h2', e']
 generalize B ^ (n - 2) = P at *
 generalize l.getD (n - 1) 0 = b at *
 generalize l.getD (n - 2) 0 = c at *
 have k1 : (b * B + c) * P = P * B * b + P * c := by
  simp only [Nat.add_mul, Nat.mul_add, Nat.mul_comm, Nat.mul_left_comm, Nat.mul_assoc]
 rw [Nat.add_mul _ 1 P, Nat.one_mul, k1]
 omega
theorem afq {a z : Nat} (ha : a < eu) (hz : z < eu) : Go.bits .or .u64 ((a * eu : Nat) : Int) (z : Int) = ((a * eu + z : Nat) : Int) := by
 have h := Oi (z := z) (a := a) (s := 32) (by rw [gp] at hz; omega)
 rw [bits_or_u64_nat _ _ (by rw [gp] at *; omega) (by rw [gp] at *; omega), Nat.or_comm, gp]
 rw [show (2 : Nat) ^ 32 = 4294967296 from rfl] at h
 rw [h, Nat.add_comm]

structure Jq (ul vl : List Nat) (n : Nat) : Prop where
 n2 : 2 ≤ n
 Ph : vl.length = n
 Cw : ul.length = n + 1
 ltu : ∀ x ∈ ul, x < eu
 ltv : ∀ x ∈ vl, x < eu
 top : vl.getD (n - 1) 0 ≠ 0
 pre : Wd.val eu ul < eu * Wd.val eu vl
theorem Jq.start {ul vl : List Nat} {n head top : Nat} (h : Jq ul vl n) (hh : head = ul.getD n 0 * eu + ul.getD (n - 1) 0) (ht : top = vl.getD (n - 1) 0) :
  Wd.Zk eu top head (Wd.val eu ul / Wd.val eu vl) (min (head / top) 4294967295) (head - min (head / top) 4294967295 * top) ∧ min (head / top) 4294967295 * top ≤ head := by
 have hB : 0 < eu := by rw [gp]; omega
 have hV := (alb vl n h.n2 h.Ph h.ltv).1
 have hU := bau hB ul n (by have := h.n2; omega) h.Cw h.ltu
 have h1 := asl (B := eu) vl n (by have := h.n2; omega) h.Ph
 rw [← ht] at h1
 rw [← hh] at hU
 have ht0 : 0 < top := by rw [ht]; exact Nat.pos_of_ne_zero h.top
 have Jp : 0 < Wd.val eu vl := by
  have h2 : 0 < eu ^ (n - 1) := Nat.pow_pos hB
  have := Nat.mul_pos ht0 h2; omega
 have hQ : Wd.val eu ul / Wd.val eu vl * top ≤ head := Wd.Zh h1 hU (Nat.div_mul_le_self _ _)
 have hQB : Wd.val eu ul / Wd.val eu vl < eu := by rw [Nat.div_lt_iff_lt_mul Jp]; exact h.pre
 have hle : min (head / top) 4294967295 * top ≤ head := Nat.le_trans (Nat.mul_le_mul_right _ (Nat.min_le_left _ _)) (Nat.div_mul_le_self _ _)
 refine ⟨⟨Nat.add_sub_of_le hle, ?_, ?_⟩, hle⟩
 ·
  rw [Nat.le_min]
  exact ⟨(Nat.le_div_iff_mul_le ht0).2 hQ, Nat.le_of_lt_succ (by rw [gp] at hQB; exact hQB)⟩
 ·
  exact Nat.lt_of_le_of_lt (Nat.min_le_right (head / top) 4294967295) (by rw [gp]; omega)
theorem Jq.low {ul vl : List Nat} {n : Nat} (h : Jq ul vl n) : Wd.val eu ul / Wd.val eu vl * (vl.getD (n - 1) 0 * eu + vl.getD (n - 2) 0) ≤ (ul.getD n 0 * eu + ul.getD (n - 1) 0) * eu + ul.getD (n - 2) 0 := by
 have hB : 0 < eu := by rw [gp]; omega
 exact Wd.Zh (alb vl n h.n2 h.Ph h.ltv).1 (bat hB ul n h.n2 h.Cw h.ltu).2 (Nat.div_mul_le_self _ _)
theorem Jq.one {ul vl : List Nat} {n q : Nat} (h : Jq ul vl n) (hq : q * (vl.getD (n - 1) 0 * eu + vl.getD (n - 2) 0) ≤ (ul.getD n 0 * eu + ul.getD (n - 1) 0) * eu + ul.getD (n - 2) 0) (hlt : q < eu) : q ≤ Wd.val eu ul / Wd.val eu vl + 1 := by
 have hB : 0 < eu := by rw [gp]; omega
 have ht0 : 1 ≤ vl.getD (n - 1) 0 := Nat.pos_of_ne_zero h.top
 have h1 : 1 * eu ≤ vl.getD (n - 1) 0 * eu := Nat.mul_le_mul_right _ ht0
 have hV := (alb vl n h.n2 h.Ph h.ltv)
 have hP : 0 < eu ^ (n - 2) := Nat.pow_pos hB
 have Jp : 0 < Wd.val eu vl := by
  have := Nat.mul_pos (show 0 < vl.getD (n - 1) 0 * eu + vl.getD (n - 2) 0 by omega) hP; omega
 exact Wd.aqn (B := eu) hP (bat hB ul n h.n2 h.Cw h.ltu).1 hV.2 Jp rfl hq om
end Go.Proofs.YtjdnmdlnaoedoaaGreatDoor
namespace Go.Proofs.YtjdnmdlnaoedoaaGreatDoor
open Go.RowKit

theorem akt (b off cap T n : Nat) (us ul vl : List Nat) (Av : Option Addr) (cv : Nat) (B top next : Nat) (w : World)
  (hz : ZB .u32 w b T us) (hoff : off + ul.length ≤ us.length) (Mi : ul = (us.drop off).take ul.length) (hcz : ul.length ≤ cap) (agv : cap ≤ 9223372036854775807)
  (hv : Ws .u32 w B Av vl) (hB : ∀ bv ov, Av = some ⟨bv, ov, none⟩ → bv ≠ b) (hBw : B ≤ w.heap.size) (hcv : vl.length ≤ cv) (amm : cv ≤ 9223372036854775807) (hp : Jq ul vl n) (htop : top = Wd.g vl (n - 1)) (hnext : next = Wd.g vl (n - 2)) :
  Calls Tryz.prog 185 #[.slice (some ⟨b, off, none⟩) (n + 1) cap, .slice Av n cv, .int .u64 ((top : Nat) : Int), .int .u64 ((next : Nat) : Int)] w fun e w' =>
   ∃ zr q, e = .returned (.int .u32 ((q : Nat) : Int)) ∧ StepT ul vl zr q ∧ q < eu ∧ ZB .u32 w' b T (win us off zr) ∧ w.grownBy w' (some b) := by
 have hB0 : 0 < eu := by rw [gp]; omega
 have hn2 := hp.n2; have Gu := hp.Ph; have huv := hp.Cw
 obtain ⟨bv, ov, hA, hbv, agw⟩ := hv om
 subst hA
 have hgw : ∀ i, i < ul.length → Wd.g us (off + i) = Wd.g ul i := fun i hi => by
  have h := Lh us off ul hoff i hi
  rwa [show win us off ul = us by rw [Mi]; exact Kl us off _ hoff] at h
 have hu0 := hz.cell (off + n) om
 have hu1 := hz.cell (off + (n - 1)) om
 have hu2 := hz.cell (off + (n - 2)) om
 rw [hgw n om] at hu0
 rw [hgw (n - 1) om] at hu1
 rw [hgw (n - 2) om] at hu2
 obtain ⟨x0, hx0⟩ : ∃ t, t = Wd.g ul n := ⟨_, rfl⟩
 obtain ⟨x1, hx1⟩ : ∃ t, t = Wd.g ul (n - 1) := ⟨_, rfl⟩
 obtain ⟨x2, hx2⟩ : ∃ t, t = Wd.g ul (n - 2) := ⟨_, rfl⟩
 rw [← hx0] at hu0
 rw [← hx1] at hu1
 rw [← hx2] at hu2
 have b0 : x0 < eu := by rw [hx0]; exact Wd.getD_lt hB0 _ hp.ltu _
 have b1 : x1 < eu := by rw [hx1]; exact Wd.getD_lt hB0 _ hp.ltu _
 have b2 : x2 < eu := by rw [hx2]; exact Wd.getD_lt hB0 _ hp.ltu _
 have bt : top < eu := by rw [htop]; exact Wd.getD_lt hB0 _ hp.ltv _
 have bn : next < eu := by rw [hnext]; exact Wd.getD_lt hB0 _ hp.ltv _
 obtain ⟨hh, hhh⟩ : ∃ t, t = x0 * eu := ⟨_, rfl⟩
 obtain ⟨head, hhead⟩ : ∃ t, t = x0 * eu + x1 := ⟨_, rfl⟩
 obtain ⟨gq, hgq⟩ : ∃ t, t = head / top := ⟨_, rfl⟩
 obtain ⟨q0, hq0⟩ : ∃ t, t = min gq 4294967295 := ⟨_, rfl⟩
 obtain ⟨qt, hqt⟩ : ∃ t, t = q0 * top := ⟨_, rfl⟩
 obtain ⟨r0, hr0⟩ : ∃ t, t = head - qt := ⟨_, rfl⟩
 obtain ⟨Q, hQ⟩ : ∃ t, t = Wd.val eu ul / Wd.val eu vl := ⟨_, rfl⟩
 have hst := hp.start (head := head) (top := top) (by rw [hhead, hx0, hx1]; rfl) (by rw [htop]; rfl)
 rw [← hgq, ← hq0, ← hQ, ← hqt, ← hr0] at hst
 have hlow := hp.low
 rw [← hQ, ← Wd.qz, ← Wd.qz, ← Wd.qz, ← Wd.qz, ← Wd.qz, ← htop, ← hnext, ← hx0, ← hx1, ← hx2, ← hhead] at hlow
 have hone : ∀ q, q * (top * eu + next) ≤ head * eu + x2 → q < eu → q ≤ Q + 1 := fun q h1 h2 => by
  have := hp.one (q := q) (by rw [← Wd.qz, ← Wd.qz, ← Wd.qz, ← Wd.qz, ← Wd.qz, ← htop, ← hnext, ← hx0, ← hx1, ← hx2, ← hhead]; exact h1) h2
  rwa [← hQ] at this
 have ht0 : 0 < top := by rw [htop]; exact Nat.pos_of_ne_zero hp.top
 have b64 : ∀ t : Nat, t < eu → t < fo := fun t ht => by rw [gp] at ht; rw [ic]; omega
 have aql : head < fo := by rw [hhead]; rw [gp] at *; rw [ic]; omega
 have e0 : IntKind.u64.wrap (x0 : Int) = (x0 : Int) := jf rfl (b64 _ b0)
 have e1 : IntKind.u64.wrap (x1 : Int) = (x1 : Int) := jf rfl (b64 _ b1)
 have e2 : IntKind.u64.wrap (x2 : Int) = (x2 : Int) := jf rfl (b64 _ b2)
 have e3 : IntKind.u64.wrap ((x0 : Int) * 4294967296) = (hh : Int) := jf (by rw [hhh, gp]; simp) (by rw [hhh]; rw [gp] at *; rw [ic]; omega)
 have e4 : Go.bits .or .u64 (hh : Int) (x1 : Int) = (head : Int) := by rw [hhh, afq b0 b1, hhead]
 have e5 : (head : Int).tdiv (top : Int) = (gq : Int) := by rw [hgq]; exact (Int.ofNat_tdiv _ _).symm
 have e5w : IntKind.u64.wrap (gq : Int) = (gq : Int) := jf rfl (by have := Nat.div_le_self head top; omega)
 have e6 : min (gq : Int) 4294967295 = (q0 : Int) := by rw [hq0]; omega
 have e7 : IntKind.u64.wrap ((q0 : Int) * (top : Int)) = (qt : Int) := jf (by rw [hqt]; simp) (by have := hst.2; omega)
 have e8 : IntKind.u64.wrap ((head : Int) - (qt : Int)) = (r0 : Int) := jf (by have := hst.2; rw [hr0]; omega) (by rw [hr0]; omega)
 have e9 : ((top : Int) == 0) = false := beq_eq_false_iff_ne.2 om
 have e9' : ¬ ((top : Int) = 0) := by omega
 have bkz : ¬ (top = 0) := by omega
 have f1 : IntKind.i64.wrap ((n : Int) - 1) = (n : Int) - 1 := IntWalk.i64_in _ om
 have f2 : (0 : Int) ≤ (n : Int) - 1 := by omega
 have f3 : ((n : Int) - 1).toNat = n - 1 := by omega
 have f4 : IntKind.i64.wrap ((n : Int) - 2) = (n : Int) - 2 := IntWalk.i64_in _ om
 have f5 : (0 : Int) ≤ (n : Int) - 2 := by omega
 have f6 : ((n : Int) - 2).toNat = n - 2 := by omega
 have HB2 := hide (And.intro b2 bn)
 have HST := hide hst; have bfh := hide hlow; have bfg := hide hone; have HQ := Lib.hid hQ; have HP := hide hp
 have HGW := hide hgw; have HZ := hide hz; have HV := hide hv; have HT := hide (And.intro bt aql); have Wx := hide b64
 have HWU := Lib.hid (show win us off ul = us by rw [Mi]; exact Kl us off _ hoff)
 have acp := hide hoff; have HCV := hide agw; have HBB := hide (And.intro (hB bv ov rfl) (Nat.lt_of_lt_of_le hbv hBw))
 have hlen1 : n + 1 ≤ cap := by omega
 have Tw : n ≤ cv := by omega
 clear hst hlow hone hQ hp hgw Mi hx0 hx1 hx2 b0 b1 b2 bt bn hhh hhead hgq hq0 hqt hr0 ht0 b64 aql htop hnext hoff hcz hcv Gu huv agw hz hv hB0 hB hbv hBw
 go_enter Tryz.func185, Tryz.ntmps185
 go_wp2_with fail
 go_quiet (fail)
 go_upto_block 0 with (fail)
 go_cut [11] (fun qv wx => ∃ q : Nat, qv = .int .u64 ((q : Nat) : Int) ∧ Hid (Q ≤ q ∧ q ≤ Q + 1 ∧ q < eu) ∧ ∃ t, wx = w.drewN t)
 case first =>
  have HL := bfh
  go_wp2_with fail
  go_loop [11, 12] (fun qv rv => ∃ q r : Nat, qv = .int .u64 ((q : Nat) : Int) ∧ rv = .int .u64 ((r : Nat) : Int) ∧ Hid (r < fo) ∧ Hid (Wd.Zk eu top head Q q r)) (fun qv _ => (intOf qv).toNat)
  case atStart => exact ⟨q0, r0, rfl, rfl, show r0 < fo by have h1 := (aa HST).1.eq; have h2 := (aa HT).2; omega, (aa HST).1⟩
  case round =>
   obtain ⟨q, r, rfl, rfl, hr, HI⟩ := hrel
   by_cases hb : eu ≤ r
   ·
    have d1 : decide ((r : Int) < 4294967296) = false := decide_eq_false (by rw [gp] at hb; omega)
    have hfits := (aa HI).fits (aa HB2).2 (d := x2) (.inl hb)
    have hres : Q ≤ q ∧ q ≤ Q + 1 ∧ q < eu := ⟨(aa HI).ge, (aa bfg) q hfits (aa HI).lt, (aa HI).lt⟩
    have HR := hide hres
    clear hfits hres hb
    go_wp2_with fail
    go_meet
    exact ⟨q, rfl, HR, _, rfl⟩
   ·
    have d1 : decide ((r : Int) < 4294967296) = true := decide_eq_true (by rw [gp] at hb; omega)
    have Ru : r < eu := by omega
    obtain ⟨p, Be⟩ : ∃ t, t = q * next := ⟨_, rfl⟩
    obtain ⟨rs, hrs⟩ : ∃ t, t = r * eu := ⟨_, rfl⟩
    obtain ⟨ro, hro⟩ : ∃ t, t = r * eu + x2 := ⟨_, rfl⟩
    have Rv : p < fo := by
     have h1 := (aa HI).lt
     have h2 := (aa HB2).2
     have h3 : q * next ≤ 4294967295 * 4294967295 := Nat.mul_le_mul (by rw [gp] at h1; omega) (by rw [gp] at h2; omega)
     rw [Be, ic]; omega
    have g1 : IntKind.u64.wrap ((q : Int) * (next : Int)) = (p : Int) := jf (by rw [Be]; simp) Rv
    have g2 : IntKind.u64.wrap ((r : Int) * 4294967296) = (rs : Int) := jf (by rw [hrs, gp]; simp) (by rw [hrs]; rw [gp] at *; rw [ic]; omega)
    have g3 : Go.bits .or .u64 (rs : Int) (x2 : Int) = (ro : Int) := by rw [hrs, afq Ru (aa HB2).1, hro]
    by_cases hlt : ro < p
    ·
     have d2 : decide ((ro : Int) < (p : Int)) = true := decide_eq_true om
     have d2' : decide (ro < p) = true := decide_eq_true hlt
     obtain ⟨h1, hstep⟩ := (aa HI).step (aa bfh) (by rw [← hro, ← Be]; exact hlt)
     obtain ⟨q2, hq2⟩ : ∃ t, t = q - 1 := ⟨_, rfl⟩
     obtain ⟨r2, hr2⟩ : ∃ t, t = r + top := ⟨_, rfl⟩
     rw [← hq2, ← hr2] at hstep
     have auy : r2 < fo := by have := (aa HT).1; rw [hr2]; rw [gp] at *; rw [ic]; omega
     have g4 : IntKind.u64.wrap ((q : Int) - 1) = (q2 : Int) := jf (by rw [hq2]; omega) (by have := (aa HI).lt; rw [hq2]; rw [gp] at this; rw [ic]; omega)
     have g5 : IntKind.u64.wrap ((r : Int) + (top : Int)) = (r2 : Int) := jf (by rw [hr2]; simp) auy
     have HS := hide hstep; have HR2 := hide auy; have HM := hide (show q2 < q by omega)
     clear hstep auy hq2 hr2 h1 hlt Be hrs hro Rv Ru hb
     go_wp2_with fail
     go_round
     case rel => exact ⟨q2, r2, rfl, rfl, HR2, HS⟩
     case measure => have := aa HM; simp [intOf]; omega
    ·
     have d2 : decide ((ro : Int) < (p : Int)) = false := decide_eq_false om
     have d2' : decide (ro < p) = false := decide_eq_false hlt
     have hfits := (aa HI).fits (aa HB2).2 (d := x2) (.inr (by rw [← hro, ← Be]; omega))
     have hres : Q ≤ q ∧ q ≤ Q + 1 ∧ q < eu := ⟨(aa HI).ge, (aa bfg) q hfits (aa HI).lt, (aa HI).lt⟩
     have HR := hide hres
     clear hfits hres hlt Be hrs hro Rv Ru hb
     go_wp2_with fail
     go_meet
     exact ⟨q, rfl, HR, _, rfl⟩
 case rest =>
  obtain ⟨q, rfl, HQR, t0, rfl⟩ := hcut
  go_wp2_with fail
  go_loopw [13, 14, 15] (fun bv cv iv wr => ∃ (i c b' : Nat) (zc : List Nat), i ≤ n + 1 ∧ bv = .int .u64 ((b' : Nat) : Int) ∧ cv = .int .u64 ((c : Nat) : Int) ∧ iv = .int .i64 ((i : Nat) : Int) ∧ Hid (Wd.Py eu ul vl zc q i c b') ∧ Hid (i = n + 1 → c = 0) ∧ ZB .u32 wr b T (win us off zc) ∧ w.grownBy wr (some b)) (fun _ _ iv _ => n + 1 - (intOf iv).toNat)
  case atStart => exact ⟨0, 0, 0, ul, by omega, rfl, rfl, rfl, Wd.Py.start _ _ _ (by rw [gp]; omega) (aa HP).ltu, fun _ => rfl, by rw [HWU.out]; exact (aa HZ).drewN _, ajd (ug _ _) _⟩
  case round =>
   obtain ⟨i, c, b', zc, hi, rfl, rfl, rfl, HI, HC0, mh, hgr⟩ := hrel
   have ace : eu * eu = fo := by rw [gp, ic]
   have hzl := (aa HI).len
   by_cases hle : i ≤ n
   ·
    have d1 : decide ((i : Int) ≤ (n : Int)) = true := decide_eq_true om
    have d1' : decide (i ≤ n) = true := decide_eq_true hle
    obtain ⟨x, hx⟩ : ∃ t, t = Wd.g ul i := ⟨_, rfl⟩
    have Eo := mh.cell (off + i) (by rw [win_length _ _ _ (by rw [hzl]; exact aa acp)]; have h1 := (aa acp); have h2 := (aa HP).Cw; omega)
    rw [Lh us off zc (by rw [hzl]; exact aa acp) i (by rw [hzl, (aa HP).Cw]; omega), show Wd.g zc i = Wd.g ul i from (aa HI).same i (Nat.le_refl _), ← hx] at Eo
    have Pj := mh.frozen (off + i)
    have yo : x < eu := by rw [hx]; exact Wd.getD_lt (by rw [gp]; omega) _ (aa HP).ltu _
    by_cases hin : i < n
    ·
     have d2 : decide ((i : Int) < (n : Int)) = true := decide_eq_true om
     have d2' : decide (i < n) = true := decide_eq_true hin
     obtain ⟨y, hy⟩ : ∃ t, t = Wd.g vl i := ⟨_, rfl⟩
     have Pm := (World.cell?_of_block (hgr.block bv (aa HBB).2 (fun e => by injection e with e; exact (aa HBB).1 e))).trans ((aa HCV) i (by rw [(aa HP).Ph]; exact hin))
     rw [← hy] at Pm
     have Ch : y < eu := by rw [hy]; exact Wd.getD_lt (by rw [gp]; omega) _ (aa HP).ltv _
     obtain ⟨p, Be⟩ : ∃ t, t = q * y := ⟨_, rfl⟩
     obtain ⟨t, ht⟩ : ∃ t, t = c + p := ⟨_, rfl⟩
     have Ul : t < eu * eu := by
      have h1 := Wd.Lx (z := 0) (aa HQR).2.2 Ch (aa HI).c1 (by rw [gp]; omega)
      rw [ht, Be]; omega
     have k1 : IntKind.u64.wrap (y : Int) = (y : Int) := jf rfl ((aa Wx) _ Ch)
     have k2 : IntKind.u64.wrap ((q : Int) * (y : Int)) = (p : Int) := jf (by rw [Be]; simp) (by rw [← ace]; omega)
     have k3 : IntKind.u64.wrap ((c : Int) + (p : Int)) = (t : Int) := jf (by rw [ht]; simp) (by rw [← ace]; exact Ul)
     obtain ⟨lo, hlo⟩ : ∃ u, u = t % eu := ⟨_, rfl⟩
     obtain ⟨c2, hc2⟩ : ∃ u, u = t / eu := ⟨_, rfl⟩
     obtain ⟨s1, hs1⟩ : ∃ u : Nat, (u : Int) = ((x : Int) - (lo : Int)) % 18446744073709551616 := ⟨(((x : Int) - (lo : Int)) % 18446744073709551616).toNat, by omega⟩
     obtain ⟨s2, hs2⟩ : ∃ u : Nat, (u : Int) = ((s1 : Int) - (b' : Int)) % 18446744073709551616 := ⟨(((s1 : Int) - (b' : Int)) % 18446744073709551616).toNat, by omega⟩
     obtain ⟨d, hd⟩ : ∃ u, u = s2 % eu := ⟨_, rfl⟩
     obtain ⟨b2, hb2⟩ : ∃ u, u = s2 / 9223372036854775808 := ⟨_, rfl⟩
     have Kb : lo < eu := by rw [hlo]; exact Nat.mod_lt _ (by rw [gp]; omega)
     have hsw := aey yo Kb (aa HI).b1 hs1 hs2
     rw [← hd, ← hb2] at hsw
     have hnew : Wd.Py eu ul vl (zc.set i d) q (i + 1) c2 b2 := by
      rw [hc2]
      refine (aa HI).step (by rw [(aa HP).Cw]; omega) (by rw [ht, Be, hy]; rfl) Ul hsw.1 hsw.2.1 ?_
      rw [← hlo, ← Wd.qz, ← hx]
      exact hsw.2.2
     have m1 : IntKind.u64.wrap (x : Int) = (x : Int) := jf rfl ((aa Wx) _ yo)
     have m2 : IntKind.u32.wrap (t : Int) = (lo : Int) := by rw [Cj, hlo]
     have m2' : (t : Int) % 4294967296 = (lo : Int) := by rw [hlo, gp]; omega
     have m3 : IntKind.u64.wrap (lo : Int) = (lo : Int) := jf rfl ((aa Wx) _ Kb)
     have m4 : IntKind.u64.wrap ((x : Int) - (lo : Int)) = (s1 : Int) := by rw [IntKind.wrap_u64, hs1]
     have m5 : IntKind.u64.wrap ((s1 : Int) - (b' : Int)) = (s2 : Int) := by rw [IntKind.wrap_u64, hs2]
     have m6 : IntKind.u32.wrap (s2 : Int) = (d : Int) := by rw [Cj, hd]
     have m6' : (s2 : Int) % 4294967296 = (d : Int) := by rw [hd, gp]; omega
     have m7 : (s2 : Int) / 9223372036854775808 = (b2 : Int) := by rw [hb2]; omega
     have m8 : (t : Int) / 4294967296 = (c2 : Int) := by rw [hc2, gp]; omega
     have hfin : ∀ W, W = wr.setCell ⟨b, off + i, none⟩ (.int .u32 (d : Int)) → ZB .u32 W b T (win us off (zc.set i d)) ∧ w.grownBy W (some b) := by
      rintro W rfl
      refine ⟨?_, ni hgr _ _⟩
      rw [← Hd us off zc (by rw [hzl, (aa HP).Cw]; have := (aa acp); rw [(aa HP).Cw] at this; exact this) i d (by rw [hzl, (aa HP).Cw]; omega)]
      exact mh.Dl _ _
     have HN := hide hnew; have HF := hide hfin
     clear hnew hfin hsw hd hb2 hs1 hs2 hlo hc2 ht Ul Kb yo hx hzl hgr mh ace Be hy Ch
     go_wp2_with fail
     go_roundw
     case rel =>
      obtain ⟨r1, r2⟩ := (aa HF) _ rfl
      exact ⟨i + 1, c2, b2, zc.set i d, by omega, rfl, rfl, by go_num, HN, fun h => by omega, r1, r2⟩
     case measure => simp [intOf]; omega
    ·
     have d2 : decide ((i : Int) < (n : Int)) = false := decide_eq_false om
     have d2' : decide (i < n) = false := decide_eq_false hin
     replace hin : i = n := by omega
     have hy0 : vl.getD i 0 = 0 := by
      have h := (aa HP).Ph
      rw [List.getD, List.getElem?_eq_none om]; rfl
     obtain ⟨t, ht⟩ : ∃ t, t = c := ⟨_, rfl⟩
     have htc : (t : Int) = (c : Int) := by rw [ht]
     have Ul : t < eu * eu := by
      have h1 := (aa HI).c1
      have h2 : eu * 1 ≤ eu * eu := Nat.mul_le_mul_left _ (by rw [gp]; omega)
      omega
     obtain ⟨lo, hlo⟩ : ∃ u, u = t % eu := ⟨_, rfl⟩
     obtain ⟨c2, hc2⟩ : ∃ u, u = t / eu := ⟨_, rfl⟩
     obtain ⟨s1, hs1⟩ : ∃ u : Nat, (u : Int) = ((x : Int) - (lo : Int)) % 18446744073709551616 := ⟨(((x : Int) - (lo : Int)) % 18446744073709551616).toNat, by omega⟩
     obtain ⟨s2, hs2⟩ : ∃ u : Nat, (u : Int) = ((s1 : Int) - (b' : Int)) % 18446744073709551616 := ⟨(((s1 : Int) - (b' : Int)) % 18446744073709551616).toNat, by omega⟩
     obtain ⟨d, hd⟩ : ∃ u, u = s2 % eu := ⟨_, rfl⟩
     obtain ⟨b2, hb2⟩ : ∃ u, u = s2 / 9223372036854775808 := ⟨_, rfl⟩
     have Kb : lo < eu := by rw [hlo]; exact Nat.mod_lt _ (by rw [gp]; omega)
     have hsw := aey yo Kb (aa HI).b1 hs1 hs2
     rw [← hd, ← hb2] at hsw
     have hnew : Wd.Py eu ul vl (zc.set i d) q (i + 1) c2 b2 := by
      rw [hc2]
      refine (aa HI).step (by rw [(aa HP).Cw]; omega) (by rw [ht, hy0, Nat.mul_zero, Nat.add_zero]) Ul hsw.1 hsw.2.1 ?_
      rw [← hlo, ← Wd.qz, ← hx]
      exact hsw.2.2
     have m1 : IntKind.u64.wrap (x : Int) = (x : Int) := jf rfl ((aa Wx) _ yo)
     have m2 : IntKind.u32.wrap (t : Int) = (lo : Int) := by rw [Cj, hlo]
     have m2' : (t : Int) % 4294967296 = (lo : Int) := by rw [hlo, gp]; omega
     have m3 : IntKind.u64.wrap (lo : Int) = (lo : Int) := jf rfl ((aa Wx) _ Kb)
     have m4 : IntKind.u64.wrap ((x : Int) - (lo : Int)) = (s1 : Int) := by rw [IntKind.wrap_u64, hs1]
     have m5 : IntKind.u64.wrap ((s1 : Int) - (b' : Int)) = (s2 : Int) := by rw [IntKind.wrap_u64, hs2]
     have m6 : IntKind.u32.wrap (s2 : Int) = (d : Int) := by rw [Cj, hd]
     have m6' : (s2 : Int) % 4294967296 = (d : Int) := by rw [hd, gp]; omega
     have m7 : (s2 : Int) / 9223372036854775808 = (b2 : Int) := by rw [hb2]; omega
     have m8 : (t : Int) / 4294967296 = (c2 : Int) := by rw [hc2, gp]; omega
     have hfin : ∀ W, W = wr.setCell ⟨b, off + i, none⟩ (.int .u32 (d : Int)) → ZB .u32 W b T (win us off (zc.set i d)) ∧ w.grownBy W (some b) := by
      rintro W rfl
      refine ⟨?_, ni hgr _ _⟩
      rw [← Hd us off zc (by rw [hzl, (aa HP).Cw]; have := (aa acp); rw [(aa HP).Cw] at this; exact this) i d (by rw [hzl, (aa HP).Cw]; omega)]
      exact mh.Dl _ _
     have HC2 := Lib.hid (show c2 = 0 by rw [hc2, ht]; exact Nat.div_eq_of_lt (aa HI).c1)
     have HN := hide hnew; have HF := hide hfin
     clear hnew hfin hsw hd hb2 hs1 hs2 hlo hc2 Ul Kb yo hx hzl hgr mh ace
     have HIN := Lib.hid hin
     subst ht
     clear hin hy0 htc
     go_wp2_with fail
     go_roundw
     case rel =>
      obtain ⟨r1, r2⟩ := (aa HF) _ rfl
      exact ⟨i + 1, c2, b2, zc.set i d, by have := HIN.out; omega, rfl, rfl, by go_num, HN, fun _ => HC2.out, r1, r2⟩
     case measure => have := HIN.out; simp [intOf]; omega
   ·
    have d1 : decide ((i : Int) ≤ (n : Int)) = false := decide_eq_false om
    have d1' : decide (i ≤ n) = false := decide_eq_false hle
    have e : i = n + 1 := by omega
    subst e
    clear hle
    have hc0 := (aa HC0) rfl
    subst hc0
    have Nk := (aa HQR).2.2
    have j1 : (q : Int) % 4294967296 = (q : Int) := by rw [gp] at Nk; omega
    have j2 : IntKind.u32.wrap (q : Int) = (q : Int) := by rw [IntKind.wrap_u32]; exact j1
    have hdone : Wd.val eu zc + q * Wd.val eu vl = Wd.val eu ul + eu ^ (n + 1) * b' := by
     have h1 := (aa HP).Cw
     have h2 := aa HI
     rw [← h1] at h2 ⊢
     exact h2.done (by rw [h1, (aa HP).Ph]; omega)
    have Jp : 0 < Wd.val eu vl := by
     rcases Nat.eq_zero_or_pos (Wd.val eu vl) with h | h
     ·
      have := (aa HP).pre; rw [h] at this; omega
     ·
      exact h
    have Ci := Nat.div_add_mod (Wd.val eu ul) (Wd.val eu vl)
    rw [← HQ.out, Nat.mul_comm] at Ci
    have hml := Nat.mod_lt (Wd.val eu ul) Jp
    have amd := Wd.Cf zc (aa HI).lt
    rw [hzl, (aa HP).Cw] at amd
    rcases (show b' = 0 ∨ b' = 1 by have := (aa HI).b1; omega) with rfl | rfl
    ·
     have hqQ : q = Q := by
      have h1 := (aa HQR).1
      have h2 := (aa HQR).2.1
      rcases (show q = Q ∨ q = Q + 1 by omega) with h | h
      ·
       exact h
      ·
       rw [h, Nat.add_mul, Nat.one_mul] at hdone; omega
     have hok : StepT ul vl zc q := ⟨hzl, (aa HI).lt, hqQ.trans HQ.out, by rw [hqQ] at hdone; omega⟩
     have Jr := hide hok
     clear hok hqQ hdone Jp Ci hml amd ace Nk
     go_wp2_with fail
     go_ret
     exact ⟨zc, q, rfl, aa Jr, (aa HQR).2.2, mh, hgr⟩
    ·
     have hqQ : q = Q + 1 := by
      have h1 := (aa HQR).1
      have h2 := (aa HQR).2.1
      rcases (show q = Q ∨ q = Q + 1 by omega) with h | h
      ·
       rw [h] at hdone; omega
      ·
       exact h
     have bdn : off + (n + 1) ≤ us.length := by have := aa acp; rwa [(aa HP).Cw] at this
     have aio := hide bdn
     have Yj := Lib.hid (hzl.trans (aa HP).Cw)
     have HQQ := Lib.hid hqQ
     have HDN := Lib.hid hdone
     have HDM := hide (And.intro Ci (And.intro hml amd))
     have j3 : IntKind.u64.wrap ((q : Int) - 1) = (Q : Int) := jf (by rw [hqQ]; omega) (by rw [gp] at Nk; rw [ic]; omega)
     have j4 : (Q : Int) % 4294967296 = (Q : Int) := by rw [gp] at Nk; omega
     have j5 : IntKind.u32.wrap (Q : Int) = (Q : Int) := by rw [IntKind.wrap_u32]; exact j4
     have HQB := hide (show Q < eu by omega)
     have HZC := hide (aa HI).lt
     clear hdone Jp Ci hml amd ace Nk bdn hqQ
     go_wp2_with fail
     go_loopw [14, 17] (fun cv iv wr => ∃ (i c : Nat) (zd : List Nat), i ≤ n + 1 ∧ cv = .int .u64 ((c : Nat) : Int) ∧ iv = .int .i64 ((i : Nat) : Int) ∧ Hid (Wd.Cx eu zc vl zd i c) ∧ ZB .u32 wr b T (win us off zd) ∧ w.grownBy wr (some b)) (fun _ iv _ => n + 1 - (intOf iv).toNat)
     case atStart => exact ⟨0, 0, zc, by omega, rfl, rfl, Wd.Cx.start _ _ (aa HZC), mh, hgr⟩
     case round =>
      clear mh hgr
      obtain ⟨i, c, zd, hi, rfl, rfl, HA, mh, hgr⟩ := hrel
      have Pk := (aa HA).len.trans Yj.out
      by_cases hle : i ≤ n
      ·
       have d1 : decide ((i : Int) ≤ (n : Int)) = true := decide_eq_true om
       have d1' : decide (i ≤ n) = true := decide_eq_true hle
       obtain ⟨x, hx⟩ : ∃ t, t = Wd.g zc i := ⟨_, rfl⟩
       have Eo := mh.cell (off + i) (by rw [win_length _ _ _ (by rw [Pk]; exact aa aio)]; have h1 := (aa aio); omega)
       rw [Lh us off zd (by rw [Pk]; exact aa aio) i (by rw [Pk]; omega), show Wd.g zd i = Wd.g zc i from (aa HA).same i (Nat.le_refl _), ← hx] at Eo
       have Pj := mh.frozen (off + i)
       have yo : x < eu := by rw [hx]; exact Wd.getD_lt (by rw [gp]; omega) _ (aa HZC) _
       by_cases hin : i < n
       ·
        have d2 : decide ((i : Int) < (n : Int)) = true := decide_eq_true om
        have d2' : decide (i < n) = true := decide_eq_true hin
        obtain ⟨y, hy⟩ : ∃ t, t = Wd.g vl i := ⟨_, rfl⟩
        have Pm := (World.cell?_of_block (hgr.block bv (aa HBB).2 (fun e => by injection e with e; exact (aa HBB).1 e))).trans ((aa HCV) i (by rw [(aa HP).Ph]; exact hin))
        rw [← hy] at Pm
        have Ch : y < eu := by rw [hy]; exact Wd.getD_lt (by rw [gp]; omega) _ (aa HP).ltv _
        obtain ⟨s, hs⟩ : ∃ u, u = c + x := ⟨_, rfl⟩
        obtain ⟨t, ht⟩ : ∃ u, u = s + y := ⟨_, rfl⟩
        have hcB := (aa HA).c1
        have k1 : IntKind.u64.wrap (y : Int) = (y : Int) := jf rfl ((aa Wx) _ Ch)
        have k2 : IntKind.u64.wrap ((c : Int) + (x : Int)) = (s : Int) := jf (by rw [hs]; simp) (by rw [hs]; rw [gp] at *; rw [ic]; omega)
        have k3 : IntKind.u64.wrap ((s : Int) + (y : Int)) = (t : Int) := jf (by rw [ht]; simp) (by rw [ht, hs]; rw [gp] at *; rw [ic]; omega)
        have het : zd.getD i 0 + vl.getD i 0 + c = t := by rw [ht, hs, hx, hy, (aa HA).same i (Nat.le_refl _)]; show _ + Wd.g vl i + c = c + Wd.g zc i + Wd.g vl i; rw [show zc.getD i 0 = Wd.g zc i from rfl]; omega
        obtain ⟨d, hd⟩ : ∃ u, u = t % eu := ⟨_, rfl⟩
        obtain ⟨c2, hc2⟩ : ∃ u, u = t / eu := ⟨_, rfl⟩
        have hnew : Wd.Cx eu zc vl (zd.set i d) (i + 1) c2 := by
         have := (aa HA).step Am (aa HP).ltv (by rw [Yj.out]; omega)
         rw [het] at this
         rw [hd, hc2]; exact this
        have m1 : IntKind.u64.wrap (x : Int) = (x : Int) := jf rfl ((aa Wx) _ yo)
        have m2 : IntKind.u32.wrap (t : Int) = (d : Int) := by rw [Cj, hd]
        have m2' : (t : Int) % 4294967296 = (d : Int) := by rw [hd, gp]; omega
        have m8 : (t : Int) / 4294967296 = (c2 : Int) := by rw [hc2, gp]; omega
        have hfin : ∀ W, W = wr.setCell ⟨b, off + i, none⟩ (.int .u32 (d : Int)) → ZB .u32 W b T (win us off (zd.set i d)) ∧ w.grownBy W (some b) := by
         rintro W rfl
         refine ⟨?_, ni hgr _ _⟩
         rw [← Hd us off zd (by rw [Pk]; exact aa aio) i d (by rw [Pk]; omega)]
         exact mh.Dl _ _
        have HN := hide hnew; have HF := hide hfin
        have HIN := Lib.hid hin
        clear hnew hfin het hd hc2 ht yo hx Pk hgr mh hcB hin hs hy Ch
        go_wp2_with fail
        go_roundw
        case rel =>
         obtain ⟨r1, r2⟩ := (aa HF) _ rfl
         exact ⟨i + 1, c2, zd.set i d, by have := HIN.out; omega, rfl, by go_num, HN, r1, r2⟩
        case measure => have := HIN.out; simp [intOf]; omega
       ·
        have d2 : decide ((i : Int) < (n : Int)) = false := decide_eq_false om
        have d2' : decide (i < n) = false := decide_eq_false hin
        replace hin : i = n := by omega
        have hy0 : vl.getD i 0 = 0 := by
         have h := (aa HP).Ph
         rw [List.getD, List.getElem?_eq_none om]; rfl
        obtain ⟨t, ht⟩ : ∃ u, u = c + x := ⟨_, rfl⟩
        have hcB := (aa HA).c1
        have k2 : IntKind.u64.wrap ((c : Int) + (x : Int)) = (t : Int) := jf (by rw [ht]; simp) (by rw [ht]; rw [gp] at *; rw [ic]; omega)
        have het : zd.getD i 0 + vl.getD i 0 + c = t := by rw [ht, hx, hy0, (aa HA).same i (Nat.le_refl _)]; show _ + 0 + c = c + Wd.g zc i; rw [show zc.getD i 0 = Wd.g zc i from rfl]; omega
        obtain ⟨d, hd⟩ : ∃ u, u = t % eu := ⟨_, rfl⟩
        obtain ⟨c2, hc2⟩ : ∃ u, u = t / eu := ⟨_, rfl⟩
        have hnew : Wd.Cx eu zc vl (zd.set i d) (i + 1) c2 := by
         have := (aa HA).step Am (aa HP).ltv (by rw [Yj.out]; omega)
         rw [het] at this
         rw [hd, hc2]; exact this
        have m1 : IntKind.u64.wrap (x : Int) = (x : Int) := jf rfl ((aa Wx) _ yo)
        have m2 : IntKind.u32.wrap (t : Int) = (d : Int) := by rw [Cj, hd]
        have m2' : (t : Int) % 4294967296 = (d : Int) := by rw [hd, gp]; omega
        have m8 : (t : Int) / 4294967296 = (c2 : Int) := by rw [hc2, gp]; omega
        have hfin : ∀ W, W = wr.setCell ⟨b, off + i, none⟩ (.int .u32 (d : Int)) → ZB .u32 W b T (win us off (zd.set i d)) ∧ w.grownBy W (some b) := by
         rintro W rfl
         refine ⟨?_, ni hgr _ _⟩
         rw [← Hd us off zd (by rw [Pk]; exact aa aio) i d (by rw [Pk]; omega)]
         exact mh.Dl _ _
        have HN := hide hnew; have HF := hide hfin
        have HIN := Lib.hid hin
        clear hnew hfin het hd hc2 ht yo hx Pk hgr mh hcB hin hy0
        go_wp2_with fail
        go_roundw
        case rel =>
         obtain ⟨r1, r2⟩ := (aa HF) _ rfl
         exact ⟨i + 1, c2, zd.set i d, by have := HIN.out; omega, rfl, by go_num, HN, r1, r2⟩
        case measure => have := HIN.out; simp [intOf]; omega
      ·
       have d1 : decide ((i : Int) ≤ (n : Int)) = false := decide_eq_false om
       have d1' : decide (i ≤ n) = false := decide_eq_false hle
       have e : i = n + 1 := by omega
       subst e
       have hok : StepT ul vl zd Q := by
        have h1 : Wd.val eu zd + eu ^ (n + 1) * c = Wd.val eu zc + Wd.val eu vl := by
         have h2 := aa HA
         rw [← Yj.out] at h2 ⊢
         exact h2.done (by rw [Yj.out, (aa HP).Ph]; omega)
        have h3 := Wd.Cf zd (aa HA).lt
        rw [Pk] at h3
        have h4 := HDN.out
        rw [HQQ.out, Nat.add_mul, Nat.one_mul, Nat.mul_one] at h4
        have h5 := (aa HDM).1
        have h6 := (aa HDM).2.2
        have hc := (aa HA).c1
        refine ⟨(aa HA).len.trans (Yj.out.trans (aa HP).Cw.symm), (aa HA).lt, HQ.out, ?_⟩
        rcases (show c = 0 ∨ c = 1 by omega) with rfl | rfl
        ·
         rw [Nat.mul_zero] at h1; omega
        ·
         rw [Nat.mul_one] at h1; omega
       have Jr := hide hok
       clear hok hle Pk
       go_wp2_with fail
       go_ret
       exact ⟨zd, Q, rfl, aa Jr, aa HQB, mh, hgr⟩
end Go.Proofs.YtjdnmdlnaoedoaaGreatDoor
namespace Go.Proofs.YtjdnmdlnaoedoaaGreatDoor
open Go.RowKit

def abg (w : World) (q r : Nat) (e : Ending) (w' : World) : Prop :=
 ∃ A cap l A' cap' l', e = .returned (.tuple #[.slice A l.length cap, .slice A' l'.length cap']) ∧ qo w' A cap l q ∧ qo w' A' cap' l' r ∧ Below w.heap.size w w'

theorem aja (Ax Ay : Option Addr) (cx cy : Nat) (xl yl : List Nat) (n m : Nat) (w : World) (hx : qo w Ax cx xl n) (hy : qo w Ay cy yl m) (hlt : n < m) :
  Calls Tryz.prog 158 #[.slice Ax xl.length cx, .slice Ay yl.length cy] w fun e w' => abg w (n / m) (n % m) e w' := by
 have hc := Hf Ax Ay cx cy xl yl n m w hx hy
 rw [show uk n m = -1 by unfold uk; rw [if_pos hlt]] at hc
 rw [Nat.div_eq_of_lt hlt, Nat.mod_eq_of_lt hlt]
 have HC := hide hc
 have HX := hide hx
 clear hc hx hy hlt
 go_enter Tryz.func158, Tryz.ntmps158
 go_wp2_with fail
 refine (aa HC).mono ?_
 rintro e w' ⟨rfl, k, rfl⟩
 go_wp2
 go_ret2
 exact ⟨none, 0, [], Ax, cx, xl, rfl, qo.Qz _ _ om, (aa HX).below (qb (Below.refl _ _) k), qb (Below.refl _ _) k⟩

theorem apu (Ax Ay : Option Addr) (cx cy : Nat) (xl yl : List Nat) (n m : Nat) (w : World) (hx : qo w Ax cx xl n) (hy : qo w Ay cy yl m) (hge : ¬ n < m) (h1 : yl.length = 1) (hk : xl.length ≤ 35184372088832) :
  Calls Tryz.prog 158 #[.slice Ax xl.length cx, .slice Ay yl.length cy] w fun e w' => abg w (n / m) (n % m) e w' := by
 have hc := Hf Ax Ay cx cy xl yl n m w hx hy
 obtain ⟨o, ho⟩ : ∃ o, o = uk n m := ⟨_, rfl⟩
 rw [← ho] at hc
 have hd : decide (o < 0) = false := decide_eq_false (by rw [ho]; unfold uk; rw [if_neg hge]; split <;> omega)
 have HC := hide hc
 have hmk := aaj xl.length hk
 have hx1 := hx.tu; have hx2 := hx.cap2; have hy1 := hy.tu; have hy2 := hy.cap2
 obtain ⟨by', oy, hA, hby, hcy⟩ := hy.ws om
 subst hA
 have hy0 := hcy 0 om
 have hym : Wd.g yl 0 = m := by rw [Te eu yl h1]; exact hy.val
 rw [hym, Nat.add_zero] at hy0
 have Kj : m < eu := by rw [← hym]; exact Wd.getD_lt (by rw [gp]; omega) _ hy.lt 0
 have hm0 : 0 < m := by
  rcases hy.norm with h | h
  ·
   rw [h] at h1; simp at h1
  ·
   rw [h1] at h; have : Wd.g yl 0 ≠ 0 := h; omega
 have l1 : ((yl.length : Int) == 1) = true := by rw [h1]; rfl
 have e1 : IntKind.u64.wrap (m : Int) = (m : Int) := jf rfl (by rw [gp] at Kj; rw [ic]; omega)
 have e9 : ((m : Int) == 0) = false := beq_eq_false_iff_ne.2 om
 have e9' : ¬ ((m : Int) = 0) := by omega
 have bkz : ¬ (m = 0) := by omega
 have bpt : 0 < yl.length := by omega
 have HY0 := hide (And.intro hby hy0)
 have hne1 : ¬ (w.heap.size = by') := by omega
 have hne2 : ¬ (by' = w.heap.size) := by omega
 have HMB := hide Kj; have HM0 := hide hm0
 have HX := hide hx
 clear hc ho hcy hy hym Kj hm0 hge hy0 hby hx h1
 go_enter Tryz.func158, Tryz.ntmps158
 go_wp2_with fail
 refine (aa HC).mono ?_
 rintro e w' ⟨rfl, k, rfl⟩
 go_wp2_with fail
 go_loopw [7, 8] (fun rv iv wr => ∃ (i : Int) (r : Nat) (qc : List Nat), -1 ≤ i ∧ i < xl.length ∧ iv = .int .i64 i ∧ rv = .int .u64 ((r : Nat) : Int) ∧ Hid (Wd.Dp eu xl qc m (i + 1).toNat r) ∧ ZB .u32 wr w.heap.size 156 qc ∧ Below w.heap.size w wr) (fun _ iv _ => (intOf iv + 1).toNat)
 case atStart =>
  refine ⟨(xl.length : Int) - 1, 0, List.replicate xl.length 0, by omega, by omega, by first | rfl | go_num, rfl, ?_, heap_alloc_new (w.drewN k) _, (qb (Below.refl _ _) k).alloc (Nat.le_refl _) _⟩
  rw [show ((xl.length : Int) - 1 + 1).toNat = xl.length by omega]
  exact Wd.Dp.start _ _ _ (by simp) (aa HM0) (Kk (by rw [gp]; omega) _)
 case round =>
  obtain ⟨i, r, qc, hi1, hi2, rfl, rfl, HI, mh, hg⟩ := hrel
  have hlen := HI.out.len
  by_cases h0 : i < 0
  ·
   have e : i = -1 := by omega
   subst e
   obtain ⟨v1, v2⟩ := HI.out.done
   rw [(aa HX).val] at v1 v2
   have Ru : r < eu := Nat.lt_trans HI.out.r1 (aa HMB)
   have j1 : (r : Int) % 4294967296 = (r : Int) := by rw [gp] at Ru; omega
   have j2 : IntKind.u32.wrap (r : Int) = (r : Int) := by rw [IntKind.wrap_u32]; exact j1
   have V1 := Lib.hid v1; have V2 := Lib.hid v2; have HRB := hide Ru
   clear v1 v2 Ru
   go_wp2_with fail
   have htr := Ck (some ⟨w.heap.size, 0, none⟩) qc.length qc (wr.heap.size) wr (mh.Et _ mh.lt) (Nat.le_refl _) om
   rw [hlen] at htr
   refine htr.mono ?_
   rintro e w' ⟨⟨k1, rfl, ht, hk2⟩, hw⟩
   obtain rfl : wr = w' := hw.symm
   clear hw
   go_wp2_with fail
   have hn := heap_alloc_new wr (.cells (wz .u32 [r]) 156)
   have auk : ZB .u32 (wr.alloc (.cells (wz .u32 [r]) 156)) wr.heap.size 156 [r] := hn
   have Lb := Ck (some ⟨wr.heap.size, 0, none⟩) 1 [r] _ _ (auk.Et _ auk.lt) (Nat.le_refl _) om
   refine Lb.mono ?_
   rintro e w' ⟨⟨k3, rfl, ht2, hk3⟩, hw⟩
   subst hw
   go_wp2_with fail
   go_ret2
   have hk4 : k1 = (qc.take k1).length := by simp; omega
   have hk5 : k3 = ([r].take k3).length := by rw [List.length_take]; omega
   have q1 := qo.Ct (cap := xl.length) mh HI.out.lt ht om om om
   rw [V1.out] at q1
   have q2 := qo.Ct (cap := 1) auk (by simpa using aa HRB) ht2 hk3 (by simp) om
   rw [show Wd.val eu [r] = n % m by rw [← V2.out]; simp [Wd.val]] at q2
   exact ⟨some ⟨w.heap.size, 0, none⟩, xl.length, qc.take k1, some ⟨wr.heap.size, 0, none⟩, 1, [r].take k3, Sy hk4 hk5, q1.below ((Below.refl _ _).alloc (Nat.le_refl _) _), q2, hg.alloc hg.size _⟩
  ·
   obtain ⟨j, rfl⟩ := Int.eq_ofNat_of_zero_le (show 0 ≤ i by omega)
   have Vp : j < xl.length := by omega
   obtain ⟨bx, ox, rfl, hbx, hcx⟩ := (aa HX).ws om
   have Eo := (hg.cell (p := ⟨bx, ox + j, none⟩) hbx).trans (hcx j Vp)
   have Pm := (hg.cell (p := ⟨by', oy, none⟩) (aa HY0).1).trans (aa HY0).2
   clear hcx
   have hzc := mh.cell j om
   have Pj := mh.frozen j
   obtain ⟨xj, hxj⟩ : ∃ t, t = Wd.g xl j := ⟨_, rfl⟩
   rw [← hxj] at Eo
   have yo : xj < eu := by rw [hxj]; exact Wd.getD_lt (by rw [gp]; omega) _ (aa HX).lt _
   have hinv : Wd.Dp eu xl qc m (j + 1) r := by have := HI.out; rwa [show ((j : Int) + 1).toNat = j + 1 by omega] at this
   have Ru : r < eu := Nat.lt_trans hinv.r1 (aa HMB)
   obtain ⟨rs, hrs⟩ : ∃ t, t = r * eu := ⟨_, rfl⟩
   obtain ⟨X, hX⟩ : ∃ t, t = r * eu + xj := ⟨_, rfl⟩
   obtain ⟨q, hq⟩ : ∃ t, t = (r * eu + xj) / m := ⟨_, rfl⟩
   obtain ⟨s, hs⟩ : ∃ t, t = (r * eu + xj) % m := ⟨_, rfl⟩
   have hXB : X < fo := by rw [hX]; rw [gp] at *; rw [ic]; omega
   have Nk : q < eu := by
    rw [hq, Nat.div_lt_iff_lt_mul (aa HM0)]
    have h1 : (r + 1) * eu ≤ m * eu := Nat.mul_le_mul_right _ hinv.r1
    rw [Nat.add_mul, Nat.one_mul] at h1
    rw [Nat.mul_comm eu]; omega
   have hsm : s < m := by rw [hs]; exact Nat.mod_lt _ (aa HM0)
   have b64 : ∀ t : Nat, t < eu → t < fo := fun t ht => by rw [gp] at ht; rw [ic]; omega
   have g1 : IntKind.u64.wrap ((r : Int) * 4294967296) = (rs : Int) := jf (by rw [hrs, gp]; simp) om
   have g2 : Go.bits .or .u64 (rs : Int) (xj : Int) = (X : Int) := by rw [hrs, afq Ru yo, hX]
   have g3 : IntKind.u64.wrap (xj : Int) = (xj : Int) := jf rfl (b64 _ yo)
   have g4 : (X : Int).tdiv (m : Int) = (q : Int) := by rw [hq, hX]; exact (Int.ofNat_tdiv _ _).symm
   have g5 : (X : Int).tmod (m : Int) = (s : Int) := by rw [hs, hX]; exact (Int.ofNat_tmod _ _).symm
   have g6 : IntKind.u64.wrap (q : Int) = (q : Int) := jf rfl (b64 _ Nk)
   have g7 : IntKind.u64.wrap (s : Int) = (s : Int) := jf rfl (b64 _ (Nat.lt_trans hsm (aa HMB)))
   have g8 : (q : Int) % 4294967296 = (q : Int) := by rw [gp] at Nk; omega
   have g9 : IntKind.u32.wrap (q : Int) = (q : Int) := by rw [IntKind.wrap_u32]; exact g8
   have g10 : IntKind.u64.wrap (X : Int) = (X : Int) := jf rfl hXB
   have hfin : ∀ W, W = wr.setCell ⟨w.heap.size, j, none⟩ (.int .u32 (q : Int)) → Hid (Wd.Dp eu xl (qc.set j q) m j s) ∧ ZB .u32 W w.heap.size 156 (qc.set j q) ∧ Below w.heap.size w W := by
    rintro W rfl
    refine ⟨?_, mh.Dl _ _, hg.setCell (p := ⟨w.heap.size, j, none⟩) (Nat.le_refl _) _⟩
    rw [hq, hs, hxj]
    exact hinv.step Vp (by rw [← Wd.qz, ← hxj]; exact yo)
   have HF := hide hfin
   clear hfin hq hs hxj yo hinv mh hg HI hX hrs hXB Nk hsm b64 Ru
   go_wp2_with fail
   go_roundw
   case rel =>
    obtain ⟨r1, r2, r3⟩ := (aa HF) _ rfl
    exact ⟨(j : Int) - 1, s, qc.set j q, by omega, by omega, by go_num, rfl, by rw [show ((j : Int) - 1 + 1).toNat = j by omega]; exact r1, r2, r3⟩
   case measure => simp [intOf] <;> omega
end Go.Proofs.YtjdnmdlnaoedoaaGreatDoor
