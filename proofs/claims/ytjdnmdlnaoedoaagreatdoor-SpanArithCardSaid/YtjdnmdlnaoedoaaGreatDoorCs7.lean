/- Texts beneath a law of layer 1. -/
import Derived.Test.YtjdnmdlnaoedoaaGreatDoorCs6
import Derived.BigQuiet
import Derived.Deep.QuietTactic
import Derived.Laws.Bits64b
import Derived.Deep.CutBlock
import Derived.Deep.DeepCutAuto
set_option maxRecDepth 100000
namespace Go.Proofs.YtjdnmdlnaoedoaaGreatDoor
open Go.RowKit

set_option maxHeartbeats 16000000 in
theorem atn (s1 : Int) (dh : Bool) (A1 : Option Addr) (c1 : Nat) (l1 : List Nat) (s2 : Int) (di : Bool) (A2 : Option Addr) (c2 : Nat) (l2 : List Nat) (z1 z2 g r1 r2 : Int) (w : World) (f1 : jc w s1 dh A1 c1 l1 z1) (f2 : jc w s2 di A2 c2 l2 z2) (hs : ¬ z2 < 0)
  (hg : Du w 143 z1 z2 g) (hq1 : Du w 144 z1 g r1) (hq2 : Du w 144 z2 g r2) :
  Calls Tryz.prog 123 #[(Value.agg #[.int .i64 s1, .bool dh, .slice A1 l1.length c1]), (Value.agg #[.int .i64 s2, .bool di, .slice A2 l2.length c2])] w fun e w' => Io w r1 r2 e w' := by

 have H1 := hide f1
 have H2 := hide f2
 have HG := hide hg
 have Xg := hide hq1
 have HQ2 := hide hq2
 have hs' : decide (jw z2 < 0) = false := decide_eq_false (by rw [Js]; exact hs)
 obtain ⟨o, ho⟩ : ∃ o, o = jw z2 := ⟨_, rfl⟩
 have HS := hide (fun W (f : jc W s2 di A2 c2 l2 z2) => (show Calls Tryz.prog 146 #[(Value.agg #[.int .i64 s2, .bool di, .slice A2 l2.length c2])] W fun e w' => e = .returned (.int .i64 o) ∧ Below W.heap.size W w' by rw [ho]; exact Be s2 di A2 c2 l2 z2 W f))
 rw [← ho] at hs'
 clear f1 f2 hg hq1 hq2 hs ho
 go_enter Tryz.func123, Tryz.ntmps123
 go_upto_region 1 with fail
 obtain ⟨n0, n1, n2, hsz, hw0⟩ := pz w (.cells #[.int .i64 s1, .bool dh, .slice A1 l1.length c1] 72) (.cells #[.int .i64 s2, .bool di, .slice A2 l2.length c2] 72) (.cells #[.int .i64 0, .bool false, .slice none 0 0, .int .i64 0, .bool false, .slice none 0 0] 74)
 generalize (((w.alloc (.cells #[.int .i64 s1, .bool dh, .slice A1 l1.length c1] 72)).alloc (.cells #[.int .i64 s2, .bool di, .slice A2 l2.length c2] 72)).alloc (.cells #[.int .i64 0, .bool false, .slice none 0 0, .int .i64 0, .bool false, .slice none 0 0] 74)) = W0 at *
 have yu : W0.cell? ⟨w.heap.size, 0, none⟩ = some (.int .i64 s1) := ah n0 0
 have yo : W0.cell? ⟨w.heap.size, 1, none⟩ = some (.bool dh) := ah n0 1
 have Ba : W0.cell? ⟨w.heap.size, 2, none⟩ = some (.slice A1 l1.length c1) := ah n0 2
 have q0 : w.heap.size < W0.heap.size := by omega
 have Am : W0.cell? ⟨w.heap.size + 1, 0, none⟩ = some (.int .i64 s2) := ah n1 0
 have Al : W0.cell? ⟨w.heap.size + 1, 1, none⟩ = some (.bool di) := ah n1 1
 have Ey : W0.cell? ⟨w.heap.size + 1, 2, none⟩ = some (.slice A2 l2.length c2) := ah n1 2
 have q1 : w.heap.size + 1 < W0.heap.size := by omega
 have agw : W0.cell? ⟨w.heap.size + 1 + 1, 0, none⟩ = some (.int .i64 0) := ah n2 0
 have agv : W0.cell? ⟨w.heap.size + 1 + 1, 1, none⟩ = some (.bool false) := ah n2 1
 have agu : W0.cell? ⟨w.heap.size + 1 + 1, 2, none⟩ = some (.slice none 0 0) := ah n2 2
 have agt : W0.cell? ⟨w.heap.size + 1 + 1, 3, none⟩ = some (.int .i64 0) := ah n2 3
 have ags : W0.cell? ⟨w.heap.size + 1 + 1, 4, none⟩ = some (.bool false) := ah n2 4
 have agr : W0.cell? ⟨w.heap.size + 1 + 1, 5, none⟩ = some (.slice none 0 0) := ah n2 5
 have q2 : w.heap.size + 1 + 1 < W0.heap.size := by omega
 have ahy := az n2 0
 have ahx := az n2 1
 have ahw := az n2 2
 have ahv := az n2 3
 have ahu := az n2 4
 have aht := az n2 5
 have NR := Lib.hid n2
 clear hsz n0 n1 n2
 replace H1 := hide ((aa H1).below hw0)
 replace H2 := hide ((aa H2).below hw0)
 go_cut [5] (fun s5_ wx => ∃ b5 : Nat, s5_ = .pointer (some ⟨b5, 0, none⟩) ∧ Nv wx b5 g ∧ Below W0.heap.size W0 wx ∧ W0.heap.size ≤ b5)
 case first =>
  go_wp2_with fail
  refine ((aa HG) s1 dh A1 c1 l1 s2 di A2 c2 l2 _ hw0 (aa H1) (aa H2)).mono ?_
  rintro e w' ⟨s5, Ce, A5, c5, l5, rfl, zo, hb5⟩
  go_wp2_with fail
  go_meet
  exact ⟨_, rfl, awl zo hb5 rfl⟩
 case rest =>
  revert hcut
  generalize wc = W1
  intro hcut
  obtain ⟨b5, rfl, ⟨s5, Ce, A5, c5, l5, n5, f5⟩, hB1, ob5⟩ := hcut
  have Zz : W1.cell? ⟨b5, 0, none⟩ = some (.int .i64 s5) := ah n5 0
  have Zy : W1.cell? ⟨b5, 1, none⟩ = some (.bool Ce) := ah n5 1
  have Zx : W1.cell? ⟨b5, 2, none⟩ = some (.slice A5 l5.length c5) := ah n5 2
  have y0 : W1.cell? ⟨w.heap.size + 1, 0, none⟩ = some (.int .i64 s2) := iq hB1 q1 Am
  have y1 : W1.cell? ⟨w.heap.size + 1, 1, none⟩ = some (.bool di) := iq hB1 q1 Al
  have y2 : W1.cell? ⟨w.heap.size + 1, 2, none⟩ = some (.slice A2 l2.length c2) := iq hB1 q1 Ey
  go_wp2_with fail
  refine ((aa HS) W1 ((aa H2).below hB1)).mono ?_
  rintro e W2 ⟨rfl, hb⟩
  have q5 := lt_of_block n5
  have n5' := (hb.block _ q5).trans n5
  have f5' := f5.below hb
  have hB := bz hB1 hb
  clear Zz Zy Zx y0 y1 y2 f5 n5 hB1
  have ng := n5'
  have fg := f5'
  clear n5' f5' hb
  have FG := hide fg
  clear fg
  have abn : W2.cell? ⟨w.heap.size, 0, none⟩ = some (.int .i64 s1) := iq hB q0 yu
  have abm : W2.cell? ⟨w.heap.size, 1, none⟩ = some (.bool dh) := iq hB q0 yo
  have abl : W2.cell? ⟨w.heap.size, 2, none⟩ = some (.slice A1 l1.length c1) := iq hB q0 Ba
  have Rx : w.heap.size < W2.heap.size := Nat.lt_of_lt_of_le q0 hB.size
  have abk : W2.cell? ⟨w.heap.size + 1, 0, none⟩ = some (.int .i64 s2) := iq hB q1 Am
  have abj : W2.cell? ⟨w.heap.size + 1, 1, none⟩ = some (.bool di) := iq hB q1 Al
  have abh : W2.cell? ⟨w.heap.size + 1, 2, none⟩ = some (.slice A2 l2.length c2) := iq hB q1 Ey
  have q1' : w.heap.size + 1 < W2.heap.size := Nat.lt_of_lt_of_le q1 hB.size
  have Ul := ah ng 0
  have Uk := ah ng 1
  have Uj := ah ng 2
  have Rw := lt_of_block ng
  simp only [Array.getElem?_eq_getElem, mf, ma, lv] at Ul Uk Uj
  have atz : W2.cell? ⟨w.heap.size + 1 + 1, 0, none⟩ = some (.int .i64 0) := iq hB q2 agw
  have bkl : W2.frozen? ⟨w.heap.size + 1 + 1, 0, none⟩ = false := (hB.frozen (p := ⟨w.heap.size + 1 + 1, 0, none⟩) q2).trans ahy
  have aty : W2.cell? ⟨w.heap.size + 1 + 1, 1, none⟩ = some (.bool false) := iq hB q2 agv
  have bkk : W2.frozen? ⟨w.heap.size + 1 + 1, 1, none⟩ = false := (hB.frozen (p := ⟨w.heap.size + 1 + 1, 1, none⟩) q2).trans ahx
  have atx : W2.cell? ⟨w.heap.size + 1 + 1, 2, none⟩ = some (.slice none 0 0) := iq hB q2 agu
  have bkj : W2.frozen? ⟨w.heap.size + 1 + 1, 2, none⟩ = false := (hB.frozen (p := ⟨w.heap.size + 1 + 1, 2, none⟩) q2).trans ahw
  have atw : W2.cell? ⟨w.heap.size + 1 + 1, 3, none⟩ = some (.int .i64 0) := iq hB q2 agt
  have bki : W2.frozen? ⟨w.heap.size + 1 + 1, 3, none⟩ = false := (hB.frozen (p := ⟨w.heap.size + 1 + 1, 3, none⟩) q2).trans ahv
  have atv : W2.cell? ⟨w.heap.size + 1 + 1, 4, none⟩ = some (.bool false) := iq hB q2 ags
  have bkh : W2.frozen? ⟨w.heap.size + 1 + 1, 4, none⟩ = false := (hB.frozen (p := ⟨w.heap.size + 1 + 1, 4, none⟩) q2).trans ahu
  have atu : W2.cell? ⟨w.heap.size + 1 + 1, 5, none⟩ = some (.slice none 0 0) := iq hB q2 agr
  have bkg : W2.frozen? ⟨w.heap.size + 1 + 1, 5, none⟩ = false := (hB.frozen (p := ⟨w.heap.size + 1 + 1, 5, none⟩) q2).trans aht
  have qr : w.heap.size + 1 + 1 < W2.heap.size := Nat.lt_of_lt_of_le q2 hB.size
  have or5 : w.heap.size + 1 + 1 < b5 := Nat.lt_of_lt_of_le q2 ob5
  clear yu yo Ba Am Al Ey agw agv agu agt ags agr ahy ahx ahw ahv ahu aht ng
  have KEEP := hide (show ∀ X, Below W2.heap.size W2 X → X.cell? ⟨w.heap.size, 0, none⟩ = some (.int .i64 s1) ∧ X.cell? ⟨w.heap.size, 1, none⟩ = some (.bool dh) ∧ X.cell? ⟨w.heap.size, 2, none⟩ = some (.slice A1 l1.length c1) ∧ X.cell? ⟨w.heap.size + 1, 0, none⟩ = some (.int .i64 s2) ∧ X.cell? ⟨w.heap.size + 1, 1, none⟩ = some (.bool di) ∧ X.cell? ⟨w.heap.size + 1, 2, none⟩ = some (.slice A2 l2.length c2) ∧ X.cell? ⟨b5, 0, none⟩ = some (.int .i64 s5) ∧ X.cell? ⟨b5, 1, none⟩ = some (.bool Ce) ∧ X.cell? ⟨b5, 2, none⟩ = some (.slice A5 l5.length c5) from fun X hX => ⟨iq hX Rx abn, iq hX Rx abm, iq hX Rx abl, iq hX q1' abk, iq hX q1' abj, iq hX q1' abh, iq hX Rw Ul, iq hX Rw Uk, iq hX Rw Uj⟩)
  go_wp2_with fail
  go_region_held3 (fun w' => w'.cell? ⟨w.heap.size, 0, none⟩ = some (.int .i64 s1) ∧ w'.cell? ⟨w.heap.size, 1, none⟩ = some (.bool dh) ∧ w'.cell? ⟨w.heap.size, 2, none⟩ = some (.slice A1 l1.length c1) ∧ w'.cell? ⟨w.heap.size + 1, 0, none⟩ = some (.int .i64 s2) ∧ w'.cell? ⟨w.heap.size + 1, 1, none⟩ = some (.bool di) ∧ w'.cell? ⟨w.heap.size + 1, 2, none⟩ = some (.slice A2 l2.length c2) ∧ w'.cell? ⟨b5, 0, none⟩ = some (.int .i64 s5) ∧ w'.cell? ⟨b5, 1, none⟩ = some (.bool Ce) ∧ w'.cell? ⟨b5, 2, none⟩ = some (.slice A5 l5.length c5)) (first | with_reducible exact ⟨(mi _ _ _ _ _ _ _ _ om).trans (iq hbw Rx abn), (mi _ _ _ _ _ _ _ _ om).trans (iq hbw Rx abm), (mi _ _ _ _ _ _ _ _ om).trans (iq hbw Rx abl), (mi _ _ _ _ _ _ _ _ om).trans (iq hbw q1' abk), (mi _ _ _ _ _ _ _ _ om).trans (iq hbw q1' abj), (mi _ _ _ _ _ _ _ _ om).trans (iq hbw q1' abh), (mi _ _ _ _ _ _ _ _ om).trans (iq hbw Rw Ul), (mi _ _ _ _ _ _ _ _ om).trans (iq hbw Rw Uk), (mi _ _ _ _ _ _ _ _ om).trans (iq hbw Rw Uj)⟩ | with_reducible exact (aa KEEP) _ bel) (first | (go_at_call_of 144 (Value.agg #[.int .i64 s1, .bool dh, .slice A1 l1.length c1]); refine ((aa Xg) s1 dh A1 c1 l1 s5 Ce A5 c5 l5 _ (bz hw0 (bz hB bel)) (jc.below (aa H1) (bz hB bel)) (jc.below (aa FG) bel)).mono ?_; rintro e w' ⟨s8, agn, A8, c8, l8, rfl, hf8, hb8⟩; have hbw := df (w := W2) bel hb8; have hsw := hbw.size; obtain ⟨hc, hfz⟩ := dz hbw) | (go_at_call_of 144 (Value.agg #[.int .i64 s2, .bool di, .slice A2 l2.length c2]); refine ((aa HQ2) s2 di A2 c2 l2 s5 Ce A5 c5 l5 _ (bz hw0 (bz hB bel)) (jc.below (aa H2) (bz hB bel)) (jc.below (aa FG) bel)).mono ?_; rintro e w' ⟨s9, agm, A9, c9, l9, rfl, hf9, ku⟩; have hf8 := jc.below (jc.below hf8 bel) ku; have hbw := df (w := W2) bel ku; have hsw := hbw.size; obtain ⟨hc, hfz⟩ := dz hbw))
  have hBB : Below W0.heap.size W0 w' := bz hB hbw
  have hblk : w'.heap[w.heap.size + 1 + 1]? = some (.cells #[.int .i64 0, .bool false, .slice none 0 0, .int .i64 0, .bool false, .slice none 0 0] 74 (0, 0)) := (hBB.block _ q2).trans NR.out
  have mr := Lib.hid hblk
  have ku : Below w.heap.size w w' := bz hw0 hBB
  clear hblk
  go_wp2_with fail
  exact bodyPost_ret (v := (Value.agg #[.int .i64 s8, .bool agn, .slice A8 l8.length c8, .int .i64 s9, .bool agm, .slice A9 l9.length c9])) (by simp [results, Tryz.results123, go_sem, hc, atz, aty, atx, atw, atv, atu, qr]) rfl
   ⟨s8, agn, A8, c8, l8, s9, agm, A9, c9, l9, rfl, (hf8).upto mr.out (Da _ _ _ _ _ _ _ _ _ _) (uw _ _ _ _ _ _ _ _), (hf9).upto mr.out (Da _ _ _ _ _ _ _ _ _ _) (uw _ _ _ _ _ _ _ _), ku.grown (uw _ _ _ _ _ _ _ _) ku.size (fun k hk => by injection hk with hk; omega)⟩
set_option maxHeartbeats 16000000 in
theorem ato (s1 : Int) (dh : Bool) (A1 : Option Addr) (c1 : Nat) (l1 : List Nat) (s2 : Int) (di : Bool) (A2 : Option Addr) (c2 : Nat) (l2 : List Nat) (z1 z2 g gn r1 r2 : Int) (w : World) (f1 : jc w s1 dh A1 c1 l1 z1) (f2 : jc w s2 di A2 c2 l2 z2) (hs : z2 < 0) (hgn : gn = -g)
  (hg : Du w 143 z1 z2 g) (hq1 : Du w 144 z1 gn r1) (hq2 : Du w 144 z2 gn r2) :
  Calls Tryz.prog 123 #[(Value.agg #[.int .i64 s1, .bool dh, .slice A1 l1.length c1]), (Value.agg #[.int .i64 s2, .bool di, .slice A2 l2.length c2])] w fun e w' => Io w r1 r2 e w' := by
 subst hgn
 have H1 := hide f1
 have H2 := hide f2
 have HG := hide hg
 have Xg := hide hq1
 have HQ2 := hide hq2
 have hs' : decide (jw z2 < 0) = true := decide_eq_true (by rw [Js]; exact hs)
 obtain ⟨o, ho⟩ : ∃ o, o = jw z2 := ⟨_, rfl⟩
 have HS := hide (fun W (f : jc W s2 di A2 c2 l2 z2) => (show Calls Tryz.prog 146 #[(Value.agg #[.int .i64 s2, .bool di, .slice A2 l2.length c2])] W fun e w' => e = .returned (.int .i64 o) ∧ Below W.heap.size W w' by rw [ho]; exact Be s2 di A2 c2 l2 z2 W f))
 rw [← ho] at hs'
 clear f1 f2 hg hq1 hq2 hs ho
 go_enter Tryz.func123, Tryz.ntmps123
 go_upto_region 1 with fail
 obtain ⟨n0, n1, n2, hsz, hw0⟩ := pz w (.cells #[.int .i64 s1, .bool dh, .slice A1 l1.length c1] 72) (.cells #[.int .i64 s2, .bool di, .slice A2 l2.length c2] 72) (.cells #[.int .i64 0, .bool false, .slice none 0 0, .int .i64 0, .bool false, .slice none 0 0] 74)
 generalize (((w.alloc (.cells #[.int .i64 s1, .bool dh, .slice A1 l1.length c1] 72)).alloc (.cells #[.int .i64 s2, .bool di, .slice A2 l2.length c2] 72)).alloc (.cells #[.int .i64 0, .bool false, .slice none 0 0, .int .i64 0, .bool false, .slice none 0 0] 74)) = W0 at *
 have yu : W0.cell? ⟨w.heap.size, 0, none⟩ = some (.int .i64 s1) := ah n0 0
 have yo : W0.cell? ⟨w.heap.size, 1, none⟩ = some (.bool dh) := ah n0 1
 have Ba : W0.cell? ⟨w.heap.size, 2, none⟩ = some (.slice A1 l1.length c1) := ah n0 2
 have q0 : w.heap.size < W0.heap.size := by omega
 have Am : W0.cell? ⟨w.heap.size + 1, 0, none⟩ = some (.int .i64 s2) := ah n1 0
 have Al : W0.cell? ⟨w.heap.size + 1, 1, none⟩ = some (.bool di) := ah n1 1
 have Ey : W0.cell? ⟨w.heap.size + 1, 2, none⟩ = some (.slice A2 l2.length c2) := ah n1 2
 have q1 : w.heap.size + 1 < W0.heap.size := by omega
 have agw : W0.cell? ⟨w.heap.size + 1 + 1, 0, none⟩ = some (.int .i64 0) := ah n2 0
 have agv : W0.cell? ⟨w.heap.size + 1 + 1, 1, none⟩ = some (.bool false) := ah n2 1
 have agu : W0.cell? ⟨w.heap.size + 1 + 1, 2, none⟩ = some (.slice none 0 0) := ah n2 2
 have agt : W0.cell? ⟨w.heap.size + 1 + 1, 3, none⟩ = some (.int .i64 0) := ah n2 3
 have ags : W0.cell? ⟨w.heap.size + 1 + 1, 4, none⟩ = some (.bool false) := ah n2 4
 have agr : W0.cell? ⟨w.heap.size + 1 + 1, 5, none⟩ = some (.slice none 0 0) := ah n2 5
 have q2 : w.heap.size + 1 + 1 < W0.heap.size := by omega
 have ahy := az n2 0
 have ahx := az n2 1
 have ahw := az n2 2
 have ahv := az n2 3
 have ahu := az n2 4
 have aht := az n2 5
 have NR := Lib.hid n2
 clear hsz n0 n1 n2
 replace H1 := hide ((aa H1).below hw0)
 replace H2 := hide ((aa H2).below hw0)
 go_cut [5] (fun s5_ wx => ∃ b5 : Nat, s5_ = .pointer (some ⟨b5, 0, none⟩) ∧ Nv wx b5 g ∧ Below W0.heap.size W0 wx ∧ W0.heap.size ≤ b5)
 case first =>
  go_wp2_with fail
  refine ((aa HG) s1 dh A1 c1 l1 s2 di A2 c2 l2 _ hw0 (aa H1) (aa H2)).mono ?_
  rintro e w' ⟨s5, Ce, A5, c5, l5, rfl, zo, hb5⟩
  go_wp2_with fail
  go_meet
  exact ⟨_, rfl, awl zo hb5 rfl⟩
 case rest =>
  revert hcut
  generalize wc = W1
  intro hcut
  obtain ⟨b5, rfl, ⟨s5, Ce, A5, c5, l5, n5, f5⟩, hB1, ob5⟩ := hcut
  have Zz : W1.cell? ⟨b5, 0, none⟩ = some (.int .i64 s5) := ah n5 0
  have Zy : W1.cell? ⟨b5, 1, none⟩ = some (.bool Ce) := ah n5 1
  have Zx : W1.cell? ⟨b5, 2, none⟩ = some (.slice A5 l5.length c5) := ah n5 2
  have y0 : W1.cell? ⟨w.heap.size + 1, 0, none⟩ = some (.int .i64 s2) := iq hB1 q1 Am
  have y1 : W1.cell? ⟨w.heap.size + 1, 1, none⟩ = some (.bool di) := iq hB1 q1 Al
  have y2 : W1.cell? ⟨w.heap.size + 1, 2, none⟩ = some (.slice A2 l2.length c2) := iq hB1 q1 Ey
  go_wp2_with fail
  refine ((aa HS) W1 ((aa H2).below hB1)).mono ?_
  rintro e W2 ⟨rfl, hb⟩
  have q5 := lt_of_block n5
  have n5' := (hb.block _ q5).trans n5
  have f5' := f5.below hb
  have hB := bz hB1 hb
  clear Zz Zy Zx y0 y1 y2 f5 n5 hB1
  have Zz : W2.cell? ⟨b5, 0, none⟩ = some (.int .i64 s5) := ah n5' 0
  have Zy : W2.cell? ⟨b5, 1, none⟩ = some (.bool Ce) := ah n5' 1
  have Zx : W2.cell? ⟨b5, 2, none⟩ = some (.slice A5 l5.length c5) := ah n5' 2
  have F5 := hide f5'
  clear f5' hb
  go_wp2_with fail
  refine (Sa s5 Ce A5 c5 l5 g _ (aa F5)).mono ?_
  rintro e W3 ⟨s7, Zv, A7, c7, l7, rfl, hf7, hb⟩
  have n5 := (hb.block _ (lt_of_block n5')).trans n5'
  replace hB := bz hB hb
  clear Zz Zy Zx n5' hb
  have Zz : W3.cell? ⟨b5, 0, none⟩ = some (.int .i64 s5) := ah n5 0
  have Zy : W3.cell? ⟨b5, 1, none⟩ = some (.bool Ce) := ah n5 1
  have Zx : W3.cell? ⟨b5, 2, none⟩ = some (.slice A5 l5.length c5) := ah n5 2
  have bjf := az n5 0
  have bje := az n5 1
  have bjd := az n5 2
  have HF7 := hide hf7
  have N5 := hide n5
  clear hf7 n5
  go_upto_region 4 with fail
  have pb := alj (u0 := .int .i64 s7) (u1 := .bool Zv) (u2 := .slice A7 l7.length c7) (aa N5)
  have g3 := ll W3 b5 (.int .i64 s7) (.bool Zv) (.slice A7 l7.length c7)
  have fg := (aa HF7).upto (aa N5) (zu _ _ _ _ _) g3
  replace hB := hB.grown g3 hB.size (fun k hk => by injection hk with hk; omega)
  have ng := pb
  clear pb g3 Zz Zy Zx bjf bje bjd
  generalize (((W3.setCell ⟨b5, 0, none⟩ (.int .i64 s7)).setCell ⟨b5, 1, none⟩ (.bool Zv)).setCell ⟨b5, 2, none⟩ (.slice A7 l7.length c7)) = W4 at *
  have FG := hide fg
  clear fg
  have abn : W4.cell? ⟨w.heap.size, 0, none⟩ = some (.int .i64 s1) := iq hB q0 yu
  have abm : W4.cell? ⟨w.heap.size, 1, none⟩ = some (.bool dh) := iq hB q0 yo
  have abl : W4.cell? ⟨w.heap.size, 2, none⟩ = some (.slice A1 l1.length c1) := iq hB q0 Ba
  have Rx : w.heap.size < W4.heap.size := Nat.lt_of_lt_of_le q0 hB.size
  have abk : W4.cell? ⟨w.heap.size + 1, 0, none⟩ = some (.int .i64 s2) := iq hB q1 Am
  have abj : W4.cell? ⟨w.heap.size + 1, 1, none⟩ = some (.bool di) := iq hB q1 Al
  have abh : W4.cell? ⟨w.heap.size + 1, 2, none⟩ = some (.slice A2 l2.length c2) := iq hB q1 Ey
  have q1' : w.heap.size + 1 < W4.heap.size := Nat.lt_of_lt_of_le q1 hB.size
  have Ul := ah ng 0
  have Uk := ah ng 1
  have Uj := ah ng 2
  have Rw := lt_of_block ng
  simp only [Array.getElem?_eq_getElem, mf, ma, lv] at Ul Uk Uj
  have atz : W4.cell? ⟨w.heap.size + 1 + 1, 0, none⟩ = some (.int .i64 0) := iq hB q2 agw
  have bkl : W4.frozen? ⟨w.heap.size + 1 + 1, 0, none⟩ = false := (hB.frozen (p := ⟨w.heap.size + 1 + 1, 0, none⟩) q2).trans ahy
  have aty : W4.cell? ⟨w.heap.size + 1 + 1, 1, none⟩ = some (.bool false) := iq hB q2 agv
  have bkk : W4.frozen? ⟨w.heap.size + 1 + 1, 1, none⟩ = false := (hB.frozen (p := ⟨w.heap.size + 1 + 1, 1, none⟩) q2).trans ahx
  have atx : W4.cell? ⟨w.heap.size + 1 + 1, 2, none⟩ = some (.slice none 0 0) := iq hB q2 agu
  have bkj : W4.frozen? ⟨w.heap.size + 1 + 1, 2, none⟩ = false := (hB.frozen (p := ⟨w.heap.size + 1 + 1, 2, none⟩) q2).trans ahw
  have atw : W4.cell? ⟨w.heap.size + 1 + 1, 3, none⟩ = some (.int .i64 0) := iq hB q2 agt
  have bki : W4.frozen? ⟨w.heap.size + 1 + 1, 3, none⟩ = false := (hB.frozen (p := ⟨w.heap.size + 1 + 1, 3, none⟩) q2).trans ahv
  have atv : W4.cell? ⟨w.heap.size + 1 + 1, 4, none⟩ = some (.bool false) := iq hB q2 ags
  have bkh : W4.frozen? ⟨w.heap.size + 1 + 1, 4, none⟩ = false := (hB.frozen (p := ⟨w.heap.size + 1 + 1, 4, none⟩) q2).trans ahu
  have atu : W4.cell? ⟨w.heap.size + 1 + 1, 5, none⟩ = some (.slice none 0 0) := iq hB q2 agr
  have bkg : W4.frozen? ⟨w.heap.size + 1 + 1, 5, none⟩ = false := (hB.frozen (p := ⟨w.heap.size + 1 + 1, 5, none⟩) q2).trans aht
  have qr : w.heap.size + 1 + 1 < W4.heap.size := Nat.lt_of_lt_of_le q2 hB.size
  have or5 : w.heap.size + 1 + 1 < b5 := Nat.lt_of_lt_of_le q2 ob5
  clear yu yo Ba Am Al Ey agw agv agu agt ags agr ahy ahx ahw ahv ahu aht ng
  have KEEP := hide (show ∀ X, Below W4.heap.size W4 X → X.cell? ⟨w.heap.size, 0, none⟩ = some (.int .i64 s1) ∧ X.cell? ⟨w.heap.size, 1, none⟩ = some (.bool dh) ∧ X.cell? ⟨w.heap.size, 2, none⟩ = some (.slice A1 l1.length c1) ∧ X.cell? ⟨w.heap.size + 1, 0, none⟩ = some (.int .i64 s2) ∧ X.cell? ⟨w.heap.size + 1, 1, none⟩ = some (.bool di) ∧ X.cell? ⟨w.heap.size + 1, 2, none⟩ = some (.slice A2 l2.length c2) ∧ X.cell? ⟨b5, 0, none⟩ = some (.int .i64 s7) ∧ X.cell? ⟨b5, 1, none⟩ = some (.bool Zv) ∧ X.cell? ⟨b5, 2, none⟩ = some (.slice A7 l7.length c7) from fun X hX => ⟨iq hX Rx abn, iq hX Rx abm, iq hX Rx abl, iq hX q1' abk, iq hX q1' abj, iq hX q1' abh, iq hX Rw Ul, iq hX Rw Uk, iq hX Rw Uj⟩)
  go_wp2_with fail
  go_region_held3 (fun w' => w'.cell? ⟨w.heap.size, 0, none⟩ = some (.int .i64 s1) ∧ w'.cell? ⟨w.heap.size, 1, none⟩ = some (.bool dh) ∧ w'.cell? ⟨w.heap.size, 2, none⟩ = some (.slice A1 l1.length c1) ∧ w'.cell? ⟨w.heap.size + 1, 0, none⟩ = some (.int .i64 s2) ∧ w'.cell? ⟨w.heap.size + 1, 1, none⟩ = some (.bool di) ∧ w'.cell? ⟨w.heap.size + 1, 2, none⟩ = some (.slice A2 l2.length c2) ∧ w'.cell? ⟨b5, 0, none⟩ = some (.int .i64 s7) ∧ w'.cell? ⟨b5, 1, none⟩ = some (.bool Zv) ∧ w'.cell? ⟨b5, 2, none⟩ = some (.slice A7 l7.length c7)) (first | with_reducible exact ⟨(mi _ _ _ _ _ _ _ _ om).trans (iq hbw Rx abn), (mi _ _ _ _ _ _ _ _ om).trans (iq hbw Rx abm), (mi _ _ _ _ _ _ _ _ om).trans (iq hbw Rx abl), (mi _ _ _ _ _ _ _ _ om).trans (iq hbw q1' abk), (mi _ _ _ _ _ _ _ _ om).trans (iq hbw q1' abj), (mi _ _ _ _ _ _ _ _ om).trans (iq hbw q1' abh), (mi _ _ _ _ _ _ _ _ om).trans (iq hbw Rw Ul), (mi _ _ _ _ _ _ _ _ om).trans (iq hbw Rw Uk), (mi _ _ _ _ _ _ _ _ om).trans (iq hbw Rw Uj)⟩ | with_reducible exact (aa KEEP) _ bel) (first | (go_at_call_of 144 (Value.agg #[.int .i64 s1, .bool dh, .slice A1 l1.length c1]); refine ((aa Xg) s1 dh A1 c1 l1 s7 Zv A7 c7 l7 _ (bz hw0 (bz hB bel)) (jc.below (aa H1) (bz hB bel)) (jc.below (aa FG) bel)).mono ?_; rintro e w' ⟨s8, agn, A8, c8, l8, rfl, hf8, hb8⟩; have hbw := df (w := W4) bel hb8; have hsw := hbw.size; obtain ⟨hc, hfz⟩ := dz hbw) | (go_at_call_of 144 (Value.agg #[.int .i64 s2, .bool di, .slice A2 l2.length c2]); refine ((aa HQ2) s2 di A2 c2 l2 s7 Zv A7 c7 l7 _ (bz hw0 (bz hB bel)) (jc.below (aa H2) (bz hB bel)) (jc.below (aa FG) bel)).mono ?_; rintro e w' ⟨s9, agm, A9, c9, l9, rfl, hf9, ku⟩; have hf8 := jc.below (jc.below hf8 bel) ku; have hbw := df (w := W4) bel ku; have hsw := hbw.size; obtain ⟨hc, hfz⟩ := dz hbw))
  have hBB : Below W0.heap.size W0 w' := bz hB hbw
  have hblk : w'.heap[w.heap.size + 1 + 1]? = some (.cells #[.int .i64 0, .bool false, .slice none 0 0, .int .i64 0, .bool false, .slice none 0 0] 74 (0, 0)) := (hBB.block _ q2).trans NR.out
  have mr := Lib.hid hblk
  have ku : Below w.heap.size w w' := bz hw0 hBB
  clear hblk
  go_wp2_with fail
  exact bodyPost_ret (v := (Value.agg #[.int .i64 s8, .bool agn, .slice A8 l8.length c8, .int .i64 s9, .bool agm, .slice A9 l9.length c9])) (by simp [results, Tryz.results123, go_sem, hc, atz, aty, atx, atw, atv, atu, qr]) rfl
   ⟨s8, agn, A8, c8, l8, s9, agm, A9, c9, l9, rfl, (hf8).upto mr.out (Da _ _ _ _ _ _ _ _ _ _) (uw _ _ _ _ _ _ _ _), (hf9).upto mr.out (Da _ _ _ _ _ _ _ _ _ _) (uw _ _ _ _ _ _ _ _), ku.grown (uw _ _ _ _ _ _ _ _) ku.size (fun k hk => by injection hk with hk; omega)⟩
theorem atp {K : Nat} (s1 : Int) (dh : Bool) (A1 : Option Addr) (c1 : Nat) (l1 : List Nat) (s2 : Int) (di : Bool) (A2 : Option Addr) (c2 : Nat) (l2 : List Nat) (z1 z2 : Int) (w : World) (hT : rz w) (f1 : jc w s1 dh A1 c1 l1 z1) (f2 : jc w s2 di A2 c2 l2 z2) (h0 : z2 ≠ 0) (hx : Wd.Sz dw K z1) (hy : Wd.Sz dw K z2) (hK : K ≤ lim) :
  Calls Tryz.prog 123 #[(Value.agg #[.int .i64 s1, .bool dh, .slice A1 l1.length c1]), (Value.agg #[.int .i64 s2, .bool di, .slice A2 l2.length c2])] w fun e w' => Io w (Rat.divInt z1 z2).num ((Rat.divInt z1 z2).den : Int) e w' := by
 have hp := Wd.Qe z1 z2 h0
 have g0 : 0 < z1.natAbs.gcd z2.natAbs := Nat.gcd_pos_of_pos_right _ om
 have sg : Wd.Sz dw K ((z1.natAbs.gcd z2.natAbs : Nat) : Int) := hy.gcd_right h0
 rw [hp.1, hp.2]
 by_cases hs : z2 < 0
 ·
  have e : z2.sign * ((z1.natAbs.gcd z2.natAbs : Nat) : Int) = -((z1.natAbs.gcd z2.natAbs : Nat) : Int) := by rw [Int.sign_eq_neg_one_of_neg hs]; omega
  rw [e]
  exact ato s1 dh A1 c1 l1 s2 di A2 c2 l2 z1 z2 _ _ _ _ w f1 f2 hs rfl (Rz hT hx hy hK rfl) (Fj hx sg.neg hK om rfl) (Fj hy sg.neg hK om rfl)
 ·
  have e : z2.sign * ((z1.natAbs.gcd z2.natAbs : Nat) : Int) = ((z1.natAbs.gcd z2.natAbs : Nat) : Int) := by rw [Int.sign_eq_one_of_pos om]; omega
  rw [e]
  exact atn s1 dh A1 c1 l1 s2 di A2 c2 l2 z1 z2 _ _ _ w f1 f2 hs (Rz hT hx hy hK rfl) (Fj hx sg hK om rfl) (Fj hy sg hK om rfl)

end Go.Proofs.YtjdnmdlnaoedoaaGreatDoor
namespace Go.Proofs.YtjdnmdlnaoedoaaGreatDoor
open Go.RowKit

structure si (w : World) (A : Option Addr) (cap : Nat) (l : List Nat) (n : Nat) : Prop where
 ws : Ws .u32 w w.heap.size A l
 uu : l.length ≤ cap
 cap2 : cap ≤ 9223372036854775807
 lt : ∀ x ∈ l, x < dm
 norm : Wd.Norm l
 val : Wd.val dm l = n

theorem si.below {w w' : World} {A : Option Addr} {cap : Nat} {l : List Nat} {n : Nat} (h : si w A cap l n) (hb : Below w.heap.size w w') : si w' A cap l n :=
 ⟨(h.ws.below hb).more hb.size, h.uu, h.cap2, h.lt, h.norm, h.val⟩
theorem si.len {w : World} {A : Option Addr} {cap : Nat} {l : List Nat} {n k : Nat} (h : si w A cap l n) (hn : n < dm ^ k) : l.length ≤ k :=
 Wd.Zu Bc l h.norm k (by rw [h.val]; exact hn)
theorem si.Rl (w : World) (cap : Nat) (hc : cap ≤ 9223372036854775807) : si w none cap [] 0 := ⟨Ws.Rl, by simp, hc, by simp, .inl rfl, rfl⟩
theorem si.Nb {w : World} {A : Option Addr} {cap : Nat} {l : List Nat} {n : Nat} (h : si w A cap l n) : n < dm ^ l.length := by
 rw [← h.val]; exact Wd.Ch l h.lt

def ane (w : World) (n : Nat) (e : Ending) (w' : World) : Prop := ∃ A cap l, e = .returned (.slice A l.length cap) ∧ si w' A cap l n ∧ Below w.heap.size w w'

theorem si.Cz {w : World} {b cap : Nat} {T : TypeId} {zs : List Nat} {k : Nat} (hz : ZB .u32 w b T zs) (hlt : ∀ x ∈ zs, x < dm) (ht : Wd.Hz zs (zs.take k)) (hk : k ≤ zs.length) (hc : zs.length ≤ cap) (hc2 : cap ≤ 9223372036854775807) :
  si w (some ⟨b, 0, none⟩) cap (zs.take k) (Wd.val dm zs) :=
 ⟨(hz.Fh _ hz.lt).Qv k, by simp; omega, hc2, fun x hx => hlt x (List.mem_of_mem_take hx), ht.norm, ht.val _⟩

set_option maxHeartbeats 400000 in
theorem Cr (A : Option Addr) (cap : Nat) (l : List Nat) (B : Nat) (w : World) (hr : Ws .u32 w B A l) (hcap : l.length ≤ cap) (hm : cap ≤ 9223372036854775807) :
  Calls Tryz.prog 160 #[.slice A l.length cap] w fun e w' => (∃ k, e = .returned (.slice A k cap) ∧ Wd.Hz l (l.take k) ∧ k ≤ l.length) ∧ w' = w := by
 go_enter Tryz.func160, Tryz.ntmps160
 go_wp2
 go_loop [0] (fun v => ∃ k : Nat, k ≤ l.length ∧ v = .slice A k cap ∧ ∀ i, k ≤ i → i < l.length → l.getD i 0 = 0) (fun v => slen v)
 case atStart => exact ⟨l.length, Nat.le_refl _, rfl, fun i h1 h2 => by omega⟩
 case round =>
  obtain ⟨k, hk, rfl, hz⟩ := hrel
  have HZ := Lib.hid hz
  clear hz
  by_cases h0 : k = 0
  ·
   subst h0
   go_wp2
   go_ret
   exact ⟨⟨0, rfl, ⟨0, Nat.zero_le _, rfl, HZ.out, .inl rfl⟩, Nat.zero_le _⟩, rfl⟩
  ·
   obtain ⟨b, off, rfl, hb, hc⟩ := hr om
   have hck := hc (k - 1) om
   clear hc
   go_wp2
   ·
    have ht : (((Wd.g l (k - 1) : Nat) : Int) == 0) = true := by assumption
    go_round
    case rel =>
     refine ⟨k - 1, by omega, rfl, fun i h1 h2 => ?_⟩
     by_cases hi : i = k - 1
     ·
      subst hi; have := beq_iff_eq.1 ht; rw [Wd.uf] at this; omega
     ·
      exact HZ.out i om h2
    case measure => simp [slen]; omega
   ·
    have ht : (((Wd.g l (k - 1) : Nat) : Int) == 0) = false := by assumption
    go_ret
    refine ⟨⟨k, rfl, ⟨k, hk, rfl, HZ.out, .inr ?_⟩, hk⟩, rfl⟩
    have := beq_eq_false_iff_ne.1 ht; rw [Wd.uf] at this; omega

theorem Om {w w1 : World} (h : ∃ t, w1 = w.drewN t) (k : Nat) : ∃ t, w1.drewN k = w.drewN t := by
 obtain ⟨t, rfl⟩ := h
 exact ⟨t + k, by simp [World.drewN, Nat.add_assoc]⟩
theorem World.drewN_drewN (w : World) (a b : Nat) : (w.drewN a).drewN b = w.drewN (a + b) := by
 simp [World.drewN, Nat.add_assoc]
set_option maxHeartbeats 2000000 in
theorem Ic (Ax Ay : Option Addr) (cx cy : Nat) (xl yl : List Nat) (n m : Nat) (w : World) (hx : si w Ax cx xl n) (hy : si w Ay cy yl m) :
  Calls Tryz.prog 162 #[.slice Ax xl.length cx, .slice Ay yl.length cy] w fun e w' => e = .returned (.int .i64 (wm n m)) ∧ ∃ k, w' = w.drewN k := by
 have hx1 := hx.uu; have hx2 := hx.cap2; have hy1 := hy.uu; have hy2 := hy.cap2
 by_cases hl : xl.length = yl.length
 ·
  have hb : (((xl.length : Nat) : Int) != ((yl.length : Nat) : Int)) = false := by simp; omega
  go_enter Tryz.func162, Tryz.ntmps162
  go_wp2
  go_loopw [5] (fun iv wr => ∃ i : Int, -1 ≤ i ∧ i < xl.length ∧ iv = .int .i64 i ∧ Hid (∀ j : Nat, i < j → j < xl.length → xl.getD j 0 = yl.getD j 0) ∧ Hid (∃ t, wr = w.drewN t)) (fun iv _ => (intOf iv + 1).toNat)
  case atStart => exact ⟨(xl.length : Int) - 1, by omega, by omega, by go_num, fun j h1 h2 => by omega, ⟨0, rfl⟩⟩
  case round =>
   obtain ⟨i, hi1, hi2, rfl, hall, ht⟩ := hrel
   by_cases h0 : i < 0
   ·
    have hv : wm n m = 0 := by
     have : xl = yl := Wd.Ns xl yl hl (fun j hj => hall.out j om hj)
     rw [← hx.val, ← hy.val, this]
     unfold wm
     rw [if_neg om, if_neg om]
    have HV := Lib.hid hv
    clear hv hl
    go_wp2
    go_ret
    exact ⟨xx HV.out.symm, ht.out⟩
   ·
    obtain ⟨j, rfl⟩ := Int.eq_ofNat_of_zero_le (show 0 ≤ i by omega)
    have Wn : j < xl.length := by omega
    have hjy : j < yl.length := by omega
    obtain ⟨bx, ox, rfl, hbx, hcx⟩ := hx.ws om
    obtain ⟨by', oy, rfl, hby, hcy⟩ := hy.ws om
    have hsame : ∀ p, wr.cell? p = w.cell? p := fun p => by obtain ⟨t, rfl⟩ := ht.out; rfl
    have Fb := (hsame _).trans (hcx j Wn)
    have Py := (hsame _).trans (hcy j hjy)
    clear hcx hcy hsame
    obtain ⟨xj, hxj⟩ : ∃ xj, xj = Wd.g xl j := ⟨_, rfl⟩
    obtain ⟨yj, hyj⟩ : ∃ yj, yj = Wd.g yl j := ⟨_, rfl⟩
    rw [← hxj] at Fb
    rw [← hyj] at Py
    by_cases hlt : xj < yj
    ·
     have d1 : decide ((xj : Int) < (yj : Int)) = true := decide_eq_true om
     have d1' : decide (xj < yj) = true := decide_eq_true hlt
     have hv : wm n m = -1 := by
      rw [← hx.val, ← hy.val]
      unfold wm
      rw [if_pos (Wd.Ib xl yl hx.lt hl j Wn (fun t h1 h2 => hall.out t om h2) (by show Wd.g xl j < Wd.g yl j; omega))]
     have HV := Lib.hid hv
     clear hv hxj hyj hl hlt
     go_wp2_with fail
     go_quiet (fail)
     go_wp2_with fail
     go_ret
     exact ⟨xx HV.out.symm, by first | exact Om (Om ht.out _) _ | exact Om ht.out _⟩
    ·
     have d1 : decide ((xj : Int) < (yj : Int)) = false := decide_eq_false om
     have d1' : decide (xj < yj) = false := decide_eq_false hlt
     by_cases hgt : yj < xj
     ·
      have d2 : decide ((yj : Int) < (xj : Int)) = true := decide_eq_true om
      have d2' : decide (yj < xj) = true := decide_eq_true hgt
      have hv : wm n m = 1 := by
       rw [← hx.val, ← hy.val]
       unfold wm
       have := Wd.Ib yl xl hy.lt hl.symm j hjy (fun t h1 h2 => (hall.out t om om).symm) (by show Wd.g yl j < Wd.g xl j; omega)
       rw [if_neg om, if_pos this]
      have HV := Lib.hid hv
      clear hv hxj hyj hl hlt hgt
      go_wp2_with fail
      go_quiet (fail)
      go_wp2_with fail
      go_quiet (fail)
      go_wp2_with fail
      go_ret
      exact ⟨xx HV.out.symm, by first | exact Om (Om ht.out _) _ | exact Om ht.out _⟩
     ·
      have d2 : decide ((yj : Int) < (xj : Int)) = false := decide_eq_false om
      have d2' : decide (yj < xj) = false := decide_eq_false hgt
      have hnext : ∀ t : Nat, ((j : Int) - 1 < t) → t < xl.length → xl.getD t 0 = yl.getD t 0 := fun t h1 h2 => by
       by_cases ht : t = j
       ·
        subst ht; exact hxj.symm.trans ((show xj = yj by omega).trans hyj)
       ·
        exact hall.out t om h2
      have HN := hide hnext
      clear hnext hxj hyj hl hlt hgt
      go_wp2_with fail
      go_quiet (fail)
      go_wp2_with fail
      go_quiet (fail)
      go_wp2_with fail
      go_roundw
      case rel => exact ⟨(j : Int) - 1, by omega, by omega, by go_num, HN, by first | exact Om (Om ht.out _) _ | exact Om ht.out _⟩
      case measure => simp [intOf] <;> omega
 ·
  have hb : (((xl.length : Nat) : Int) != ((yl.length : Nat) : Int)) = true := by simp; omega
  have ho : wm n m = if xl.length < yl.length then -1 else 1 := by
   unfold wm
   rw [← hx.val, ← hy.val]
   by_cases h : xl.length < yl.length
   ·
    rw [if_pos h, if_pos (Wd.Ah Bc xl yl hx.lt hy.norm h)]
   ·
    have := Wd.Ah Bc yl xl hy.lt hx.norm om
    rw [if_neg h, if_neg om, if_pos this]
  have HO := Lib.hid ho
  clear ho
  go_enter Tryz.func162, Tryz.ntmps162
  go_wp2
  all_goals
   go_ret
   refine ⟨xx ?_, ⟨0, rfl⟩⟩
   rw [HO.out]
  ·
   rw [if_pos om]
  ·
   rw [if_neg om]
end Go.Proofs.YtjdnmdlnaoedoaaGreatDoor
namespace Go.Proofs.YtjdnmdlnaoedoaaGreatDoor
open Go.RowKit

theorem abo : (Tryz.prog.info? 156).map (fun i => (i.zero, i.size, i.bytes)) = some (some (.int .u32 0), 1, 4) := by kernel_rfl
theorem abd (n : Nat) (h : n ≤ 35184372088832) (w : World) : (Instr.makeSlice 59 (.int .i64 (n : Int)) (.int .i64 (n : Int))).run Tryz.prog w =
  .ok (.slice (some ⟨w.heap.size, 0, none⟩) n n) (w.alloc (.cells (xy .u32 (List.replicate n 0)) 156)) := by
 obtain ⟨i0, hi, hz0, hz1, hz2⟩ := info_parts abo
 have hr := run_make (P := Tryz.prog) w 59 156 i0 (.int .u32 0) Tryz.underlying59 hi hz0 .i64 .i64 n n om (Int.le_refl _) (by rw [hz2]; omega) om
 simp only [Int.toNat_natCast] at hr
 rw [hr, hz1, Kz]

theorem jy {a : Int} {c : Nat} (h : a = (c : Int)) (hc : c < dw) : IntKind.u64.wrap a = ((c : Nat) : Int) := by
 rw [IntKind.wrap_u64, h]; rw [jb] at hc; omega
theorem Cn (c : Nat) : IntKind.u32.wrap (c : Int) = ((c % dm : Nat) : Int) := by
 rw [IntKind.wrap_u32, gp]; omega

set_option maxHeartbeats 2000000 in
theorem ald (Ax Ay : Option Addr) (cx cy : Nat) (xl yl : List Nat) (n m : Nat) (w : World) (hx : si w Ax cx xl n) (hy : si w Ay cy yl m) (hk : xl.length + yl.length ≤ 35184372088832) :
  Calls Tryz.prog 164 #[.slice Ax xl.length cx, .slice Ay yl.length cy] w fun e w' => ane w (n * m) e w' := by
 have hmk := abd (xl.length + yl.length) hk
 simp only [Int.natCast_add] at hmk
 have hx1 := hx.uu; have hx2 := hx.cap2; have hy1 := hy.uu; have hy2 := hy.cap2
 go_enter Tryz.func164, Tryz.ntmps164
 go_wp2
 go_loopw [6] (fun iv wr => ∃ (i : Nat) (zr : List Nat), i ≤ xl.length ∧ iv = .int .i64 ((i : Nat) : Int) ∧ Wd.Hu dm xl yl zr i ∧ ZB .u32 wr w.heap.size 156 zr ∧ Below w.heap.size w wr) (fun iv _ => xl.length - (intOf iv).toNat)
 case atStart => exact ⟨0, List.replicate (xl.length + yl.length) 0, Nat.zero_le _, rfl, Wd.Hu.start _ _ _ (by rw [gp]; omega) (by simp) (Oa _), heap_alloc_new w _, (Below.refl _ _).alloc (Nat.le_refl _) _⟩
 case round =>
  obtain ⟨i, zr, hi, rfl, hinv, oq, hg⟩ := hrel
  obtain ⟨wo, rfl⟩ : ∃ wo : World, wo = wr := ⟨_, rfl⟩
  have hlen := hinv.len
  have HI := Lib.hid hinv
  clear hinv
  by_cases hlt : i < xl.length
  ·
   obtain ⟨bx, ox, rfl, hbx, hcx⟩ := hx.ws om
   have bbg := hcx i hlt
   have HX := hide (And.intro hbx bbg)
   clear hcx bbg
   obtain ⟨xi, hxi⟩ : ∃ xi, xi = Wd.g xl i := ⟨_, rfl⟩
   rw [← hxi] at HX
   have zb : xi < dm := by rw [hxi]; exact Wd.getD_lt (by rw [gp]; omega) _ hx.lt i
   have HXI := Lib.hid hxi
   have HXB := hide zb
   clear hxi zb
   go_wp2_with fail
   go_loopw [7, 8] (fun cv jv wr => ∃ (j c : Nat) (zc : List Nat), j ≤ yl.length ∧ cv = .int .u64 ((c : Nat) : Int) ∧ jv = .int .i64 ((j : Nat) : Int) ∧ Wd.Gq dm zr yl zc i (Wd.g xl i) j c ∧ ZB .u32 wr w.heap.size 156 zc ∧ Below w.heap.size w wr) (fun _ jv _ => yl.length - (intOf jv).toNat)
   case atStart => exact ⟨0, 0, zr, Nat.zero_le _, rfl, rfl, Wd.Gq.start _ _ _ _ (by rw [gp]; omega) HI.out.lt, oq, hg⟩
   case round =>
    obtain ⟨j, c, zc, hj, rfl, rfl, Ur, hzc, hgc⟩ := hrel
    have Us := Ur.len
    have HM := Lib.hid Ur
    clear Ur
    have Fb := (hgc.cell (p := ⟨bx, ox + i, none⟩) (aa HX).1).trans (aa HX).2
    by_cases hjl : j < yl.length
    ·
     obtain ⟨by', oy, rfl, hby, hcy⟩ := hy.ws om
     have Py := (hgc.cell (p := ⟨by', oy + j, none⟩) hby).trans (hcy j hjl)
     clear hcy
     have Wh := hzc.cell (i + j) om
     have Pw := hzc.frozen (i + j)
     obtain ⟨yj, hyj⟩ : ∃ yj, yj = Wd.g yl j := ⟨_, rfl⟩
     obtain ⟨z, hz⟩ : ∃ z, z = Wd.g zc (i + j) := ⟨_, rfl⟩
     rw [← hyj] at Py
     rw [← hz] at Wh
     have Ck : yj < dm := by rw [hyj]; exact Wd.getD_lt (by rw [gp]; omega) _ hy.lt j
     have Ir : z < dm := by rw [hz]; exact Wd.getD_lt (by rw [gp]; omega) _ HM.out.lt _
     have hbd := Wd.Mx (aa HXB) Ck HM.out.c1 Ir
     have hBB : dm * dm = dw := by rw [gp, jb]
     rw [hBB] at hbd
     obtain ⟨p, hp⟩ : ∃ t, t = xi * yj := ⟨_, rfl⟩
     obtain ⟨s, hs⟩ : ∃ t, t = p + z := ⟨_, rfl⟩
     obtain ⟨r, hr⟩ : ∃ t, t = c + s := ⟨_, rfl⟩
     obtain ⟨d, hd⟩ : ∃ t, t = r % dm := ⟨_, rfl⟩
     obtain ⟨q, hq⟩ : ∃ t, t = r / dm := ⟨_, rfl⟩
     rw [← hp] at hbd
     have e1 : IntKind.u64.wrap ((xi : Int) * (yj : Int)) = (p : Int) := jy (by rw [hp]; simp) om
     have e2 : IntKind.u64.wrap ((p : Int) + (z : Int)) = (s : Int) := jy (by rw [hs]; simp) om
     have e3 : IntKind.u64.wrap ((c : Int) + (s : Int)) = (r : Int) := jy (by rw [hr]; simp) om
     have e4 : IntKind.u32.wrap (r : Int) = (d : Int) := by rw [Cn, hd]
     have e4' : (r : Int) % 4294967296 = (d : Int) := by rw [hd, gp]; omega
     have b64 : ∀ t : Nat, t < dm → t < dw := fun t ht => by rw [gp] at ht; rw [jb]; omega
     have e6 : IntKind.u64.wrap (xi : Int) = (xi : Int) := jy rfl (b64 _ (aa HXB))
     have e7 : IntKind.u64.wrap (yj : Int) = (yj : Int) := jy rfl (b64 _ Ck)
     have e8 : IntKind.u64.wrap (z : Int) = (z : Int) := jy rfl (b64 _ Ir)
     have e5 : (r : Int) / 4294967296 = (q : Int) := by rw [hq, gp]; omega
     have hfin : ∀ t W, W = (wr.drewN t).setCell ⟨w.heap.size, i + j, none⟩ (.int .u32 (d : Int)) → Wd.Gq dm zr yl (zc.set (i + j) d) i (Wd.g xl i) (j + 1) q ∧ ZB .u32 W w.heap.size 156 (zc.set (i + j) d) ∧ Below w.heap.size w W := by
      rintro t W rfl
      refine ⟨?_, (hzc.drewN t).Dx _ _, (qj hgc t).setCell (by simp) _⟩
      have := HM.out.step Bc (by rw [← HXI.out]; exact aa HXB) hy.lt om
      have e : r = Wd.g xl i * yl.getD j 0 + c + zc.getD (i + j) 0 := by
       rw [hr, hs, hp, HXI.out, hyj, hz]; show c + (Wd.g xl i * yl.getD j 0 + zc.getD (i + j) 0) = _; omega
      rw [hd, hq, e]
      exact this
     have HF := hide hfin
     clear hfin b64 hbd hBB hp hs hr hd hq hyj hz Ck Ir hzc hgc oq hg hlen Us
     go_wp2_with fail
     go_quiet (fail)
     go_wp2_with fail
     go_roundw
     case rel =>
      obtain ⟨r1, r2, r3⟩ := (aa HF) _ _ rfl
      exact ⟨j + 1, q, zc.set (i + j) d, by omega, rfl, by go_num, r1, r2, r3⟩
     case measure => simp [intOf]; omega
    ·
     have e : j = yl.length := by omega
     subst e
     have Wh := hzc.cell (i + yl.length) om
     have Pw := hzc.frozen (i + yl.length)
     have hrow := HI.out.step hlt HM.out
     have HR := Lib.hid hrow
     have hc32 : (c : Int) % 4294967296 = (c : Int) := by have := HM.out.c1; rw [gp] at this; omega
     have bph : IntKind.u32.wrap (c : Int) = (c : Int) := by rw [IntKind.wrap_u32]; exact hc32
     clear hrow
     have hfin : ∀ W, W = wr.setCell ⟨w.heap.size, i + yl.length, none⟩ (.int .u32 (c : Int)) → ZB .u32 W w.heap.size 156 (zc.set (i + yl.length) c) ∧ Below w.heap.size w W := by
      rintro W rfl
      exact ⟨hzc.Dx _ _, hgc.setCell (by simp) _⟩
     have HF := hide hfin
     clear hfin hzc hgc oq hg hlen Us Fb
     go_wp2_with fail
     go_roundw
     case rel =>
      obtain ⟨r2, r3⟩ := (aa HF) _ rfl
      exact ⟨i + 1, zc.set (i + yl.length) c, by omega, by go_num, HR.out, r2, r3⟩
     case measure => simp [intOf]; omega
  ·
   have e : i = xl.length := by omega
   subst e
   have hlt2 := HI.out.lt
   have hv := HI.out.done
   rw [hx.val, hy.val] at hv
   have HV := Lib.hid hv
   have yc := hide hlt2
   clear hv hlt2
   go_wp2_with fail
   have htr := Cr (some ⟨w.heap.size, 0, none⟩) zr.length zr (wo.heap.size) wo (oq.Fh _ oq.lt) (Nat.le_refl _) om
   rw [hlen] at htr
   refine htr.mono ?_
   rintro e w' ⟨⟨k, rfl, ht, hk2⟩, rfl⟩
   go_wp2_with fail
   go_ret
   have hk3 : k = (zr.take k).length := by simp; omega
   refine ⟨some ⟨w.heap.size, 0, none⟩, xl.length + yl.length, zr.take k, Fv hk3, ?_, hg⟩
   have := si.Cz (cap := xl.length + yl.length) oq (aa yc) ht om om om
   rwa [HV.out] at this
end Go.Proofs.YtjdnmdlnaoedoaaGreatDoor
namespace Go.Proofs.YtjdnmdlnaoedoaaGreatDoor
open Go.RowKit

theorem Rh (a b : Nat) (ha : a < dm) (hb : b < dm) : Go.bits .or .u32 (a : Int) (b : Int) = ((a ||| b : Nat) : Int) := by
 rw [gp] at ha hb
 have hx : a ||| b < 2 ^ 32 := Nat.or_lt_two_pow om om
 have h1 : (BitVec.ofInt 32 (a : Int)).toNat = a := by
  rw [BitVec.ofInt_natCast, BitVec.toNat_ofNat]; exact Nat.mod_eq_of_lt om
 have h2 : (BitVec.ofInt 32 (b : Int)).toNat = b := by
  rw [BitVec.ofInt_natCast, BitVec.toNat_ofNat]; exact Nat.mod_eq_of_lt om
 show IntKind.u32.wrap ((BitVec.ofInt 32 (a : Int) ||| BitVec.ofInt 32 (b : Int)).toNat : Int) = _
 rw [BitVec.toNat_or, h1, h2, IntKind.wrap_u32]
 omega
theorem Dp (s : Nat) (hs : s ≤ 32) : 2 ^ s * 2 ^ (32 - s) = dm := by
 rw [← Nat.pow_add, show s + (32 - s) = 32 by omega]; rfl
theorem aog {m s : Nat} (hm : m < dm) (hs : s < 32) : m * 2 ^ s < dw := by
 have h1 : 2 ^ s < 2 ^ 32 := Nat.pow_lt_pow_right om hs
 have h2 : m * 2 ^ s ≤ m * 2 ^ 32 := Nat.mul_le_mul_left _ om
 rw [gp] at hm; rw [jb]; omega
theorem aof {m s : Nat} (hs : s < 32) : m * 2 ^ s % dm = m % 2 ^ (32 - s) * 2 ^ s ∧ m * 2 ^ s / dm = m / 2 ^ (32 - s) := by
 rw [← Dp s om, Nat.mul_comm (2 ^ s), Nat.mul_mod_mul_right]
 exact ⟨rfl, Nat.mul_div_mul_right _ _ (Nat.pow_pos om)⟩

def bkw (w : World) (xl : List Nat) (v : Nat) (e : Ending) (w' : World) : Prop :=
 ∃ zr, e = .returned (.slice (some ⟨w.heap.size, 0, none⟩) (xl.length + 1) (xl.length + 1)) ∧ zr.length = xl.length + 1 ∧ (∀ x ∈ zr, x < dm) ∧ Wd.val dm zr = v ∧ ZB .u32 w' w.heap.size 156 zr ∧ Below w.heap.size w w'

set_option maxHeartbeats 1000000 in
theorem ajc (Ax : Option Addr) (cx : Nat) (xl : List Nat) (n s : Nat) (w : World) (hx : si w Ax cx xl n) (hs : s < 32) (hk : xl.length + 1 ≤ 35184372088832) :
  Calls Tryz.prog 184 #[.slice Ax xl.length cx, .int .u64 ((s : Nat) : Int)] w fun e w' => bkw w xl (n * 2 ^ s) e w' := by
 have hmk := abd (xl.length + 1) hk
 simp only [Int.natCast_add, Int.cast_ofNat_Int] at hmk
 have hx1 := hx.uu; have hx2 := hx.cap2
 go_enter Tryz.func184, Tryz.ntmps184
 go_wp2
 go_loopw [6] (fun iv wr => ∃ (i : Nat) (zr : List Nat), i ≤ xl.length ∧ iv = .int .i64 ((i : Nat) : Int) ∧ Hid (Wd.Fq dm (2 ^ s) xl zr i) ∧ ZB .u32 wr w.heap.size 156 zr ∧ Below w.heap.size w wr) (fun iv _ => xl.length - (intOf iv).toNat)
 case atStart => exact ⟨0, List.replicate (xl.length + 1) 0, Nat.zero_le _, rfl, Wd.Fq.start _ _ (Nat.pow_pos om) (by rw [gp]; omega) (by simp) (Oa _), heap_alloc_new w _, (Below.refl _ _).alloc (Nat.le_refl _) _⟩
 case round =>
  obtain ⟨i, zr, hi, rfl, HI, oq, hg⟩ := hrel
  have hlen := HI.out.len
  by_cases hlt : i < xl.length
  ·
   obtain ⟨bx, ox, rfl, hbx, hcx⟩ := hx.ws om
   have Fb := (hg.cell (p := ⟨bx, ox + i, none⟩) hbx).trans (hcx i hlt)
   clear hcx
   have hzc := oq.cell i om
   have Pw := oq.frozen i
   have bjl := oq.cell (i + 1) om
   have bbd := oq.frozen (i + 1)
   obtain ⟨m, hm⟩ : ∃ m, m = Wd.g xl i := ⟨_, rfl⟩
   obtain ⟨z, hz⟩ : ∃ z, z = Wd.g zr i := ⟨_, rfl⟩
   rw [← hm] at Fb
   rw [← hz] at hzc
   have Lj : m < dm := by rw [hm]; exact Wd.getD_lt (by rw [gp]; omega) _ hx.lt i
   have Ir : z < dm := by rw [hz]; exact Wd.getD_lt (by rw [gp]; omega) _ HI.out.lt i
   have hzS : z < 2 ^ s := by rw [hz]; exact HI.out.low
   obtain ⟨x, Fy⟩ : ∃ x, x = m * 2 ^ s := ⟨_, rfl⟩
   obtain ⟨p, hp⟩ : ∃ p, p = x % dm := ⟨_, rfl⟩
   obtain ⟨r, hr⟩ : ∃ r, r = z + p := ⟨_, rfl⟩
   obtain ⟨q, hq⟩ : ∃ q, q = x / dm := ⟨_, rfl⟩
   have Bp := aof (m := m) hs
   rw [← Fy, ← hp, ← hq] at Bp
   have Sn : p < dm := by rw [hp]; exact Nat.mod_lt _ (by rw [gp]; omega)
   have Ny : q < dm := by rw [hq, Nat.div_lt_iff_lt_mul (by rw [gp]; omega)]; have := aog Lj hs; rw [Fy, gp]; rw [jb] at this; omega
   have e0 : IntKind.u64.wrap (m : Int) = (m : Int) := jy rfl (by rw [gp] at Lj; rw [jb]; omega)
   have e1 : IntKind.u64.wrap ((m : Int) * 2 ^ s) = (x : Int) := jy (by rw [Fy]; simp) (by rw [Fy]; exact aog Lj hs)
   have e2 : Go.bits .or .u32 (z : Int) (p : Int) = (r : Int) := by
    rw [Rh z p Ir Sn, hr, Bp.1, Ow hzS]
   have e3 : (x : Int) / 4294967296 = (q : Int) := by rw [hq, gp]; omega
   have e4 : (x : Int) % 4294967296 = (p : Int) := by rw [hp, gp]; omega
   have e5 : (q : Int) % 4294967296 = (q : Int) := by rw [gp] at Ny; omega
   have e6 : IntKind.u32.wrap (x : Int) = (p : Int) := by rw [Cn, hp]
   have e7 : IntKind.u32.wrap (q : Int) = (q : Int) := by rw [IntKind.wrap_u32]; exact e5
   have hfin : ∀ W, W = (wr.setCell ⟨w.heap.size, i, none⟩ (.int .u32 (r : Int))).setCell ⟨w.heap.size, i + 1, none⟩ (.int .u32 (q : Int)) → Hid (Wd.Fq dm (2 ^ s) xl ((zr.set i r).set (i + 1) q) (i + 1)) ∧ ZB .u32 W w.heap.size 156 ((zr.set i r).set (i + 1) q) ∧ Below w.heap.size w W := by
    rintro W rfl
    refine ⟨?_, (oq.Dx _ _).Dx _ _, (hg.setCell (by simp) _).setCell (by simp) _⟩
    have := HI.out.step (Dp s om) (Nat.pow_pos om) hlt (by rw [← Wd.uf, ← hm]; exact Lj)
    rw [hr, Bp.1, Bp.2, hm, hz]
    exact this
   have HF := hide hfin
   clear hfin Bp hp hr hq hm hz hzS oq hg Fy Sn Ny Lj Ir
   go_wp2_with fail
   go_roundw
   case rel =>
    obtain ⟨r1, r2, r3⟩ := (aa HF) _ rfl
    exact ⟨i + 1, _, by omega, by go_num, r1, r2, r3⟩
   case measure => simp [intOf] <;> omega
  ·
   have e : i = xl.length := by omega
   subst e
   have hv := HI.out.done
   rw [hx.val] at hv
   have HV := Lib.hid hv
   clear hv
   go_wp2_with fail
   go_ret
   exact ⟨zr, rfl, hlen, HI.out.lt, HV.out, oq, hg⟩
end Go.Proofs.YtjdnmdlnaoedoaaGreatDoor
namespace Go.Proofs.YtjdnmdlnaoedoaaGreatDoor
namespace Wd

structure aak (B top head Q q r : Nat) : Prop where
 eq : q * top + r = head
 ge : Q ≤ q
 lt : q < B
theorem aak.step {B top next head d Q q r : Nat} (hQ : Q * (top * B + next) ≤ head * B + d) (h : aak B top head Q q r) (hlt : r * B + d < q * next) : 1 ≤ q ∧ aak B top head Q (q - 1) (r + top) := by
 have h1 : Q < q := by
  rcases Nat.lt_or_ge Q q with h1 | h1
  ·
   exact h1
  ·
   have h2 : q * (top * B + next) ≤ Q * (top * B + next) := Nat.mul_le_mul_right _ h1
   have h3 : q * (top * B + next) = q * top * B + q * next := by rw [Nat.mul_add, Nat.mul_assoc]
   have h4 : head * B = q * top * B + r * B := by rw [← h.eq, Nat.add_mul]
   omega
 have he := h.eq
 obtain ⟨p, rfl⟩ : ∃ p, q = p + 1 := ⟨q - 1, by omega⟩
 refine ⟨by omega, ⟨?_, by omega, by have := h.lt; omega⟩⟩
 rw [Nat.add_sub_cancel]
 rw [Nat.add_mul, Nat.one_mul] at he
 omega
theorem aak.fits {B top next head d Q q r : Nat} (hn : next < B) (h : aak B top head Q q r) (hs : B ≤ r ∨ q * next ≤ r * B + d) : q * (top * B + next) ≤ head * B + d := by
 have h3 : q * (top * B + next) = q * top * B + q * next := by rw [Nat.mul_add, Nat.mul_assoc]
 have h4 : head * B = q * top * B + r * B := by rw [← h.eq, Nat.add_mul]
 have h5 : q * next ≤ r * B + d := by
  rcases hs with h1 | h1
  ·
   have h6 : q * next ≤ B * B := Nat.mul_le_mul (Nat.le_of_lt h.lt) (Nat.le_of_lt hn)
   have h7 : B * B ≤ r * B := Nat.mul_le_mul_right _ h1
   omega
  ·
   exact h1
 omega
theorem aqj {B P X Y U3 Yt Q q : Nat} (hP : 0 < P) (hX : U3 * P ≤ X) (hY : Y < (Yt + 1) * P) (hY0 : 0 < Y) (hQ : Q = X / Y) (hq : q * Yt ≤ U3) (hB : q ≤ Yt) : q ≤ Q + 1 := by
 rcases Nat.eq_zero_or_pos q with h | h
 ·
  omega
 obtain ⟨p, rfl⟩ : ∃ p, q = p + 1 := ⟨q - 1, by omega⟩
 suffices p ≤ Q by omega
 rw [hQ, Nat.le_div_iff_mul_le hY0]
 have h1 : p * Y ≤ p * ((Yt + 1) * P) := Nat.mul_le_mul_left _ (Nat.le_of_lt hY)
 have h2 : p * ((Yt + 1) * P) = (p * Yt + p) * P := by rw [← Nat.mul_assoc, Nat.mul_add, Nat.mul_one]
 have h3 : (p * Yt + p) * P ≤ ((p + 1) * Yt) * P := Nat.mul_le_mul_right _ (by rw [Nat.add_mul]; omega)
 have h4 : (p + 1) * Yt * P ≤ U3 * P := Nat.mul_le_mul_right _ hq
 omega

structure Qk (B : Nat) (ul vl zc : List Nat) (q i c b : Nat) : Prop where
 len : zc.length = ul.length
 same : ∀ j, i ≤ j → zc.getD j 0 = ul.getD j 0
 lt : ∀ x ∈ zc, x < B
 eq : val B (zc.take i) + q * val B (vl.take i) = val B (ul.take i) + B ^ i * (c + b)
 c1 : c < B
 b1 : b ≤ 1
theorem Qk.start {B : Nat} (ul vl : List Nat) (q : Nat) (hB : 0 < B) (h : ∀ x ∈ ul, x < B) : Qk B ul vl ul q 0 0 0 := ⟨rfl, fun _ _ => rfl, h, by simp [val], hB, by omega⟩
theorem Qk.step {B : Nat} {ul vl zc : List Nat} {q i c b d b' t : Nat} (h : Qk B ul vl zc q i c b) (hi : i < ul.length) (ht : t = c + q * vl.getD i 0) (Vg : t < B * B) (hd : d < B) (hb : b' ≤ 1)
  (e : d + t % B + b = ul.getD i 0 + B * b') : Qk B ul vl (zc.set i d) q (i + 1) (t / B) b' := by
 have hlen := h.len
 have hB : 0 < B := by omega
 refine ⟨by simp [hlen], fun j hj => ?_, Bo _ _ _ h.lt hd, ?_, ?_, hb⟩
 ·
  rw [Ew _ _ _ _ om, h.same j om]
 ·
  rw [Aw _ _ _ om, Bw, pg, pg, List.length_take, Nat.min_eq_left om, Nat.pow_succ]
  have he := h.eq
  have Cm := Nat.div_add_mod t B
  generalize B ^ i = P at *
  generalize val B (zc.take i) = Z at *
  generalize val B (vl.take i) = V at *
  generalize val B (ul.take i) = U at *
  generalize vl.getD i 0 = y at *
  generalize ul.getD i 0 = x at *
  generalize t / B = hi at *
  generalize t % B = lo at *
  have k1 : P * d + P * lo + P * b = P * x + P * (B * b') := by rw [← Nat.mul_add, ← Nat.mul_add, e, Nat.mul_add]
  have k2 : P * (B * hi) + P * lo = P * c + P * (q * y) := by rw [← Nat.mul_add, Cm, ht, Nat.mul_add]
  rw [Nat.mul_add] at he
  rw [Nat.mul_add, Nat.mul_add, show q * (P * y) = P * (q * y) by simp only [Nat.mul_left_comm], Nat.mul_assoc, Nat.mul_assoc]
  omega
 ·
  rw [Nat.div_lt_iff_lt_mul hB]; exact Vg
theorem Qk.done {B : Nat} {ul vl zc : List Nat} {q b : Nat} (h : Qk B ul vl zc q ul.length 0 b) (hv : vl.length ≤ ul.length) : val B zc + q * val B vl = val B ul + B ^ ul.length * b := by
 have e := h.eq
 have hl := h.len
 rwa [lg _ zc _ om, lg _ vl _ hv, lg _ _ _ (Nat.le_refl _), Nat.zero_add] at e
end Wd
end Go.Proofs.YtjdnmdlnaoedoaaGreatDoor
namespace Go.Proofs.YtjdnmdlnaoedoaaGreatDoor
open Go.RowKit

structure StepT (ul vl zr : List Nat) (q : Nat) : Prop where
 len : zr.length = ul.length
 lt : ∀ x ∈ zr, x < dm
 quo : q = Wd.val dm ul / Wd.val dm vl
 rem : Wd.val dm zr = Wd.val dm ul % Wd.val dm vl

theorem afr {x lo b s1 s2 : Nat} (hx : x < dm) (hlo : lo < dm) (hb : b ≤ 1) (h1 : (s1 : Int) = ((x : Int) - (lo : Int)) % 18446744073709551616) (h2 : (s2 : Int) = ((s1 : Int) - (b : Int)) % 18446744073709551616) :
  s2 % dm < dm ∧ s2 / 9223372036854775808 ≤ 1 ∧ s2 % dm + lo + b = x + dm * (s2 / 9223372036854775808) := by
 rw [gp] at *
 omega
theorem baa {B : Nat} (hB : 0 < B) (l : List Nat) (n : Nat) (hn : 2 ≤ n) (hl : l.length = n + 1) (hlt : ∀ x ∈ l, x < B) :
  ((l.getD n 0 * B + l.getD (n - 1) 0) * B + l.getD (n - 2) 0) * B ^ (n - 2) ≤ Wd.val B l ∧ Wd.val B l < ((l.getD n 0 * B + l.getD (n - 1) 0) * B + l.getD (n - 2) 0 + 1) * B ^ (n - 2) := by
 have h1 := Wd.su B l n om
 rw [Wd.lg _ _ _ om] at h1
 have h2 := Wd.su B l (n - 1) om
 rw [show n - 1 + 1 = n by omega] at h2
 have h2' := Wd.su B l (n - 2) om
 rw [show n - 2 + 1 = n - 1 by omega] at h2'
 have h3 := Wd.Ch (B := B) (l.take (n - 2)) (fun x hx => hlt x (List.mem_of_mem_take hx))
 rw [List.length_take, Nat.min_eq_left om] at h3
 have e : B ^ n = B ^ (n - 2) * B * B := by rw [← Nat.pow_succ, ← Nat.pow_succ, show (n - 2).succ.succ = n by omega]
 have e' : B ^ (n - 1) = B ^ (n - 2) * B := by rw [← Nat.pow_succ, show (n - 2).succ = n - 1 by omega]
 rw [h1, h2, h2', e, e']
 generalize B ^ (n - 2) = P at *
 generalize l.getD n 0 = a at *
 generalize l.getD (n - 1) 0 = b at *
 generalize l.getD (n - 2) 0 = c at *
 have k1 : ((a * B + b) * B + c) * P = P * B * B * a + P * B * b + P * c := by
  simp only [Nat.add_mul, Nat.mul_add, Nat.mul_comm, Nat.mul_left_comm, Nat.mul_assoc]
 rw [Nat.add_mul _ 1 P, Nat.one_mul, k1]
 omega
theorem alf {B : Nat} (l : List Nat) (n : Nat) (hn : 2 ≤ n) (hl : l.length = n) (hlt : ∀ x ∈ l, x < B) :
  (l.getD (n - 1) 0 * B + l.getD (n - 2) 0) * B ^ (n - 2) ≤ Wd.val B l ∧ Wd.val B l < (l.getD (n - 1) 0 * B + l.getD (n - 2) 0 + 1) * B ^ (n - 2) := by
 have h2 := Wd.su B l (n - 1) om
 rw [show n - 1 + 1 = n by omega, Wd.lg _ _ _ om] at h2
 have h2' := Wd.su B l (n - 2) om
 rw [show n - 2 + 1 = n - 1 by omega] at h2'
 have h3 := Wd.Ch (B := B) (l.take (n - 2)) (fun x hx => hlt x (List.mem_of_mem_take hx))
 rw [List.length_take, Nat.min_eq_left om] at h3
 have e' : B ^ (n - 1) = B ^ (n - 2) * B := by rw [← Nat.pow_succ, show (n - 2).succ = n - 1 by omega]
 rw [h2, h2', e']
 generalize B ^ (n - 2) = P at *
 generalize l.getD (n - 1) 0 = b at *
 generalize l.getD (n - 2) 0 = c at *
 have k1 : (b * B + c) * P = P * B * b + P * c := by
  simp only [Nat.add_mul, Nat.mul_add, Nat.mul_comm, Nat.mul_left_comm, Nat.mul_assoc]
 rw [Nat.add_mul _ 1 P, Nat.one_mul, k1]
 omega
theorem agh {a z : Nat} (ha : a < dm) (hz : z < dm) : Go.bits .or .u64 ((a * dm : Nat) : Int) (z : Int) = ((a * dm + z : Nat) : Int) := by
 have h := Ow (z := z) (a := a) (s := 32) (by rw [gp] at hz; omega)
 rw [bits_or_u64_nat _ _ (by rw [gp] at *; omega) (by rw [gp] at *; omega), Nat.or_comm, gp]
 rw [show (2 : Nat) ^ 32 = 4294967296 from rfl] at h
 rw [h, Nat.add_comm]

structure Kk (ul vl : List Nat) (n : Nat) : Prop where
 n2 : 2 ≤ n
 Pq : vl.length = n
 Df : ul.length = n + 1
 ltu : ∀ x ∈ ul, x < dm
 ltv : ∀ x ∈ vl, x < dm
 top : vl.getD (n - 1) 0 ≠ 0
 pre : Wd.val dm ul < dm * Wd.val dm vl
theorem Kk.start {ul vl : List Nat} {n head top : Nat} (h : Kk ul vl n) (hh : head = ul.getD n 0 * dm + ul.getD (n - 1) 0) (ht : top = vl.getD (n - 1) 0) :
  Wd.aak dm top head (Wd.val dm ul / Wd.val dm vl) (min (head / top) 4294967295) (head - min (head / top) 4294967295 * top) ∧ min (head / top) 4294967295 * top ≤ head := by
 have hB : 0 < dm := by rw [gp]; omega
 have hV := (alf vl n h.n2 h.Pq h.ltv).1
 have hU := bab hB ul n (by have := h.n2; omega) h.Df h.ltu
 have h1 := asl (B := dm) vl n (by have := h.n2; omega) h.Pq
 rw [← ht] at h1
 rw [← hh] at hU
 have ht0 : 0 < top := by rw [ht]; exact Nat.pos_of_ne_zero h.top
 have Ke : 0 < Wd.val dm vl := by
  have h2 : 0 < dm ^ (n - 1) := Nat.pow_pos hB
  have := Nat.mul_pos ht0 h2; omega
 have hQ : Wd.val dm ul / Wd.val dm vl * top ≤ head := Wd.aah h1 hU (Nat.div_mul_le_self _ _)
 have hQB : Wd.val dm ul / Wd.val dm vl < dm := by rw [Nat.div_lt_iff_lt_mul Ke]; exact h.pre
 have hle : min (head / top) 4294967295 * top ≤ head := Nat.le_trans (Nat.mul_le_mul_right _ (Nat.min_le_left _ _)) (Nat.div_mul_le_self _ _)
 refine ⟨⟨Nat.add_sub_of_le hle, ?_, ?_⟩, hle⟩
 ·
  rw [Nat.le_min]
  exact ⟨(Nat.le_div_iff_mul_le ht0).2 hQ, Nat.le_of_lt_succ (by rw [gp] at hQB; exact hQB)⟩
 ·
  exact Nat.lt_of_le_of_lt (Nat.min_le_right (head / top) 4294967295) (by rw [gp]; omega)
theorem Kk.low {ul vl : List Nat} {n : Nat} (h : Kk ul vl n) : Wd.val dm ul / Wd.val dm vl * (vl.getD (n - 1) 0 * dm + vl.getD (n - 2) 0) ≤ (ul.getD n 0 * dm + ul.getD (n - 1) 0) * dm + ul.getD (n - 2) 0 := by
 have hB : 0 < dm := by rw [gp]; omega
 exact Wd.aah (alf vl n h.n2 h.Pq h.ltv).1 (baa hB ul n h.n2 h.Df h.ltu).2 (Nat.div_mul_le_self _ _)
theorem Kk.one {ul vl : List Nat} {n q : Nat} (h : Kk ul vl n) (hq : q * (vl.getD (n - 1) 0 * dm + vl.getD (n - 2) 0) ≤ (ul.getD n 0 * dm + ul.getD (n - 1) 0) * dm + ul.getD (n - 2) 0) (hlt : q < dm) : q ≤ Wd.val dm ul / Wd.val dm vl + 1 := by
 have hB : 0 < dm := by rw [gp]; omega
 have ht0 : 1 ≤ vl.getD (n - 1) 0 := Nat.pos_of_ne_zero h.top
 have h1 : 1 * dm ≤ vl.getD (n - 1) 0 * dm := Nat.mul_le_mul_right _ ht0
 have hV := (alf vl n h.n2 h.Pq h.ltv)
 have hP : 0 < dm ^ (n - 2) := Nat.pow_pos hB
 have Ke : 0 < Wd.val dm vl := by
  have := Nat.mul_pos (show 0 < vl.getD (n - 1) 0 * dm + vl.getD (n - 2) 0 by omega) hP; omega
 exact Wd.aqj (B := dm) hP (baa hB ul n h.n2 h.Df h.ltu).1 hV.2 Ke rfl hq om
end Go.Proofs.YtjdnmdlnaoedoaaGreatDoor
namespace Go.Proofs.YtjdnmdlnaoedoaaGreatDoor
open Go.RowKit

set_option maxHeartbeats 2000000 in
theorem akx (b off cap T n : Nat) (us ul vl : List Nat) (Av : Option Addr) (cv : Nat) (B top next : Nat) (w : World)
  (hz : ZB .u32 w b T us) (hoff : off + ul.length ≤ us.length) (Ng : ul = (us.drop off).take ul.length) (hcz : ul.length ≤ cap) (ahl : cap ≤ 9223372036854775807)
  (hv : Ws .u32 w B Av vl) (hB : ∀ bv ov, Av = some ⟨bv, ov, none⟩ → bv ≠ b) (hBw : B ≤ w.heap.size) (hcv : vl.length ≤ cv) (aml : cv ≤ 9223372036854775807) (hp : Kk ul vl n) (htop : top = Wd.g vl (n - 1)) (hnext : next = Wd.g vl (n - 2)) :
  Calls Tryz.prog 185 #[.slice (some ⟨b, off, none⟩) (n + 1) cap, .slice Av n cv, .int .u64 ((top : Nat) : Int), .int .u64 ((next : Nat) : Int)] w fun e w' =>
   ∃ zr q, e = .returned (.int .u32 ((q : Nat) : Int)) ∧ StepT ul vl zr q ∧ q < dm ∧ ZB .u32 w' b T (win us off zr) ∧ w.grownBy w' (some b) := by
 have hB0 : 0 < dm := by rw [gp]; omega
 have hn2 := hp.n2; have Hq := hp.Pq; have huv := hp.Df
 obtain ⟨bv, ov, hA, hbv, ahm⟩ := hv om
 subst hA
 have hgw : ∀ i, i < ul.length → Wd.g us (off + i) = Wd.g ul i := fun i hi => by
  have h := Mm us off ul hoff i hi
  rwa [show win us off ul = us by rw [Ng]; exact Lm us off _ hoff] at h
 have hu0 := hz.cell (off + n) om
 have hu1 := hz.cell (off + (n - 1)) om
 have hu2 := hz.cell (off + (n - 2)) om
 rw [hgw n om] at hu0
 rw [hgw (n - 1) om] at hu1
 rw [hgw (n - 2) om] at hu2
 obtain ⟨x0, hx0⟩ : ∃ t, t = Wd.g ul n := ⟨_, rfl⟩
 obtain ⟨x1, hx1⟩ : ∃ t, t = Wd.g ul (n - 1) := ⟨_, rfl⟩
 obtain ⟨x2, hx2⟩ : ∃ t, t = Wd.g ul (n - 2) := ⟨_, rfl⟩
 rw [← hx0] at hu0
 rw [← hx1] at hu1
 rw [← hx2] at hu2
 have b0 : x0 < dm := by rw [hx0]; exact Wd.getD_lt hB0 _ hp.ltu _
 have b1 : x1 < dm := by rw [hx1]; exact Wd.getD_lt hB0 _ hp.ltu _
 have b2 : x2 < dm := by rw [hx2]; exact Wd.getD_lt hB0 _ hp.ltu _
 have bt : top < dm := by rw [htop]; exact Wd.getD_lt hB0 _ hp.ltv _
 have bn : next < dm := by rw [hnext]; exact Wd.getD_lt hB0 _ hp.ltv _
 obtain ⟨hh, hhh⟩ : ∃ t, t = x0 * dm := ⟨_, rfl⟩
 obtain ⟨head, hhead⟩ : ∃ t, t = x0 * dm + x1 := ⟨_, rfl⟩
 obtain ⟨gq, hgq⟩ : ∃ t, t = head / top := ⟨_, rfl⟩
 obtain ⟨q0, hq0⟩ : ∃ t, t = min gq 4294967295 := ⟨_, rfl⟩
 obtain ⟨qt, hqt⟩ : ∃ t, t = q0 * top := ⟨_, rfl⟩
 obtain ⟨r0, hr0⟩ : ∃ t, t = head - qt := ⟨_, rfl⟩
 obtain ⟨Q, hQ⟩ : ∃ t, t = Wd.val dm ul / Wd.val dm vl := ⟨_, rfl⟩
 have hst := hp.start (head := head) (top := top) (by rw [hhead, hx0, hx1]; rfl) (by rw [htop]; rfl)
 rw [← hgq, ← hq0, ← hQ, ← hqt, ← hr0] at hst
 have hlow := hp.low
 rw [← hQ, ← Wd.uf, ← Wd.uf, ← Wd.uf, ← Wd.uf, ← Wd.uf, ← htop, ← hnext, ← hx0, ← hx1, ← hx2, ← hhead] at hlow
 have hone : ∀ q, q * (top * dm + next) ≤ head * dm + x2 → q < dm → q ≤ Q + 1 := fun q h1 h2 => by
  have := hp.one (q := q) (by rw [← Wd.uf, ← Wd.uf, ← Wd.uf, ← Wd.uf, ← Wd.uf, ← htop, ← hnext, ← hx0, ← hx1, ← hx2, ← hhead]; exact h1) h2
  rwa [← hQ] at this
 have ht0 : 0 < top := by rw [htop]; exact Nat.pos_of_ne_zero hp.top
 have b64 : ∀ t : Nat, t < dm → t < dw := fun t ht => by rw [gp] at ht; rw [jb]; omega
 have aqf : head < dw := by rw [hhead]; rw [gp] at *; rw [jb]; omega
 have e0 : IntKind.u64.wrap (x0 : Int) = (x0 : Int) := jy rfl (b64 _ b0)
 have e1 : IntKind.u64.wrap (x1 : Int) = (x1 : Int) := jy rfl (b64 _ b1)
 have e2 : IntKind.u64.wrap (x2 : Int) = (x2 : Int) := jy rfl (b64 _ b2)
 have e3 : IntKind.u64.wrap ((x0 : Int) * 4294967296) = (hh : Int) := jy (by rw [hhh, gp]; simp) (by rw [hhh]; rw [gp] at *; rw [jb]; omega)
 have e4 : Go.bits .or .u64 (hh : Int) (x1 : Int) = (head : Int) := by rw [hhh, agh b0 b1, hhead]
 have e5 : (head : Int).tdiv (top : Int) = (gq : Int) := by rw [hgq]; exact (Int.ofNat_tdiv _ _).symm
 have e5w : IntKind.u64.wrap (gq : Int) = (gq : Int) := jy rfl (by have := Nat.div_le_self head top; omega)
 have e6 : min (gq : Int) 4294967295 = (q0 : Int) := by rw [hq0]; omega
 have e7 : IntKind.u64.wrap ((q0 : Int) * (top : Int)) = (qt : Int) := jy (by rw [hqt]; simp) (by have := hst.2; omega)
 have e8 : IntKind.u64.wrap ((head : Int) - (qt : Int)) = (r0 : Int) := jy (by have := hst.2; rw [hr0]; omega) (by rw [hr0]; omega)
 have e9 : ((top : Int) == 0) = false := beq_eq_false_iff_ne.2 om
 have e9' : ¬ ((top : Int) = 0) := by omega
 have bkm : ¬ (top = 0) := by omega
 have f1 : IntKind.i64.wrap ((n : Int) - 1) = (n : Int) - 1 := IntWalk.i64_in _ om
 have f2 : (0 : Int) ≤ (n : Int) - 1 := by omega
 have f3 : ((n : Int) - 1).toNat = n - 1 := by omega
 have f4 : IntKind.i64.wrap ((n : Int) - 2) = (n : Int) - 2 := IntWalk.i64_in _ om
 have f5 : (0 : Int) ≤ (n : Int) - 2 := by omega
 have f6 : ((n : Int) - 2).toNat = n - 2 := by omega
 have HB2 := hide (And.intro b2 bn)
 have HST := hide hst; have bet := hide hlow; have bes := hide hone; have HQ := Lib.hid hQ; have HP := hide hp
 have HGW := hide hgw; have HZ := hide hz; have HV := hide hv; have HT := hide (And.intro bt aqf); have Xi := hide b64
 have HWU := Lib.hid (show win us off ul = us by rw [Ng]; exact Lm us off _ hoff)
 have adl := hide hoff; have HCV := hide ahm; have HBB := hide (And.intro (hB bv ov rfl) (Nat.lt_of_lt_of_le hbv hBw))
 have hlen1 : n + 1 ≤ cap := by omega
 have Us : n ≤ cv := by omega
 clear hst hlow hone hQ hp hgw Ng hx0 hx1 hx2 b0 b1 b2 bt bn hhh hhead hgq hq0 hqt hr0 ht0 b64 aqf htop hnext hoff hcz hcv Hq huv ahm hz hv hB0 hB hbv hBw
 go_enter Tryz.func185, Tryz.ntmps185
 go_wp2_with fail
 go_quiet (fail)
 go_upto_block 0 with (fail)
 go_cut [11] (fun qv wx => ∃ q : Nat, qv = .int .u64 ((q : Nat) : Int) ∧ Hid (Q ≤ q ∧ q ≤ Q + 1 ∧ q < dm) ∧ ∃ t, wx = w.drewN t)
 case first =>
  have HL := bet
  go_wp2_with fail
  go_loop [11, 12] (fun qv rv => ∃ q r : Nat, qv = .int .u64 ((q : Nat) : Int) ∧ rv = .int .u64 ((r : Nat) : Int) ∧ Hid (r < dw) ∧ Hid (Wd.aak dm top head Q q r)) (fun qv _ => (intOf qv).toNat)
  case atStart => exact ⟨q0, r0, rfl, rfl, show r0 < dw by have h1 := (aa HST).1.eq; have h2 := (aa HT).2; omega, (aa HST).1⟩
  case round =>
   obtain ⟨q, r, rfl, rfl, hr, HI⟩ := hrel
   by_cases hb : dm ≤ r
   ·
    have d1 : decide ((r : Int) < 4294967296) = false := decide_eq_false (by rw [gp] at hb; omega)
    have hfits := (aa HI).fits (aa HB2).2 (d := x2) (.inl hb)
    have hres : Q ≤ q ∧ q ≤ Q + 1 ∧ q < dm := ⟨(aa HI).ge, (aa bes) q hfits (aa HI).lt, (aa HI).lt⟩
    have HR := hide hres
    clear hfits hres hb
    go_wp2_with fail
    go_meet
    exact ⟨q, rfl, HR, _, rfl⟩
   ·
    have d1 : decide ((r : Int) < 4294967296) = true := decide_eq_true (by rw [gp] at hb; omega)
    have Sl : r < dm := by omega
    obtain ⟨p, Bp⟩ : ∃ t, t = q * next := ⟨_, rfl⟩
    obtain ⟨rs, hrs⟩ : ∃ t, t = r * dm := ⟨_, rfl⟩
    obtain ⟨ro, hro⟩ : ∃ t, t = r * dm + x2 := ⟨_, rfl⟩
    have Sn : p < dw := by
     have h1 := (aa HI).lt
     have h2 := (aa HB2).2
     have h3 : q * next ≤ 4294967295 * 4294967295 := Nat.mul_le_mul (by rw [gp] at h1; omega) (by rw [gp] at h2; omega)
     rw [Bp, jb]; omega
    have g1 : IntKind.u64.wrap ((q : Int) * (next : Int)) = (p : Int) := jy (by rw [Bp]; simp) Sn
    have g2 : IntKind.u64.wrap ((r : Int) * 4294967296) = (rs : Int) := jy (by rw [hrs, gp]; simp) (by rw [hrs]; rw [gp] at *; rw [jb]; omega)
    have g3 : Go.bits .or .u64 (rs : Int) (x2 : Int) = (ro : Int) := by rw [hrs, agh Sl (aa HB2).1, hro]
    by_cases hlt : ro < p
    ·
     have d2 : decide ((ro : Int) < (p : Int)) = true := decide_eq_true om
     have d2' : decide (ro < p) = true := decide_eq_true hlt
     obtain ⟨h1, hstep⟩ := (aa HI).step (aa bet) (by rw [← hro, ← Bp]; exact hlt)
     obtain ⟨q2, hq2⟩ : ∃ t, t = q - 1 := ⟨_, rfl⟩
     obtain ⟨r2, hr2⟩ : ∃ t, t = r + top := ⟨_, rfl⟩
     rw [← hq2, ← hr2] at hstep
     have aut : r2 < dw := by have := (aa HT).1; rw [hr2]; rw [gp] at *; rw [jb]; omega
     have g4 : IntKind.u64.wrap ((q : Int) - 1) = (q2 : Int) := jy (by rw [hq2]; omega) (by have := (aa HI).lt; rw [hq2]; rw [gp] at this; rw [jb]; omega)
     have g5 : IntKind.u64.wrap ((r : Int) + (top : Int)) = (r2 : Int) := jy (by rw [hr2]; simp) aut
     have HS := hide hstep; have HR2 := hide aut; have HM := hide (show q2 < q by omega)
     clear hstep aut hq2 hr2 h1 hlt Bp hrs hro Sn Sl hb
     go_wp2_with fail
     go_round
     case rel => exact ⟨q2, r2, rfl, rfl, HR2, HS⟩
     case measure => have := aa HM; simp [intOf]; omega
    ·
     have d2 : decide ((ro : Int) < (p : Int)) = false := decide_eq_false om
     have d2' : decide (ro < p) = false := decide_eq_false hlt
     have hfits := (aa HI).fits (aa HB2).2 (d := x2) (.inr (by rw [← hro, ← Bp]; omega))
     have hres : Q ≤ q ∧ q ≤ Q + 1 ∧ q < dm := ⟨(aa HI).ge, (aa bes) q hfits (aa HI).lt, (aa HI).lt⟩
     have HR := hide hres
     clear hfits hres hlt Bp hrs hro Sn Sl hb
     go_wp2_with fail
     go_meet
     exact ⟨q, rfl, HR, _, rfl⟩
 case rest =>
  obtain ⟨q, rfl, HQR, t0, rfl⟩ := hcut
  go_wp2_with fail
  go_loopw [13, 14, 15] (fun bv cv iv wr => ∃ (i c b' : Nat) (zc : List Nat), i ≤ n + 1 ∧ bv = .int .u64 ((b' : Nat) : Int) ∧ cv = .int .u64 ((c : Nat) : Int) ∧ iv = .int .i64 ((i : Nat) : Int) ∧ Hid (Wd.Qk dm ul vl zc q i c b') ∧ Hid (i = n + 1 → c = 0) ∧ ZB .u32 wr b T (win us off zc) ∧ w.grownBy wr (some b)) (fun _ _ iv _ => n + 1 - (intOf iv).toNat)
  case atStart => exact ⟨0, 0, 0, ul, by omega, rfl, rfl, rfl, Wd.Qk.start _ _ _ (by rw [gp]; omega) (aa HP).ltu, fun _ => rfl, by rw [HWU.out]; exact (aa HZ).drewN _, aji (ve _ _) _⟩
  case round =>
   obtain ⟨i, c, b', zc, hi, rfl, rfl, rfl, HI, HC0, oq, hgr⟩ := hrel
   have adb : dm * dm = dw := by rw [gp, jb]
   have hzl := (aa HI).len
   by_cases hle : i ≤ n
   ·
    have d1 : decide ((i : Int) ≤ (n : Int)) = true := decide_eq_true om
    have d1' : decide (i ≤ n) = true := decide_eq_true hle
    obtain ⟨x, hx⟩ : ∃ t, t = Wd.g ul i := ⟨_, rfl⟩
    have Fb := oq.cell (off + i) (by rw [win_length _ _ _ (by rw [hzl]; exact aa adl)]; have h1 := (aa adl); have h2 := (aa HP).Df; omega)
    rw [Mm us off zc (by rw [hzl]; exact aa adl) i (by rw [hzl, (aa HP).Df]; omega), show Wd.g zc i = Wd.g ul i from (aa HI).same i (Nat.le_refl _), ← hx] at Fb
    have Pw := oq.frozen (off + i)
    have zb : x < dm := by rw [hx]; exact Wd.getD_lt (by rw [gp]; omega) _ (aa HP).ltu _
    by_cases hin : i < n
    ·
     have d2 : decide ((i : Int) < (n : Int)) = true := decide_eq_true om
     have d2' : decide (i < n) = true := decide_eq_true hin
     obtain ⟨y, hy⟩ : ∃ t, t = Wd.g vl i := ⟨_, rfl⟩
     have Py := (World.cell?_of_block (hgr.block bv (aa HBB).2 (fun e => by injection e with e; exact (aa HBB).1 e))).trans ((aa HCV) i (by rw [(aa HP).Pq]; exact hin))
     rw [← hy] at Py
     have Ck : y < dm := by rw [hy]; exact Wd.getD_lt (by rw [gp]; omega) _ (aa HP).ltv _
     obtain ⟨p, Bp⟩ : ∃ t, t = q * y := ⟨_, rfl⟩
     obtain ⟨t, ht⟩ : ∃ t, t = c + p := ⟨_, rfl⟩
     have Vg : t < dm * dm := by
      have h1 := Wd.Mx (z := 0) (aa HQR).2.2 Ck (aa HI).c1 (by rw [gp]; omega)
      rw [ht, Bp]; omega
     have k1 : IntKind.u64.wrap (y : Int) = (y : Int) := jy rfl ((aa Xi) _ Ck)
     have k2 : IntKind.u64.wrap ((q : Int) * (y : Int)) = (p : Int) := jy (by rw [Bp]; simp) (by rw [← adb]; omega)
     have k3 : IntKind.u64.wrap ((c : Int) + (p : Int)) = (t : Int) := jy (by rw [ht]; simp) (by rw [← adb]; exact Vg)
     obtain ⟨lo, hlo⟩ : ∃ u, u = t % dm := ⟨_, rfl⟩
     obtain ⟨c2, hc2⟩ : ∃ u, u = t / dm := ⟨_, rfl⟩
     obtain ⟨s1, hs1⟩ : ∃ u : Nat, (u : Int) = ((x : Int) - (lo : Int)) % 18446744073709551616 := ⟨(((x : Int) - (lo : Int)) % 18446744073709551616).toNat, by omega⟩
     obtain ⟨s2, hs2⟩ : ∃ u : Nat, (u : Int) = ((s1 : Int) - (b' : Int)) % 18446744073709551616 := ⟨(((s1 : Int) - (b' : Int)) % 18446744073709551616).toNat, by omega⟩
     obtain ⟨d, hd⟩ : ∃ u, u = s2 % dm := ⟨_, rfl⟩
     obtain ⟨b2, hb2⟩ : ∃ u, u = s2 / 9223372036854775808 := ⟨_, rfl⟩
     have Lb : lo < dm := by rw [hlo]; exact Nat.mod_lt _ (by rw [gp]; omega)
     have hsw := afr zb Lb (aa HI).b1 hs1 hs2
     rw [← hd, ← hb2] at hsw
     have hnew : Wd.Qk dm ul vl (zc.set i d) q (i + 1) c2 b2 := by
      rw [hc2]
      refine (aa HI).step (by rw [(aa HP).Df]; omega) (by rw [ht, Bp, hy]; rfl) Vg hsw.1 hsw.2.1 ?_
      rw [← hlo, ← Wd.uf, ← hx]
      exact hsw.2.2
     have m1 : IntKind.u64.wrap (x : Int) = (x : Int) := jy rfl ((aa Xi) _ zb)
     have m2 : IntKind.u32.wrap (t : Int) = (lo : Int) := by rw [Cn, hlo]
     have m2' : (t : Int) % 4294967296 = (lo : Int) := by rw [hlo, gp]; omega
     have m3 : IntKind.u64.wrap (lo : Int) = (lo : Int) := jy rfl ((aa Xi) _ Lb)
     have m4 : IntKind.u64.wrap ((x : Int) - (lo : Int)) = (s1 : Int) := by rw [IntKind.wrap_u64, hs1]
     have m5 : IntKind.u64.wrap ((s1 : Int) - (b' : Int)) = (s2 : Int) := by rw [IntKind.wrap_u64, hs2]
     have m6 : IntKind.u32.wrap (s2 : Int) = (d : Int) := by rw [Cn, hd]
     have m6' : (s2 : Int) % 4294967296 = (d : Int) := by rw [hd, gp]; omega
     have m7 : (s2 : Int) / 9223372036854775808 = (b2 : Int) := by rw [hb2]; omega
     have m8 : (t : Int) / 4294967296 = (c2 : Int) := by rw [hc2, gp]; omega
     have hfin : ∀ W, W = wr.setCell ⟨b, off + i, none⟩ (.int .u32 (d : Int)) → ZB .u32 W b T (win us off (zc.set i d)) ∧ w.grownBy W (some b) := by
      rintro W rfl
      refine ⟨?_, pq hgr _ _⟩
      rw [← Ia us off zc (by rw [hzl, (aa HP).Df]; have := (aa adl); rw [(aa HP).Df] at this; exact this) i d (by rw [hzl, (aa HP).Df]; omega)]
      exact oq.Dx _ _
     have HN := hide hnew; have HF := hide hfin
     clear hnew hfin hsw hd hb2 hs1 hs2 hlo hc2 ht Vg Lb zb hx hzl hgr oq adb Bp hy Ck
     go_wp2_with fail
     go_roundw
     case rel =>
      obtain ⟨r1, r2⟩ := (aa HF) _ rfl
      exact ⟨i + 1, c2, b2, zc.set i d, by omega, rfl, rfl, by go_num, HN, fun h => by omega, r1, r2⟩
     case measure => simp [intOf]; omega
    ·
     have d2 : decide ((i : Int) < (n : Int)) = false := decide_eq_false om
     have d2' : decide (i < n) = false := decide_eq_false hin
     replace hin : i = n := by omega
     have hy0 : vl.getD i 0 = 0 := by
      have h := (aa HP).Pq
      rw [List.getD, List.getElem?_eq_none om]; rfl
     obtain ⟨t, ht⟩ : ∃ t, t = c := ⟨_, rfl⟩
     have htc : (t : Int) = (c : Int) := by rw [ht]
     have Vg : t < dm * dm := by
      have h1 := (aa HI).c1
      have h2 : dm * 1 ≤ dm * dm := Nat.mul_le_mul_left _ (by rw [gp]; omega)
      omega
     obtain ⟨lo, hlo⟩ : ∃ u, u = t % dm := ⟨_, rfl⟩
     obtain ⟨c2, hc2⟩ : ∃ u, u = t / dm := ⟨_, rfl⟩
     obtain ⟨s1, hs1⟩ : ∃ u : Nat, (u : Int) = ((x : Int) - (lo : Int)) % 18446744073709551616 := ⟨(((x : Int) - (lo : Int)) % 18446744073709551616).toNat, by omega⟩
     obtain ⟨s2, hs2⟩ : ∃ u : Nat, (u : Int) = ((s1 : Int) - (b' : Int)) % 18446744073709551616 := ⟨(((s1 : Int) - (b' : Int)) % 18446744073709551616).toNat, by omega⟩
     obtain ⟨d, hd⟩ : ∃ u, u = s2 % dm := ⟨_, rfl⟩
     obtain ⟨b2, hb2⟩ : ∃ u, u = s2 / 9223372036854775808 := ⟨_, rfl⟩
     have Lb : lo < dm := by rw [hlo]; exact Nat.mod_lt _ (by rw [gp]; omega)
     have hsw := afr zb Lb (aa HI).b1 hs1 hs2
     rw [← hd, ← hb2] at hsw
     have hnew : Wd.Qk dm ul vl (zc.set i d) q (i + 1) c2 b2 := by
      rw [hc2]
      refine (aa HI).step (by rw [(aa HP).Df]; omega) (by rw [ht, hy0, Nat.mul_zero, Nat.add_zero]) Vg hsw.1 hsw.2.1 ?_
      rw [← hlo, ← Wd.uf, ← hx]
      exact hsw.2.2
     have m1 : IntKind.u64.wrap (x : Int) = (x : Int) := jy rfl ((aa Xi) _ zb)
     have m2 : IntKind.u32.wrap (t : Int) = (lo : Int) := by rw [Cn, hlo]
     have m2' : (t : Int) % 4294967296 = (lo : Int) := by rw [hlo, gp]; omega
     have m3 : IntKind.u64.wrap (lo : Int) = (lo : Int) := jy rfl ((aa Xi) _ Lb)
     have m4 : IntKind.u64.wrap ((x : Int) - (lo : Int)) = (s1 : Int) := by rw [IntKind.wrap_u64, hs1]
     have m5 : IntKind.u64.wrap ((s1 : Int) - (b' : Int)) = (s2 : Int) := by rw [IntKind.wrap_u64, hs2]
     have m6 : IntKind.u32.wrap (s2 : Int) = (d : Int) := by rw [Cn, hd]
     have m6' : (s2 : Int) % 4294967296 = (d : Int) := by rw [hd, gp]; omega
     have m7 : (s2 : Int) / 9223372036854775808 = (b2 : Int) := by rw [hb2]; omega
     have m8 : (t : Int) / 4294967296 = (c2 : Int) := by rw [hc2, gp]; omega
     have hfin : ∀ W, W = wr.setCell ⟨b, off + i, none⟩ (.int .u32 (d : Int)) → ZB .u32 W b T (win us off (zc.set i d)) ∧ w.grownBy W (some b) := by
      rintro W rfl
      refine ⟨?_, pq hgr _ _⟩
      rw [← Ia us off zc (by rw [hzl, (aa HP).Df]; have := (aa adl); rw [(aa HP).Df] at this; exact this) i d (by rw [hzl, (aa HP).Df]; omega)]
      exact oq.Dx _ _
     have HC2 := Lib.hid (show c2 = 0 by rw [hc2, ht]; exact Nat.div_eq_of_lt (aa HI).c1)
     have HN := hide hnew; have HF := hide hfin
     clear hnew hfin hsw hd hb2 hs1 hs2 hlo hc2 Vg Lb zb hx hzl hgr oq adb
     have HIN := Lib.hid hin
     subst ht
     clear hin hy0 htc
     go_wp2_with fail
     go_roundw
     case rel =>
      obtain ⟨r1, r2⟩ := (aa HF) _ rfl
      exact ⟨i + 1, c2, b2, zc.set i d, by have := HIN.out; omega, rfl, rfl, by go_num, HN, fun _ => HC2.out, r1, r2⟩
     case measure => have := HIN.out; simp [intOf]; omega
   ·
    have d1 : decide ((i : Int) ≤ (n : Int)) = false := decide_eq_false om
    have d1' : decide (i ≤ n) = false := decide_eq_false hle
    have e : i = n + 1 := by omega
    subst e
    clear hle
    have hc0 := (aa HC0) rfl
    subst hc0
    have Ny := (aa HQR).2.2
    have j1 : (q : Int) % 4294967296 = (q : Int) := by rw [gp] at Ny; omega
    have j2 : IntKind.u32.wrap (q : Int) = (q : Int) := by rw [IntKind.wrap_u32]; exact j1
    have hdone : Wd.val dm zc + q * Wd.val dm vl = Wd.val dm ul + dm ^ (n + 1) * b' := by
     have h1 := (aa HP).Df
     have h2 := aa HI
     rw [← h1] at h2 ⊢
     exact h2.done (by rw [h1, (aa HP).Pq]; omega)
    have Ke : 0 < Wd.val dm vl := by
     rcases Nat.eq_zero_or_pos (Wd.val dm vl) with h | h
     ·
      have := (aa HP).pre; rw [h] at this; omega
     ·
      exact h
    have Cm := Nat.div_add_mod (Wd.val dm ul) (Wd.val dm vl)
    rw [← HQ.out, Nat.mul_comm] at Cm
    have hml := Nat.mod_lt (Wd.val dm ul) Ke
    have amc := Wd.Ch zc (aa HI).lt
    rw [hzl, (aa HP).Df] at amc
    rcases (show b' = 0 ∨ b' = 1 by have := (aa HI).b1; omega) with rfl | rfl
    ·
     have hqQ : q = Q := by
      have h1 := (aa HQR).1
      have h2 := (aa HQR).2.1
      rcases (show q = Q ∨ q = Q + 1 by omega) with h | h
      ·
       exact h
      ·
       rw [h, Nat.add_mul, Nat.one_mul] at hdone; omega
     have hok : StepT ul vl zc q := ⟨hzl, (aa HI).lt, hqQ.trans HQ.out, by rw [hqQ] at hdone; omega⟩
     have Kl := hide hok
     clear hok hqQ hdone Ke Cm hml amc adb Ny
     go_wp2_with fail
     go_ret
     exact ⟨zc, q, rfl, aa Kl, (aa HQR).2.2, oq, hgr⟩
    ·
     have hqQ : q = Q + 1 := by
      have h1 := (aa HQR).1
      have h2 := (aa HQR).2.1
      rcases (show q = Q ∨ q = Q + 1 by omega) with h | h
      ·
       rw [h] at hdone; omega
      ·
       exact h
     have bcr : off + (n + 1) ≤ us.length := by have := aa adl; rwa [(aa HP).Df] at this
     have aiw := hide bcr
     have Zi := Lib.hid (hzl.trans (aa HP).Df)
     have HQQ := Lib.hid hqQ
     have HDN := Lib.hid hdone
     have HDM := hide (And.intro Cm (And.intro hml amc))
     have j3 : IntKind.u64.wrap ((q : Int) - 1) = (Q : Int) := jy (by rw [hqQ]; omega) (by rw [gp] at Ny; rw [jb]; omega)
     have j4 : (Q : Int) % 4294967296 = (Q : Int) := by rw [gp] at Ny; omega
     have j5 : IntKind.u32.wrap (Q : Int) = (Q : Int) := by rw [IntKind.wrap_u32]; exact j4
     have HQB := hide (show Q < dm by omega)
     have HZC := hide (aa HI).lt
     clear hdone Ke Cm hml amc adb Ny bcr hqQ
     go_wp2_with fail
     go_loopw [14, 17] (fun cv iv wr => ∃ (i c : Nat) (zd : List Nat), i ≤ n + 1 ∧ cv = .int .u64 ((c : Nat) : Int) ∧ iv = .int .i64 ((i : Nat) : Int) ∧ Hid (Wd.Dj dm zc vl zd i c) ∧ ZB .u32 wr b T (win us off zd) ∧ w.grownBy wr (some b)) (fun _ iv _ => n + 1 - (intOf iv).toNat)
     case atStart => exact ⟨0, 0, zc, by omega, rfl, rfl, Wd.Dj.start _ _ (aa HZC), oq, hgr⟩
     case round =>
      clear oq hgr
      obtain ⟨i, c, zd, hi, rfl, rfl, HA, oq, hgr⟩ := hrel
      have Px := (aa HA).len.trans Zi.out
      by_cases hle : i ≤ n
      ·
       have d1 : decide ((i : Int) ≤ (n : Int)) = true := decide_eq_true om
       have d1' : decide (i ≤ n) = true := decide_eq_true hle
       obtain ⟨x, hx⟩ : ∃ t, t = Wd.g zc i := ⟨_, rfl⟩
       have Fb := oq.cell (off + i) (by rw [win_length _ _ _ (by rw [Px]; exact aa aiw)]; have h1 := (aa aiw); omega)
       rw [Mm us off zd (by rw [Px]; exact aa aiw) i (by rw [Px]; omega), show Wd.g zd i = Wd.g zc i from (aa HA).same i (Nat.le_refl _), ← hx] at Fb
       have Pw := oq.frozen (off + i)
       have zb : x < dm := by rw [hx]; exact Wd.getD_lt (by rw [gp]; omega) _ (aa HZC) _
       by_cases hin : i < n
       ·
        have d2 : decide ((i : Int) < (n : Int)) = true := decide_eq_true om
        have d2' : decide (i < n) = true := decide_eq_true hin
        obtain ⟨y, hy⟩ : ∃ t, t = Wd.g vl i := ⟨_, rfl⟩
        have Py := (World.cell?_of_block (hgr.block bv (aa HBB).2 (fun e => by injection e with e; exact (aa HBB).1 e))).trans ((aa HCV) i (by rw [(aa HP).Pq]; exact hin))
        rw [← hy] at Py
        have Ck : y < dm := by rw [hy]; exact Wd.getD_lt (by rw [gp]; omega) _ (aa HP).ltv _
        obtain ⟨s, hs⟩ : ∃ u, u = c + x := ⟨_, rfl⟩
        obtain ⟨t, ht⟩ : ∃ u, u = s + y := ⟨_, rfl⟩
        have hcB := (aa HA).c1
        have k1 : IntKind.u64.wrap (y : Int) = (y : Int) := jy rfl ((aa Xi) _ Ck)
        have k2 : IntKind.u64.wrap ((c : Int) + (x : Int)) = (s : Int) := jy (by rw [hs]; simp) (by rw [hs]; rw [gp] at *; rw [jb]; omega)
        have k3 : IntKind.u64.wrap ((s : Int) + (y : Int)) = (t : Int) := jy (by rw [ht]; simp) (by rw [ht, hs]; rw [gp] at *; rw [jb]; omega)
        have het : zd.getD i 0 + vl.getD i 0 + c = t := by rw [ht, hs, hx, hy, (aa HA).same i (Nat.le_refl _)]; show _ + Wd.g vl i + c = c + Wd.g zc i + Wd.g vl i; rw [show zc.getD i 0 = Wd.g zc i from rfl]; omega
        obtain ⟨d, hd⟩ : ∃ u, u = t % dm := ⟨_, rfl⟩
        obtain ⟨c2, hc2⟩ : ∃ u, u = t / dm := ⟨_, rfl⟩
        have hnew : Wd.Dj dm zc vl (zd.set i d) (i + 1) c2 := by
         have := (aa HA).step Bc (aa HP).ltv (by rw [Zi.out]; omega)
         rw [het] at this
         rw [hd, hc2]; exact this
        have m1 : IntKind.u64.wrap (x : Int) = (x : Int) := jy rfl ((aa Xi) _ zb)
        have m2 : IntKind.u32.wrap (t : Int) = (d : Int) := by rw [Cn, hd]
        have m2' : (t : Int) % 4294967296 = (d : Int) := by rw [hd, gp]; omega
        have m8 : (t : Int) / 4294967296 = (c2 : Int) := by rw [hc2, gp]; omega
        have hfin : ∀ W, W = wr.setCell ⟨b, off + i, none⟩ (.int .u32 (d : Int)) → ZB .u32 W b T (win us off (zd.set i d)) ∧ w.grownBy W (some b) := by
         rintro W rfl
         refine ⟨?_, pq hgr _ _⟩
         rw [← Ia us off zd (by rw [Px]; exact aa aiw) i d (by rw [Px]; omega)]
         exact oq.Dx _ _
        have HN := hide hnew; have HF := hide hfin
        have HIN := Lib.hid hin
        clear hnew hfin het hd hc2 ht zb hx Px hgr oq hcB hin hs hy Ck
        go_wp2_with fail
        go_roundw
        case rel =>
         obtain ⟨r1, r2⟩ := (aa HF) _ rfl
         exact ⟨i + 1, c2, zd.set i d, by have := HIN.out; omega, rfl, by go_num, HN, r1, r2⟩
        case measure => have := HIN.out; simp [intOf]; omega
       ·
        have d2 : decide ((i : Int) < (n : Int)) = false := decide_eq_false om
        have d2' : decide (i < n) = false := decide_eq_false hin
        replace hin : i = n := by omega
        have hy0 : vl.getD i 0 = 0 := by
         have h := (aa HP).Pq
         rw [List.getD, List.getElem?_eq_none om]; rfl
        obtain ⟨t, ht⟩ : ∃ u, u = c + x := ⟨_, rfl⟩
        have hcB := (aa HA).c1
        have k2 : IntKind.u64.wrap ((c : Int) + (x : Int)) = (t : Int) := jy (by rw [ht]; simp) (by rw [ht]; rw [gp] at *; rw [jb]; omega)
        have het : zd.getD i 0 + vl.getD i 0 + c = t := by rw [ht, hx, hy0, (aa HA).same i (Nat.le_refl _)]; show _ + 0 + c = c + Wd.g zc i; rw [show zc.getD i 0 = Wd.g zc i from rfl]; omega
        obtain ⟨d, hd⟩ : ∃ u, u = t % dm := ⟨_, rfl⟩
        obtain ⟨c2, hc2⟩ : ∃ u, u = t / dm := ⟨_, rfl⟩
        have hnew : Wd.Dj dm zc vl (zd.set i d) (i + 1) c2 := by
         have := (aa HA).step Bc (aa HP).ltv (by rw [Zi.out]; omega)
         rw [het] at this
         rw [hd, hc2]; exact this
        have m1 : IntKind.u64.wrap (x : Int) = (x : Int) := jy rfl ((aa Xi) _ zb)
        have m2 : IntKind.u32.wrap (t : Int) = (d : Int) := by rw [Cn, hd]
        have m2' : (t : Int) % 4294967296 = (d : Int) := by rw [hd, gp]; omega
        have m8 : (t : Int) / 4294967296 = (c2 : Int) := by rw [hc2, gp]; omega
        have hfin : ∀ W, W = wr.setCell ⟨b, off + i, none⟩ (.int .u32 (d : Int)) → ZB .u32 W b T (win us off (zd.set i d)) ∧ w.grownBy W (some b) := by
         rintro W rfl
         refine ⟨?_, pq hgr _ _⟩
         rw [← Ia us off zd (by rw [Px]; exact aa aiw) i d (by rw [Px]; omega)]
         exact oq.Dx _ _
        have HN := hide hnew; have HF := hide hfin
        have HIN := Lib.hid hin
        clear hnew hfin het hd hc2 ht zb hx Px hgr oq hcB hin hy0
        go_wp2_with fail
        go_roundw
        case rel =>
         obtain ⟨r1, r2⟩ := (aa HF) _ rfl
         exact ⟨i + 1, c2, zd.set i d, by have := HIN.out; omega, rfl, by go_num, HN, r1, r2⟩
        case measure => have := HIN.out; simp [intOf]; omega
      ·
       have d1 : decide ((i : Int) ≤ (n : Int)) = false := decide_eq_false om
       have d1' : decide (i ≤ n) = false := decide_eq_false hle
       have e : i = n + 1 := by omega
       subst e
       have hok : StepT ul vl zd Q := by
        have h1 : Wd.val dm zd + dm ^ (n + 1) * c = Wd.val dm zc + Wd.val dm vl := by
         have h2 := aa HA
         rw [← Zi.out] at h2 ⊢
         exact h2.done (by rw [Zi.out, (aa HP).Pq]; omega)
        have h3 := Wd.Ch zd (aa HA).lt
        rw [Px] at h3
        have h4 := HDN.out
        rw [HQQ.out, Nat.add_mul, Nat.one_mul, Nat.mul_one] at h4
        have h5 := (aa HDM).1
        have h6 := (aa HDM).2.2
        have hc := (aa HA).c1
        refine ⟨(aa HA).len.trans (Zi.out.trans (aa HP).Df.symm), (aa HA).lt, HQ.out, ?_⟩
        rcases (show c = 0 ∨ c = 1 by omega) with rfl | rfl
        ·
         rw [Nat.mul_zero] at h1; omega
        ·
         rw [Nat.mul_one] at h1; omega
       have Kl := hide hok
       clear hok hle Px
       go_wp2_with fail
       go_ret
       exact ⟨zd, Q, rfl, aa Kl, aa HQB, oq, hgr⟩
end Go.Proofs.YtjdnmdlnaoedoaaGreatDoor
namespace Go.Proofs.YtjdnmdlnaoedoaaGreatDoor
open Go.RowKit

def aca (w : World) (q r : Nat) (e : Ending) (w' : World) : Prop :=
 ∃ A cap l A' cap' l', e = .returned (.tuple #[.slice A l.length cap, .slice A' l'.length cap']) ∧ si w' A cap l q ∧ si w' A' cap' l' r ∧ Below w.heap.size w w'

set_option maxHeartbeats 1000000 in
theorem ajg (Ax Ay : Option Addr) (cx cy : Nat) (xl yl : List Nat) (n m : Nat) (w : World) (hx : si w Ax cx xl n) (hy : si w Ay cy yl m) (hlt : n < m) :
  Calls Tryz.prog 158 #[.slice Ax xl.length cx, .slice Ay yl.length cy] w fun e w' => aca w (n / m) (n % m) e w' := by
 have hc := Ic Ax Ay cx cy xl yl n m w hx hy
 rw [show wm n m = -1 by unfold wm; rw [if_pos hlt]] at hc
 rw [Nat.div_eq_of_lt hlt, Nat.mod_eq_of_lt hlt]
 have HC := hide hc
 have HX := hide hx
 clear hc hx hy hlt
 go_enter Tryz.func158, Tryz.ntmps158
 go_wp2_with fail
 refine (aa HC).mono ?_
 rintro e w' ⟨rfl, k, rfl⟩
 go_wp2
 go_ret2
 exact ⟨none, 0, [], Ax, cx, xl, rfl, si.Rl _ _ om, (aa HX).below (qj (Below.refl _ _) k), qj (Below.refl _ _) k⟩

set_option maxHeartbeats 1000000 in
theorem api (Ax Ay : Option Addr) (cx cy : Nat) (xl yl : List Nat) (n m : Nat) (w : World) (hx : si w Ax cx xl n) (hy : si w Ay cy yl m) (hge : ¬ n < m) (h1 : yl.length = 1) (hk : xl.length ≤ 35184372088832) :
  Calls Tryz.prog 158 #[.slice Ax xl.length cx, .slice Ay yl.length cy] w fun e w' => aca w (n / m) (n % m) e w' := by
 have hc := Ic Ax Ay cx cy xl yl n m w hx hy
 obtain ⟨o, ho⟩ : ∃ o, o = wm n m := ⟨_, rfl⟩
 rw [← ho] at hc
 have hd : decide (o < 0) = false := decide_eq_false (by rw [ho]; unfold wm; rw [if_neg hge]; split <;> omega)
 have HC := hide hc
 have hmk := abd xl.length hk
 have hx1 := hx.uu; have hx2 := hx.cap2; have hy1 := hy.uu; have hy2 := hy.cap2
 obtain ⟨by', oy, hA, hby, hcy⟩ := hy.ws om
 subst hA
 have hy0 := hcy 0 om
 have hym : Wd.g yl 0 = m := by rw [Uf dm yl h1]; exact hy.val
 rw [hym, Nat.add_zero] at hy0
 have Lj : m < dm := by rw [← hym]; exact Wd.getD_lt (by rw [gp]; omega) _ hy.lt 0
 have hm0 : 0 < m := by
  rcases hy.norm with h | h
  ·
   rw [h] at h1; simp at h1
  ·
   rw [h1] at h; have : Wd.g yl 0 ≠ 0 := h; omega
 have l1 : ((yl.length : Int) == 1) = true := by rw [h1]; rfl
 have e1 : IntKind.u64.wrap (m : Int) = (m : Int) := jy rfl (by rw [gp] at Lj; rw [jb]; omega)
 have e9 : ((m : Int) == 0) = false := beq_eq_false_iff_ne.2 om
 have e9' : ¬ ((m : Int) = 0) := by omega
 have bkm : ¬ (m = 0) := by omega
 have boq : 0 < yl.length := by omega
 have HY0 := hide (And.intro hby hy0)
 have hne1 : ¬ (w.heap.size = by') := by omega
 have hne2 : ¬ (by' = w.heap.size) := by omega
 have HMB := hide Lj; have HM0 := hide hm0
 have HX := hide hx
 clear hc ho hcy hy hym Lj hm0 hge hy0 hby hx h1
 go_enter Tryz.func158, Tryz.ntmps158
 go_wp2_with fail
 refine (aa HC).mono ?_
 rintro e w' ⟨rfl, k, rfl⟩
 go_wp2_with fail
 go_loopw [7, 8] (fun rv iv wr => ∃ (i : Int) (r : Nat) (qc : List Nat), -1 ≤ i ∧ i < xl.length ∧ iv = .int .i64 i ∧ rv = .int .u64 ((r : Nat) : Int) ∧ Hid (Wd.Eb dm xl qc m (i + 1).toNat r) ∧ ZB .u32 wr w.heap.size 156 qc ∧ Below w.heap.size w wr) (fun _ iv _ => (intOf iv + 1).toNat)
 case atStart =>
  refine ⟨(xl.length : Int) - 1, 0, List.replicate xl.length 0, by omega, by omega, by first | rfl | go_num, rfl, ?_, heap_alloc_new (w.drewN k) _, (qj (Below.refl _ _) k).alloc (Nat.le_refl _) _⟩
  rw [show ((xl.length : Int) - 1 + 1).toNat = xl.length by omega]
  exact Wd.Eb.start _ _ _ (by simp) (aa HM0) (Ll (by rw [gp]; omega) _)
 case round =>
  obtain ⟨i, r, qc, hi1, hi2, rfl, rfl, HI, oq, hg⟩ := hrel
  have hlen := HI.out.len
  by_cases h0 : i < 0
  ·
   have e : i = -1 := by omega
   subst e
   obtain ⟨v1, v2⟩ := HI.out.done
   rw [(aa HX).val] at v1 v2
   have Sl : r < dm := Nat.lt_trans HI.out.r1 (aa HMB)
   have j1 : (r : Int) % 4294967296 = (r : Int) := by rw [gp] at Sl; omega
   have j2 : IntKind.u32.wrap (r : Int) = (r : Int) := by rw [IntKind.wrap_u32]; exact j1
   have V1 := Lib.hid v1; have V2 := Lib.hid v2; have HRB := hide Sl
   clear v1 v2 Sl
   go_wp2_with fail
   have htr := Cr (some ⟨w.heap.size, 0, none⟩) qc.length qc (wr.heap.size) wr (oq.Fh _ oq.lt) (Nat.le_refl _) om
   rw [hlen] at htr
   refine htr.mono ?_
   rintro e w' ⟨⟨k1, rfl, ht, hk2⟩, hw⟩
   obtain rfl : wr = w' := hw.symm
   clear hw
   go_wp2_with fail
   have hn := heap_alloc_new wr (.cells (xy .u32 [r]) 156)
   have auf : ZB .u32 (wr.alloc (.cells (xy .u32 [r]) 156)) wr.heap.size 156 [r] := hn
   have Mj := Cr (some ⟨wr.heap.size, 0, none⟩) 1 [r] _ _ (auf.Fh _ auf.lt) (Nat.le_refl _) om
   refine Mj.mono ?_
   rintro e w' ⟨⟨k3, rfl, ht2, hk3⟩, hw⟩
   subst hw
   go_wp2_with fail
   go_ret2
   have hk4 : k1 = (qc.take k1).length := by simp; omega
   have hk5 : k3 = ([r].take k3).length := by rw [List.length_take]; omega
   have q1 := si.Cz (cap := xl.length) oq HI.out.lt ht om om om
   rw [V1.out] at q1
   have q2 := si.Cz (cap := 1) auf (by simpa using aa HRB) ht2 hk3 (by simp) om
   rw [show Wd.val dm [r] = n % m by rw [← V2.out]; simp [Wd.val]] at q2
   exact ⟨some ⟨w.heap.size, 0, none⟩, xl.length, qc.take k1, some ⟨wr.heap.size, 0, none⟩, 1, [r].take k3, Tz hk4 hk5, q1.below ((Below.refl _ _).alloc (Nat.le_refl _) _), q2, hg.alloc hg.size _⟩
  ·
   obtain ⟨j, rfl⟩ := Int.eq_ofNat_of_zero_le (show 0 ≤ i by omega)
   have Wn : j < xl.length := by omega
   obtain ⟨bx, ox, rfl, hbx, hcx⟩ := (aa HX).ws om
   have Fb := (hg.cell (p := ⟨bx, ox + j, none⟩) hbx).trans (hcx j Wn)
   have Py := (hg.cell (p := ⟨by', oy, none⟩) (aa HY0).1).trans (aa HY0).2
   clear hcx
   have hzc := oq.cell j om
   have Pw := oq.frozen j
   obtain ⟨xj, hxj⟩ : ∃ t, t = Wd.g xl j := ⟨_, rfl⟩
   rw [← hxj] at Fb
   have zb : xj < dm := by rw [hxj]; exact Wd.getD_lt (by rw [gp]; omega) _ (aa HX).lt _
   have hinv : Wd.Eb dm xl qc m (j + 1) r := by have := HI.out; rwa [show ((j : Int) + 1).toNat = j + 1 by omega] at this
   have Sl : r < dm := Nat.lt_trans hinv.r1 (aa HMB)
   obtain ⟨rs, hrs⟩ : ∃ t, t = r * dm := ⟨_, rfl⟩
   obtain ⟨X, hX⟩ : ∃ t, t = r * dm + xj := ⟨_, rfl⟩
   obtain ⟨q, hq⟩ : ∃ t, t = (r * dm + xj) / m := ⟨_, rfl⟩
   obtain ⟨s, hs⟩ : ∃ t, t = (r * dm + xj) % m := ⟨_, rfl⟩
   have hXB : X < dw := by rw [hX]; rw [gp] at *; rw [jb]; omega
   have Ny : q < dm := by
    rw [hq, Nat.div_lt_iff_lt_mul (aa HM0)]
    have h1 : (r + 1) * dm ≤ m * dm := Nat.mul_le_mul_right _ hinv.r1
    rw [Nat.add_mul, Nat.one_mul] at h1
    rw [Nat.mul_comm dm]; omega
   have hsm : s < m := by rw [hs]; exact Nat.mod_lt _ (aa HM0)
   have b64 : ∀ t : Nat, t < dm → t < dw := fun t ht => by rw [gp] at ht; rw [jb]; omega
   have g1 : IntKind.u64.wrap ((r : Int) * 4294967296) = (rs : Int) := jy (by rw [hrs, gp]; simp) om
   have g2 : Go.bits .or .u64 (rs : Int) (xj : Int) = (X : Int) := by rw [hrs, agh Sl zb, hX]
   have g3 : IntKind.u64.wrap (xj : Int) = (xj : Int) := jy rfl (b64 _ zb)
   have g4 : (X : Int).tdiv (m : Int) = (q : Int) := by rw [hq, hX]; exact (Int.ofNat_tdiv _ _).symm
   have g5 : (X : Int).tmod (m : Int) = (s : Int) := by rw [hs, hX]; exact (Int.ofNat_tmod _ _).symm
   have g6 : IntKind.u64.wrap (q : Int) = (q : Int) := jy rfl (b64 _ Ny)
   have g7 : IntKind.u64.wrap (s : Int) = (s : Int) := jy rfl (b64 _ (Nat.lt_trans hsm (aa HMB)))
   have g8 : (q : Int) % 4294967296 = (q : Int) := by rw [gp] at Ny; omega
   have g9 : IntKind.u32.wrap (q : Int) = (q : Int) := by rw [IntKind.wrap_u32]; exact g8
   have g10 : IntKind.u64.wrap (X : Int) = (X : Int) := jy rfl hXB
   have hfin : ∀ W, W = wr.setCell ⟨w.heap.size, j, none⟩ (.int .u32 (q : Int)) → Hid (Wd.Eb dm xl (qc.set j q) m j s) ∧ ZB .u32 W w.heap.size 156 (qc.set j q) ∧ Below w.heap.size w W := by
    rintro W rfl
    refine ⟨?_, oq.Dx _ _, hg.setCell (p := ⟨w.heap.size, j, none⟩) (Nat.le_refl _) _⟩
    rw [hq, hs, hxj]
    exact hinv.step Wn (by rw [← Wd.uf, ← hxj]; exact zb)
   have HF := hide hfin
   clear hfin hq hs hxj zb hinv oq hg HI hX hrs hXB Ny hsm b64 Sl
   go_wp2_with fail
   go_roundw
   case rel =>
    obtain ⟨r1, r2, r3⟩ := (aa HF) _ rfl
    exact ⟨(j : Int) - 1, s, qc.set j q, by omega, by omega, by go_num, rfl, by rw [show ((j : Int) - 1 + 1).toNat = j by omega]; exact r1, r2, r3⟩
   case measure => simp [intOf] <;> omega
end Go.Proofs.YtjdnmdlnaoedoaaGreatDoor
