/- Texts beneath a law of layer 1. -/
import Derived.Test.YtpjgoogeokbaaaaGreatDoorCk19
import Derived.Test.YtpjgoogeokbaaaaGreatDoorRows
import Derived.ProofKit
import Derived.OpenShut
import Derived.LaidMore
import Derived.Lay
import Derived.Lib.SmallJoins
import Derived.Stop.Joined
import Derived.Lib.LaidTab
import Derived.Stop.LaidErr
set_option maxRecDepth 100000
namespace Go.Proofs.YtpjgoogeokbaaaaGreatDoor
open Go.RowKit

set_option maxHeartbeats 16000000 in
theorem azb (N D m : Int) (w : World) (hT : rz w) (ok : Wd.nu N D) (hm : 1 ≤ m) (hm2 : m ≤ 1000000000000) (hD : m < D) :
  Calls Tryz.prog 18 #[(Value.agg #[.int .i64 N, .int .i64 D]), .int .i64 m] w fun e w' => ∃ n d, Wd.Nk N D m n d ∧ e = .returned (.tuple #[(Value.agg #[.int .i64 n, .int .i64 d]), .int .i64 0]) ∧ Below w.heap.size w w' := by
 have HV := hide (Ah N D)
 rw [show Cz N D = 0 from if_pos ok] at HV
 have HNB := hide (fun W (hW : rz W) => azf N D m W hW ok hm hD)
 have HO := hide (fun W => Ex N D W (by have := ok.2.2.1; omega) (by have := ok.2.2.2.1; omega) (by have := ok.1; omega) (by have := ok.2.1; omega))
 have HT := hide hT
 have Pb := Lib.hid ok
 have HMD := hide hD
 have q0 : decide (m < 1) = false := decide_eq_false om
 have q1 : decide (1000000000000 < m) = false := decide_eq_false om
 have q2 : decide (D ≤ m) = false := decide_eq_false om
 clear hT ok hm hm2 hD
 go_enter Tryz.func18, Tryz.ntmps18
 go_wp2_with fail
 obtain ⟨El, Ej, hsz, hw0⟩ := jm w (.cells #[.int .i64 N, .int .i64 D] 23) (.cells #[.int .i64 0, .int .i64 0] 23)
 generalize ((w.alloc (.cells #[.int .i64 N, .int .i64 D] 23)).alloc (.cells #[.int .i64 0, .int .i64 0] 23)) = W0 at *
 clear hsz
 refine ((aa HV) _ ((aa HT).below hw0)).mono ?_
 rintro e W1 ⟨rfl, hb⟩
 have x1 := (hb.block _ (lt_of_block El)).trans El
 have r1 := (hb.block _ (lt_of_block Ej)).trans Ej
 have hw1 := au hw0 hb
 clear El Ej hb hw0 W0
 have k0 : W1.cell? ⟨w.heap.size, 0, none⟩ = some (.int .i64 N) := ag x1 0
 have k1 : W1.cell? ⟨w.heap.size, 1, none⟩ = some (.int .i64 D) := ag x1 1
 have X1 := hide x1
 have R1 := hide r1
 clear x1 r1
 go_wp2_with fail
 refine ((aa HNB) _ ((aa HT).below hw1)).mono ?_
 rintro e W2 ⟨aN, aD, cN, cD, hS, oa, oc, rfl, hb⟩
 have Gf := hide (fun W => Ex aN aD W (by have := oa.2.2.1; omega) (by have := oa.2.2.2.1; omega) (by have := oa.1; omega) (by have := oa.2.1; omega))
 have Pf := hide (fun W => Ex cN cD W (by have := oc.2.2.1; omega) (by have := oc.2.2.2.1; omega) (by have := oc.1; omega) (by have := oc.2.1; omega))
 have ok := Pb.out
 obtain ⟨e1, e2⟩ := Wd.Cf ok
 obtain ⟨e3, e4⟩ := Wd.Cf oa
 obtain ⟨e5, e6⟩ := Wd.Cf oc
 obtain ⟨hs1, z1⟩ := Vl (aa HT) (Wd.qR N D) (Wd.qR aN aD) (Fb ok) (Fb oa) apd
 obtain ⟨hs2, z2⟩ := Vl (aa HT) (Wd.qR cN cD) (Wd.qR N D) (Fb oc) (Fb ok) apd
 have hcc := Vm w _ _ z1 z2 (by unfold lim; omega)
 have azz := aui N D aN aD cN cD (by have := ok.1; omega) (by have := oa.1; omega) (by have := oc.1; omega)
 unfold Qf at hs1 hs2
 unfold OpC at hcc
 rw [e1, e2, e3, e4] at hs1
 rw [e5, e6, e1, e2] at hs2
 obtain ⟨o, ho⟩ : ∃ o, o = gm ((Wd.qR N D - Wd.qR aN aD).num * (Wd.qR cN cD - Wd.qR N D).den - (Wd.qR cN cD - Wd.qR N D).num * (Wd.qR N D - Wd.qR aN aD).den) := ⟨_, rfl⟩
 rw [← ho] at hcc azz
 clear ho
 generalize Wd.qR N D - Wd.qR aN aD = u at *
 generalize Wd.qR cN cD - Wd.qR N D = v at *
 have pz := hide hs1
 have HS2 := hide hs2
 have HCC := hide hcc
 have akr := hide azz
 have HSD := hide hS
 have HOA := hide oa
 have HOC := hide oc
 clear hS oa oc ok e1 e2 e3 e4 e5 e6 hs1 hs2 z1 z2 hcc azz
 have x1 := (hb.block _ (lt_of_block (aa X1))).trans (aa X1)
 have r1 := (hb.block _ (lt_of_block (aa R1))).trans (aa R1)
 have hw2 := au hw1 hb
 clear k0 k1 hb hw1 X1 R1
 have k0 : W2.cell? ⟨w.heap.size, 0, none⟩ = some (.int .i64 N) := ag x1 0
 have k1 : W2.cell? ⟨w.heap.size, 1, none⟩ = some (.int .i64 D) := ag x1 1
 have X1 := hide x1
 have R1 := hide r1
 clear x1 r1
 go_upto_region 9 with fail
 obtain ⟨n7, n8, hsz, hb⟩ := jm W2 (.cells #[.int .i64 aN, .int .i64 aD] 23) (.cells #[.int .i64 cN, .int .i64 cD] 23)
 have x1 := (hb.block _ (lt_of_block (aa X1))).trans (aa X1)
 have r1 := (hb.block _ (lt_of_block (aa R1))).trans (aa R1)
 have hw3 := au hw2 hb
 generalize ((W2.alloc (.cells #[.int .i64 aN, .int .i64 aD] 23)).alloc (.cells #[.int .i64 cN, .int .i64 cD] 23)) = W3 at *
 have ob7 : w.heap.size + 1 < W2.heap.size := lt_of_block (aa R1)
 obtain ⟨b7, yf⟩ : ∃ b, b = W2.heap.size := ⟨_, rfl⟩
 rw [← yf] at n7 n8 ob7 ⊢
 clear k0 k1 hb hw2 X1 R1 hsz yf
 have k0 : W3.cell? ⟨w.heap.size, 0, none⟩ = some (.int .i64 N) := ag x1 0
 have k1 : W3.cell? ⟨w.heap.size, 1, none⟩ = some (.int .i64 D) := ag x1 1
 go_wp2_with fail
 refine ((aa HO) _).mono ?_
 rintro e W4 ⟨s1, bz, A1, c1, l1, s2, cu, A2, c2, l2, rfl, hf1, hf2, hb⟩
 go_upto_region 10 with fail
 have n9 := heap_alloc_new W4 (.cells #[.int .i64 s1, .bool bz, .slice A1 l1.length c1, .int .i64 s2, .bool cu, .slice A2 l2.length c2] 63)
 have hn : Below W4.heap.size W4 (W4.alloc (.cells #[.int .i64 s1, .bool bz, .slice A1 l1.length c1, .int .i64 s2, .bool cu, .slice A2 l2.length c2] 63)) := je (Below.refl _ _) _
 have ob9 : W3.heap.size ≤ W4.heap.size := hb.size
 generalize W4.alloc (.cells #[.int .i64 s1, .bool bz, .slice A1 l1.length c1, .int .i64 s2, .bool cu, .slice A2 l2.length c2] 63) = W5 at *
 obtain ⟨b9, gp⟩ : ∃ b, b = W4.heap.size := ⟨_, rfl⟩
 rw [← gp] at n9 ob9 ⊢
 have Ur := au hb hn
 have H1 := hide (hf1.below hn)
 have H2 := hide (hf2.below hn)
 have m7 := (Ur.block _ (lt_of_block n7)).trans n7
 have m8 := (Ur.block _ (lt_of_block n8)).trans n8
 have mr := (Ur.block _ (lt_of_block r1)).trans r1
 have HB := Lib.hid (au hw3 Ur)
 have HM8 := hide m8
 have HM7 := hide m7
 have HMR := hide mr
 have Ko : W5.cell? ⟨b7, 0, none⟩ = some (.int .i64 aN) := ag m7 0
 have Kn : W5.cell? ⟨b7, 1, none⟩ = some (.int .i64 aD) := ag m7 1
 have Mc : W5.cell? ⟨b7 + 1, 0, none⟩ = some (.int .i64 cN) := ag m8 0
 have Ma : W5.cell? ⟨b7 + 1, 1, none⟩ = some (.int .i64 cD) := ag m8 1
 have Vu : W5.cell? ⟨b9, 0, none⟩ = some (.int .i64 s1) := ag n9 0
 have Vt : W5.cell? ⟨b9, 1, none⟩ = some (.bool bz) := ag n9 1
 have Vs : W5.cell? ⟨b9, 2, none⟩ = some (.slice A1 l1.length c1) := ag n9 2
 have apk : W5.cell? ⟨b9, 3, none⟩ = some (.int .i64 s2) := ag n9 3
 have apj : W5.cell? ⟨b9, 4, none⟩ = some (.bool cu) := ag n9 4
 have api : W5.cell? ⟨b9, 5, none⟩ = some (.slice A2 l2.length c2) := ag n9 5
 have Jv := lt_of_block m7
 have Kk := lt_of_block m8
 have Ju := lt_of_block n9
 clear k0 k1 hf1 hf2 hb hn n7 n8 n9 x1 r1 m7 m8 mr hw3 Ur ob9 gp
 have KEEP := hide (show ∀ X, Below W5.heap.size W5 X → X.cell? ⟨b7, 0, none⟩ = some (.int .i64 aN) ∧ X.cell? ⟨b7, 1, none⟩ = some (.int .i64 aD) ∧ X.cell? ⟨b7 + 1, 0, none⟩ = some (.int .i64 cN) ∧ X.cell? ⟨b7 + 1, 1, none⟩ = some (.int .i64 cD) ∧ X.cell? ⟨b9, 0, none⟩ = some (.int .i64 s1) ∧ X.cell? ⟨b9, 1, none⟩ = some (.bool bz) ∧ X.cell? ⟨b9, 2, none⟩ = some (.slice A1 l1.length c1) ∧ X.cell? ⟨b9, 3, none⟩ = some (.int .i64 s2) ∧ X.cell? ⟨b9, 4, none⟩ = some (.bool cu) ∧ X.cell? ⟨b9, 5, none⟩ = some (.slice A2 l2.length c2) from fun X hB => ⟨ai hB Jv Ko, ai hB Jv Kn, ai hB Kk Mc, ai hB Kk Ma, ai hB Ju Vu, ai hB Ju Vt, ai hB Ju Vs, ai hB Ju apk, ai hB Ju apj, ai hB Ju api⟩)
 go_region_held3 (fun w' => w'.cell? ⟨b7, 0, none⟩ = some (.int .i64 aN) ∧ w'.cell? ⟨b7, 1, none⟩ = some (.int .i64 aD) ∧ w'.cell? ⟨b7 + 1, 0, none⟩ = some (.int .i64 cN) ∧ w'.cell? ⟨b7 + 1, 1, none⟩ = some (.int .i64 cD) ∧ w'.cell? ⟨b9, 0, none⟩ = some (.int .i64 s1) ∧ w'.cell? ⟨b9, 1, none⟩ = some (.bool bz) ∧ w'.cell? ⟨b9, 2, none⟩ = some (.slice A1 l1.length c1) ∧ w'.cell? ⟨b9, 3, none⟩ = some (.int .i64 s2) ∧ w'.cell? ⟨b9, 4, none⟩ = some (.bool cu) ∧ w'.cell? ⟨b9, 5, none⟩ = some (.slice A2 l2.length c2)) (exact (aa KEEP) _ bel) (first | (go_at_call_of 50 (Value.agg #[.int .i64 aN, .int .i64 aD]); refine ((aa Gf) _).mono ?_; rintro e w' ⟨s5, si, A5, c5, l5, s6, xg, A6, c6, l6, rfl, kz, og, hb5⟩; have hbw := ay (w := W5) bel hb5; have hsw := hbw.size; obtain ⟨hc, hfz⟩ := az hbw) | (go_at_call_of 61 (Value.agg #[.int .i64 s1, .bool bz, .slice A1 l1.length c1, .int .i64 s2, .bool cu, .slice A2 l2.length c2]); refine ((aa pz) s1 bz A1 c1 l1 s2 cu A2 c2 l2 s5 si A5 c5 l5 s6 xg A6 c6 l6 _ (au HB.out bel) (dz.below (aa H1) bel) (dz.below (aa H2) bel) (dz.below kz bel) (dz.below og bel)).mono ?_; rintro e w' ⟨s7, Dc, A7, c7, l7, s8, Fg, A8, c8, l8, rfl, Au, wh, yf⟩; have hbw := ay (w := W5) bel yf; have hsw := hbw.size; obtain ⟨hc, hfz⟩ := az hbw) | (go_at_call_of 50 (Value.agg #[.int .i64 cN, .int .i64 cD]); refine ((aa Pf) _).mono ?_; rintro e w' ⟨s9, Gx, A9, c9, l9, s10, Es, Ae, c10, l10, rfl, En, zt, gp⟩; have Au := dz.below (dz.below Au bel) gp; have wh := dz.below (dz.below wh bel) gp; have hbw := ay (w := W5) bel gp; have hsw := hbw.size; obtain ⟨hc, hfz⟩ := az hbw) | (go_at_call_of 61 (Value.agg #[.int .i64 s9, .bool Gx, .slice A9 l9.length c9, .int .i64 s10, .bool Es, .slice Ae l10.length c10]); refine ((aa HS2) s9 Gx A9 c9 l9 s10 Es Ae c10 l10 s1 bz A1 c1 l1 s2 cu A2 c2 l2 _ (au HB.out bel) (dz.below En bel) (dz.below zt bel) (dz.below (aa H1) bel) (dz.below (aa H2) bel)).mono ?_; rintro e w' ⟨s11, Lx, Fv, c11, Fq, s12, Vr, Lc, c12, Ky, rfl, Ec, Gq, Dx⟩; have Au := dz.below (dz.below Au bel) Dx; have wh := dz.below (dz.below wh bel) Dx; have hbw := ay (w := W5) bel Dx; have hsw := hbw.size; obtain ⟨hc, hfz⟩ := az hbw) | (go_at_call_of 62 (Value.agg #[.int .i64 s7, .bool Dc, .slice A7 l7.length c7, .int .i64 s8, .bool Fg, .slice A8 l8.length c8]); refine ((aa HCC) s7 Dc A7 c7 l7 s8 Fg A8 c8 l8 s11 Lx Fv c11 Fq s12 Vr Lc c12 Ky _ (au HB.out bel) (dz.below Au bel) (dz.below wh bel) (dz.below Ec bel) (dz.below Gq bel)).mono ?_; rintro e w' ⟨rfl, ado⟩; have hbw := ay (w := W5) bel ado; have hsw := hbw.size; obtain ⟨hc, hfz⟩ := az hbw))
 have hbb := au HB.out hbw
 have m8 := (hbw.block _ Kk).trans (aa HM8)
 have mr := (hbw.block _ (lt_of_block (aa HMR))).trans (aa HMR)
 have m7 := (hbw.block _ Jv).trans (aa HM7)
 clear Au wh Ec Gq hc hfz KEEP Ko Kn Mc Ma
 have kl0 : w'.cell? ⟨b7, 0, none⟩ = some (.int .i64 aN) := ag m7 0
 have kl1 : w'.cell? ⟨b7, 1, none⟩ = some (.int .i64 aD) := ag m7 1
 have k0 : w'.cell? ⟨b7 + 1, 0, none⟩ = some (.int .i64 cN) := ag m8 0
 have k1 : w'.cell? ⟨b7 + 1, 1, none⟩ = some (.int .i64 cD) := ag m8 1
 have r0 : w'.cell? ⟨w.heap.size + 1, 0, none⟩ = some (.int .i64 0) := ag mr 0
 have r1 : w'.cell? ⟨w.heap.size + 1, 1, none⟩ = some (.int .i64 0) := ag mr 1
 have f0 : w'.frozen? ⟨w.heap.size + 1, 0, none⟩ = false := ah mr 0
 have f1 : w'.frozen? ⟨w.heap.size + 1, 1, none⟩ = false := ah mr 1
 rcases aa akr with ⟨rfl, hp⟩ | ⟨rfl, hq, hp⟩ | ⟨rfl, hq, hp⟩ | ⟨rfl, hp⟩
 ·
  have HP := Lib.hid hp
  clear hp akr
  go_wp2_with fail
  exact bodyPost_ret (v := .tuple #[(Value.agg #[.int .i64 aN, .int .i64 aD]), .int .i64 0]) (by simp [results, Tryz.results18, go_sem, r0, r1]) rfl
   ⟨aN, aD, .inr ⟨aa HMD, aN, aD, cN, cD, aa HSD, aa HOA, aa HOC, by rw [HP.out], by rw [HP.out]⟩, rfl, hbb.grown (fq _ _ _ _) hbb.size (fun k hk => by injection hk with hk; omega)⟩
 ·
  have HP := Lib.hid hp
  have hq' : decide (aD ≤ cD) = true := decide_eq_true hq
  clear hp hq akr
  go_wp2_with fail
  exact bodyPost_ret (v := .tuple #[(Value.agg #[.int .i64 aN, .int .i64 aD]), .int .i64 0]) (by simp [results, Tryz.results18, go_sem, r0, r1]) rfl
   ⟨aN, aD, .inr ⟨aa HMD, aN, aD, cN, cD, aa HSD, aa HOA, aa HOC, by rw [HP.out], by rw [HP.out]⟩, rfl, hbb.grown (fq _ _ _ _) hbb.size (fun k hk => by injection hk with hk; omega)⟩
 ·
  have HP := Lib.hid hp
  have hq' : decide (aD ≤ cD) = false := decide_eq_false om
  clear hp hq akr
  go_wp2_with fail
  exact bodyPost_ret (v := .tuple #[(Value.agg #[.int .i64 cN, .int .i64 cD]), .int .i64 0]) (by simp [results, Tryz.results18, go_sem, r0, r1]) rfl
   ⟨cN, cD, .inr ⟨aa HMD, aN, aD, cN, cD, aa HSD, aa HOA, aa HOC, by rw [HP.out], by rw [HP.out]⟩, rfl, hbb.grown (fq _ _ _ _) hbb.size (fun k hk => by injection hk with hk; omega)⟩
 ·
  have HP := Lib.hid hp
  clear hp akr
  go_wp2_with fail
  exact bodyPost_ret (v := .tuple #[(Value.agg #[.int .i64 cN, .int .i64 cD]), .int .i64 0]) (by simp [results, Tryz.results18, go_sem, r0, r1]) rfl
   ⟨cN, cD, .inr ⟨aa HMD, aN, aD, cN, cD, aa HSD, aa HOA, aa HOC, by rw [HP.out], by rw [HP.out]⟩, rfl, hbb.grown (fq _ _ _ _) hbb.size (fun k hk => by injection hk with hk; omega)⟩

def bpy (w : World) (N D m : Int) (e' : Ending) (w' : World) : Prop := ∃ n d z : Int, ((Wd.nu N D ∧ 1 ≤ m ∧ m ≤ 1000000000000 ∧ Wd.Nk N D m n d ∧ z = 0) ∨ (¬ (Wd.nu N D ∧ 1 ≤ m ∧ m ≤ 1000000000000) ∧ n = 0 ∧ d = 0 ∧ z = 1)) ∧ e' = .returned (.tuple #[(Value.agg #[.int .i64 n, .int .i64 d]), .int .i64 z]) ∧ Below w.heap.size w w'
theorem azd (N D m : Int) (w : World) (hT : rz w) :
  Calls Tryz.prog 18 #[(Value.agg #[.int .i64 N, .int .i64 D]), .int .i64 m] w fun e w' => bpy w N D m e w' := by
 by_cases ok : Wd.nu N D
 ·
  by_cases h1 : m < 1
  ·
   exact (aza N D m w hT ok h1).mono fun e w' ⟨h, hb⟩ => ⟨0, 0, 1, .inr ⟨by omega, rfl, rfl, rfl⟩, h, hb⟩
  ·
   by_cases h2 : 1000000000000 < m
   ·
    exact (auk N D m w hT ok h2).mono fun e w' ⟨h, hb⟩ => ⟨0, 0, 1, .inr ⟨by omega, rfl, rfl, rfl⟩, h, hb⟩
   ·
    by_cases h3 : D ≤ m
    ·
     exact (auj N D m w hT ok om om h3).mono fun e w' ⟨h, hb⟩ => ⟨N, D, 0, .inl ⟨ok, by omega, by omega, .inl ⟨h3, rfl, rfl⟩, rfl⟩, h, hb⟩
    ·
     exact (azb N D m w hT ok om om om).mono fun e w' ⟨n, d, hn, h, hb⟩ => ⟨n, d, 0, .inl ⟨ok, by omega, by omega, hn, rfl⟩, h, hb⟩
 ·
  exact (azc N D m w hT ok).mono fun e w' ⟨h, hb⟩ => ⟨0, 0, 1, .inr ⟨fun h => ok h.1, rfl, rfl, rfl⟩, h, hb⟩

end Go.Proofs.YtpjgoogeokbaaaaGreatDoor
namespace Go.Proofs.YtpjgoogeokbaaaaGreatDoor
open Go.RowKit

set_option maxHeartbeats 16000000 in
theorem aow (w : World) (hT : rz w) :
  Calls Tryz.prog 18 #[(Value.agg #[.int .i64 22, .int .i64 7]), .int .i64 5] w fun e w' => e = .returned (.tuple #[(Value.agg #[.int .i64 16, .int .i64 5]), .int .i64 0]) ∧ Below w.heap.size w w' := by
 have HV := hide (Ah 22 7)
 rw [show Cz 22 7 = 0 by decide] at HV
 have HNB := hide azg
 have HO := hide (fun W => Ex 22 7 W om om om om)
 have Gf := hide (fun W => Ex 3 1 W om om om om)
 have Pf := hide (fun W => Ex 16 5 W om om om om)
 have o1 : Wd.nu 22 7 := by decide
 have o2 : Wd.nu 3 1 := by decide
 have o3 : Wd.nu 16 5 := by decide
 obtain ⟨e1, e2⟩ := Wd.Cf o1
 obtain ⟨e3, e4⟩ := Wd.Cf o2
 obtain ⟨e5, e6⟩ := Wd.Cf o3
 obtain ⟨hs1, z1⟩ := Vl hT (Wd.qR 22 7) (Wd.qR 3 1) (Fb o1) (Fb o2) apd
 obtain ⟨hs2, z2⟩ := Vl hT (Wd.qR 16 5) (Wd.qR 22 7) (Fb o3) (Fb o1) apd
 have hcc := Vm w _ _ z1 z2 (by unfold lim; omega)
 rw [show gm ((Wd.qR 22 7 - Wd.qR 3 1).num * (Wd.qR 16 5 - Wd.qR 22 7).den - (Wd.qR 16 5 - Wd.qR 22 7).num * (Wd.qR 22 7 - Wd.qR 3 1).den) = 1 by decide +kernel] at hcc
 unfold Qf at hs1 hs2
 unfold OpC at hcc
 rw [e1, e2, e3, e4] at hs1
 rw [e5, e6, e1, e2] at hs2
 generalize Wd.qR 22 7 - Wd.qR 3 1 = u at *
 generalize Wd.qR 16 5 - Wd.qR 22 7 = v at *
 have pz := hide hs1
 have HS2 := hide hs2
 have HCC := hide hcc
 have HT := hide hT
 clear hT o1 o2 o3 e1 e2 e3 e4 e5 e6 hs1 hs2 z1 z2 hcc
 go_enter Tryz.func18, Tryz.ntmps18
 go_wp2_with fail
 obtain ⟨El, Ej, hsz, hw0⟩ := jm w (.cells #[.int .i64 22, .int .i64 7] 23) (.cells #[.int .i64 0, .int .i64 0] 23)
 generalize ((w.alloc (.cells #[.int .i64 22, .int .i64 7] 23)).alloc (.cells #[.int .i64 0, .int .i64 0] 23)) = W0 at *
 clear hsz
 refine ((aa HV) _ ((aa HT).below hw0)).mono ?_
 rintro e W1 ⟨rfl, hb⟩
 have x1 := (hb.block _ (lt_of_block El)).trans El
 have r1 := (hb.block _ (lt_of_block Ej)).trans Ej
 have hw1 := au hw0 hb
 clear El Ej hb hw0 W0
 have k0 : W1.cell? ⟨w.heap.size, 0, none⟩ = some (.int .i64 22) := ag x1 0
 have k1 : W1.cell? ⟨w.heap.size, 1, none⟩ = some (.int .i64 7) := ag x1 1
 have X1 := hide x1
 have R1 := hide r1
 clear x1 r1
 go_wp2_with fail
 refine ((aa HNB) _).mono ?_
 rintro e W2 ⟨rfl, hb⟩
 have x1 := (hb.block _ (lt_of_block (aa X1))).trans (aa X1)
 have r1 := (hb.block _ (lt_of_block (aa R1))).trans (aa R1)
 have hw2 := au hw1 hb
 clear k0 k1 hb hw1 X1 R1
 have k0 : W2.cell? ⟨w.heap.size, 0, none⟩ = some (.int .i64 22) := ag x1 0
 have k1 : W2.cell? ⟨w.heap.size, 1, none⟩ = some (.int .i64 7) := ag x1 1
 have X1 := hide x1
 have R1 := hide r1
 clear x1 r1
 go_upto_region 9 with fail
 obtain ⟨n7, n8, hsz, hb⟩ := jm W2 (.cells #[.int .i64 3, .int .i64 1] 23) (.cells #[.int .i64 16, .int .i64 5] 23)
 have x1 := (hb.block _ (lt_of_block (aa X1))).trans (aa X1)
 have r1 := (hb.block _ (lt_of_block (aa R1))).trans (aa R1)
 have hw3 := au hw2 hb
 generalize ((W2.alloc (.cells #[.int .i64 3, .int .i64 1] 23)).alloc (.cells #[.int .i64 16, .int .i64 5] 23)) = W3 at *
 have ob7 : w.heap.size + 1 < W2.heap.size := lt_of_block (aa R1)
 obtain ⟨b7, yf⟩ : ∃ b, b = W2.heap.size := ⟨_, rfl⟩
 rw [← yf] at n7 n8 ob7 ⊢
 clear k0 k1 hb hw2 X1 R1 hsz yf
 have k0 : W3.cell? ⟨w.heap.size, 0, none⟩ = some (.int .i64 22) := ag x1 0
 have k1 : W3.cell? ⟨w.heap.size, 1, none⟩ = some (.int .i64 7) := ag x1 1
 go_wp2_with fail
 refine ((aa HO) _).mono ?_
 rintro e W4 ⟨s1, bz, A1, c1, l1, s2, cu, A2, c2, l2, rfl, hf1, hf2, hb⟩
 go_upto_region 10 with fail
 have n9 := heap_alloc_new W4 (.cells #[.int .i64 s1, .bool bz, .slice A1 l1.length c1, .int .i64 s2, .bool cu, .slice A2 l2.length c2] 63)
 have hn : Below W4.heap.size W4 (W4.alloc (.cells #[.int .i64 s1, .bool bz, .slice A1 l1.length c1, .int .i64 s2, .bool cu, .slice A2 l2.length c2] 63)) := je (Below.refl _ _) _
 have ob9 : W3.heap.size ≤ W4.heap.size := hb.size
 generalize W4.alloc (.cells #[.int .i64 s1, .bool bz, .slice A1 l1.length c1, .int .i64 s2, .bool cu, .slice A2 l2.length c2] 63) = W5 at *
 obtain ⟨b9, gp⟩ : ∃ b, b = W4.heap.size := ⟨_, rfl⟩
 rw [← gp] at n9 ob9 ⊢
 have Ur := au hb hn
 have H1 := hide (hf1.below hn)
 have H2 := hide (hf2.below hn)
 have m7 := (Ur.block _ (lt_of_block n7)).trans n7
 have m8 := (Ur.block _ (lt_of_block n8)).trans n8
 have mr := (Ur.block _ (lt_of_block r1)).trans r1
 have HB := Lib.hid (au hw3 Ur)
 have HM8 := hide m8
 have HMR := hide mr
 have Ko : W5.cell? ⟨b7, 0, none⟩ = some (.int .i64 3) := ag m7 0
 have Kn : W5.cell? ⟨b7, 1, none⟩ = some (.int .i64 1) := ag m7 1
 have Mc : W5.cell? ⟨b7 + 1, 0, none⟩ = some (.int .i64 16) := ag m8 0
 have Ma : W5.cell? ⟨b7 + 1, 1, none⟩ = some (.int .i64 5) := ag m8 1
 have Vu : W5.cell? ⟨b9, 0, none⟩ = some (.int .i64 s1) := ag n9 0
 have Vt : W5.cell? ⟨b9, 1, none⟩ = some (.bool bz) := ag n9 1
 have Vs : W5.cell? ⟨b9, 2, none⟩ = some (.slice A1 l1.length c1) := ag n9 2
 have apk : W5.cell? ⟨b9, 3, none⟩ = some (.int .i64 s2) := ag n9 3
 have apj : W5.cell? ⟨b9, 4, none⟩ = some (.bool cu) := ag n9 4
 have api : W5.cell? ⟨b9, 5, none⟩ = some (.slice A2 l2.length c2) := ag n9 5
 have Jv := lt_of_block m7
 have Kk := lt_of_block m8
 have Ju := lt_of_block n9
 clear k0 k1 hf1 hf2 hb hn n7 n8 n9 x1 r1 m7 m8 mr hw3 Ur ob9 gp
 have KEEP := hide (show ∀ X, Below W5.heap.size W5 X → X.cell? ⟨b7, 0, none⟩ = some (.int .i64 3) ∧ X.cell? ⟨b7, 1, none⟩ = some (.int .i64 1) ∧ X.cell? ⟨b7 + 1, 0, none⟩ = some (.int .i64 16) ∧ X.cell? ⟨b7 + 1, 1, none⟩ = some (.int .i64 5) ∧ X.cell? ⟨b9, 0, none⟩ = some (.int .i64 s1) ∧ X.cell? ⟨b9, 1, none⟩ = some (.bool bz) ∧ X.cell? ⟨b9, 2, none⟩ = some (.slice A1 l1.length c1) ∧ X.cell? ⟨b9, 3, none⟩ = some (.int .i64 s2) ∧ X.cell? ⟨b9, 4, none⟩ = some (.bool cu) ∧ X.cell? ⟨b9, 5, none⟩ = some (.slice A2 l2.length c2) from fun X hB => ⟨ai hB Jv Ko, ai hB Jv Kn, ai hB Kk Mc, ai hB Kk Ma, ai hB Ju Vu, ai hB Ju Vt, ai hB Ju Vs, ai hB Ju apk, ai hB Ju apj, ai hB Ju api⟩)
 go_region_held3 (fun w' => w'.cell? ⟨b7, 0, none⟩ = some (.int .i64 3) ∧ w'.cell? ⟨b7, 1, none⟩ = some (.int .i64 1) ∧ w'.cell? ⟨b7 + 1, 0, none⟩ = some (.int .i64 16) ∧ w'.cell? ⟨b7 + 1, 1, none⟩ = some (.int .i64 5) ∧ w'.cell? ⟨b9, 0, none⟩ = some (.int .i64 s1) ∧ w'.cell? ⟨b9, 1, none⟩ = some (.bool bz) ∧ w'.cell? ⟨b9, 2, none⟩ = some (.slice A1 l1.length c1) ∧ w'.cell? ⟨b9, 3, none⟩ = some (.int .i64 s2) ∧ w'.cell? ⟨b9, 4, none⟩ = some (.bool cu) ∧ w'.cell? ⟨b9, 5, none⟩ = some (.slice A2 l2.length c2)) (exact (aa KEEP) _ bel) (first | (go_at_call_of 50 (Value.agg #[.int .i64 3, .int .i64 1]); refine ((aa Gf) _).mono ?_; rintro e w' ⟨s5, si, A5, c5, l5, s6, xg, A6, c6, l6, rfl, kz, og, hb5⟩; have hbw := ay (w := W5) bel hb5; have hsw := hbw.size; obtain ⟨hc, hfz⟩ := az hbw) | (go_at_call_of 61 (Value.agg #[.int .i64 s1, .bool bz, .slice A1 l1.length c1, .int .i64 s2, .bool cu, .slice A2 l2.length c2]); refine ((aa pz) s1 bz A1 c1 l1 s2 cu A2 c2 l2 s5 si A5 c5 l5 s6 xg A6 c6 l6 _ (au HB.out bel) (dz.below (aa H1) bel) (dz.below (aa H2) bel) (dz.below kz bel) (dz.below og bel)).mono ?_; rintro e w' ⟨s7, Dc, A7, c7, l7, s8, Fg, A8, c8, l8, rfl, Au, wh, yf⟩; have hbw := ay (w := W5) bel yf; have hsw := hbw.size; obtain ⟨hc, hfz⟩ := az hbw) | (go_at_call_of 50 (Value.agg #[.int .i64 16, .int .i64 5]); refine ((aa Pf) _).mono ?_; rintro e w' ⟨s9, Gx, A9, c9, l9, s10, Es, Ae, c10, l10, rfl, En, zt, gp⟩; have Au := dz.below (dz.below Au bel) gp; have wh := dz.below (dz.below wh bel) gp; have hbw := ay (w := W5) bel gp; have hsw := hbw.size; obtain ⟨hc, hfz⟩ := az hbw) | (go_at_call_of 61 (Value.agg #[.int .i64 s9, .bool Gx, .slice A9 l9.length c9, .int .i64 s10, .bool Es, .slice Ae l10.length c10]); refine ((aa HS2) s9 Gx A9 c9 l9 s10 Es Ae c10 l10 s1 bz A1 c1 l1 s2 cu A2 c2 l2 _ (au HB.out bel) (dz.below En bel) (dz.below zt bel) (dz.below (aa H1) bel) (dz.below (aa H2) bel)).mono ?_; rintro e w' ⟨s11, Lx, Fv, c11, Fq, s12, Vr, Lc, c12, Ky, rfl, Ec, Gq, Dx⟩; have Au := dz.below (dz.below Au bel) Dx; have wh := dz.below (dz.below wh bel) Dx; have hbw := ay (w := W5) bel Dx; have hsw := hbw.size; obtain ⟨hc, hfz⟩ := az hbw) | (go_at_call_of 62 (Value.agg #[.int .i64 s7, .bool Dc, .slice A7 l7.length c7, .int .i64 s8, .bool Fg, .slice A8 l8.length c8]); refine ((aa HCC) s7 Dc A7 c7 l7 s8 Fg A8 c8 l8 s11 Lx Fv c11 Fq s12 Vr Lc c12 Ky _ (au HB.out bel) (dz.below Au bel) (dz.below wh bel) (dz.below Ec bel) (dz.below Gq bel)).mono ?_; rintro e w' ⟨rfl, ado⟩; have hbw := ay (w := W5) bel ado; have hsw := hbw.size; obtain ⟨hc, hfz⟩ := az hbw))
 have hbb := au HB.out hbw
 have m8 := (hbw.block _ Kk).trans (aa HM8)
 have mr := (hbw.block _ (lt_of_block (aa HMR))).trans (aa HMR)
 clear Au wh Ec Gq hc hfz KEEP Ko Kn Mc Ma
 have k0 : w'.cell? ⟨b7 + 1, 0, none⟩ = some (.int .i64 16) := ag m8 0
 have k1 : w'.cell? ⟨b7 + 1, 1, none⟩ = some (.int .i64 5) := ag m8 1
 have r0 : w'.cell? ⟨w.heap.size + 1, 0, none⟩ = some (.int .i64 0) := ag mr 0
 have r1 : w'.cell? ⟨w.heap.size + 1, 1, none⟩ = some (.int .i64 0) := ag mr 1
 have f0 : w'.frozen? ⟨w.heap.size + 1, 0, none⟩ = false := ah mr 0
 have f1 : w'.frozen? ⟨w.heap.size + 1, 1, none⟩ = false := ah mr 1
 go_wp2_with fail
 exact bodyPost_ret (v := .tuple #[(Value.agg #[.int .i64 16, .int .i64 5]), .int .i64 0]) (by simp [results, Tryz.results18, go_sem, r0, r1]) rfl
  ⟨rfl, hbb.grown (fq _ _ _ _) hbb.size (fun k hk => by injection hk with hk; omega)⟩

end Go.Proofs.YtpjgoogeokbaaaaGreatDoor
namespace Go.Proofs.YtpjgoogeokbaaaaGreatDoor
open Go.RowKit

theorem axs {t : Wd.Told} {a b c : Int} (h : t.n = a ∧ t.d = b ∧ t.e = c) : t = ⟨a, b, c⟩ := by
 cases t
 obtain ⟨rfl, rfl, rfl⟩ := h
 rfl
set_option maxHeartbeats 16000000 in
theorem aur (w : World) (hT : rz w) : Calls Tryz.prog 11 #[] w fun e w' => e = .returned (.bool true) ∧ Below w.heap.size w w' := by
 have HM := hide (fun W (hW : rz W) => aiy (-6) 4 W hW om om om om)
 rw [axs (t := mkE (-6) 4) (a := -3) (b := 2) (c := 0) (by decide +kernel)] at HM
 have HF := hide (afc (-3) 2)
 rw [show Ut (-3) 2 = -2 by decide, show Cz (-3) 2 = 0 by decide] at HF
 have HN := hide aow
 have HT := hide hT
 clear hT
 go_enter Tryz.func11, Tryz.ntmps11
 go_wp2_with fail
 refine ((aa HM) _ (aa HT)).mono ?_
 rintro e W1 ⟨rfl, hb1⟩
 go_wp2_with fail
 have nx := heap_alloc_new W1 (.cells #[.int .i64 (-3), .int .i64 2] 23)
 have hb2 := au hb1 (je (Below.refl _ _) (.cells #[.int .i64 (-3), .int .i64 2] 23))
 generalize W1.alloc (.cells #[.int .i64 (-3), .int .i64 2] 23) = W2 at *
 obtain ⟨bx, hbx⟩ : ∃ b, b = W1.heap.size := ⟨_, rfl⟩
 rw [← hbx] at nx ⊢
 clear hb1 hbx
 refine ((aa HF) _ ((aa HT).below hb2)).mono ?_
 rintro e W3 ⟨rfl, hb⟩
 have nx3 := (hb.block _ (lt_of_block nx)).trans nx
 have hb3 := au hb2 hb
 clear nx hb hb2
 go_wp2_with fail
 refine ((aa HN) _ ((aa HT).below hb3)).mono ?_
 rintro e W4 ⟨rfl, hb⟩
 have nx4 := (hb.block _ (lt_of_block nx3)).trans nx3
 have hb4 := au hb3 hb
 have hlt := lt_of_block nx4
 have k0 : W4.cell? ⟨bx, 0, none⟩ = some (.int .i64 (-3)) := ag nx4 0
 have k1 : W4.cell? ⟨bx, 1, none⟩ = some (.int .i64 2) := ag nx4 1
 have hne : ¬ (bx = W4.heap.size) := by omega
 clear nx3 nx4 hb hb3
 go_wp2
 go_ret
 exact ⟨rfl, je hb4 _⟩

end Go.Proofs.YtpjgoogeokbaaaaGreatDoor
namespace Go.Proofs.YtpjgoogeokbaaaaGreatDoor
open Go.RowKit

theorem Su {w V : World} {B ba bb bc : Nat} {a b u v : Value} {T : TypeId} {o o' : Obj} (h1 : V.heap[ba]? = some (.cells #[a, b] T (0, 0))) (h2 : V.heap[bb]? = some o) (h3 : V.heap[bc]? = some o') (hne : bb ≠ ba) (hne' : bc ≠ ba) (hb : Below B w V) (hB : B ≤ ba) (hBV : B ≤ V.heap.size) :
  ((V.setCell ⟨ba, 0, none⟩ u).setCell ⟨ba, 1, none⟩ v).heap[ba]? = some (.cells #[u, v] T (0, 0)) ∧ ((V.setCell ⟨ba, 0, none⟩ u).setCell ⟨ba, 1, none⟩ v).heap[bb]? = some o ∧ ((V.setCell ⟨ba, 0, none⟩ u).setCell ⟨ba, 1, none⟩ v).heap[bc]? = some o' ∧ Below B w ((V.setCell ⟨ba, 0, none⟩ u).setCell ⟨ba, 1, none⟩ v) := by
 refine ⟨by simp [World.setCell, Array.getElem?_modify, h1], ?_, ?_, hb.grown (fq _ _ _ _) hBV (fun k hk => by injection hk with hk; omega)⟩
 ·
  rw [heap_setCell_other _ _ _ _ hne, heap_setCell_other _ _ _ _ hne]; exact h2
 ·
  rw [heap_setCell_other _ _ _ _ hne', heap_setCell_other _ _ _ _ hne']; exact h3
set_option maxHeartbeats 16000000 in
theorem aqu (n d k g m an ad ae bf be cn cd ce se : Int) (S : ByteArray) (P1 P2 : Int → Int → Int → Prop) (w : World) (hT : rz w) (h10 : Hz w)
  (c1 : ∀ W, rz W → Hz W → Calls Tryz.prog 12 #[(Value.agg #[.int .i64 n, .int .i64 d]), .int .i64 k] W fun e w' => e = .returned (.tuple #[.agg #[.int .i64 an, .int .i64 ad], .int .i64 ae]) ∧ Below W.heap.size W w')
  (c2 : ∀ W, rz W → Hz W → Calls Tryz.prog 13 #[(Value.agg #[.int .i64 n, .int .i64 d]), .int .i64 k] W fun e w' => e = .returned (.tuple #[.agg #[.int .i64 an, .int .i64 ad], .int .i64 ae]) ∧ Below W.heap.size W w')
  (c3 : ∀ W, rz W → Hz W → Calls Tryz.prog 14 #[(Value.agg #[.int .i64 n, .int .i64 d])] W fun e w' => e = .returned (.tuple #[.int .i64 bf, .int .i64 be]) ∧ Below W.heap.size W w')
  (c4 : ∀ W, rz W → Hz W → Calls Tryz.prog 15 #[(Value.agg #[.int .i64 n, .int .i64 d])] W fun e w' => e = .returned (.tuple #[.int .i64 bf, .int .i64 be]) ∧ Below W.heap.size W w')
  (c5 : ∀ W, rz W → Hz W → Calls Tryz.prog 16 #[(Value.agg #[.int .i64 n, .int .i64 d]), .int .i64 g] W fun e w' => e = .returned (.tuple #[.agg #[.int .i64 cn, .int .i64 cd], .int .i64 ce]) ∧ Below W.heap.size W w')
  (c6 : ∀ W, rz W → Hz W → Calls Tryz.prog 17 #[(Value.agg #[.int .i64 n, .int .i64 d]), .int .i64 g] W fun e w' => e = .returned (.tuple #[.agg #[.int .i64 cn, .int .i64 cd], .int .i64 ce]) ∧ Below W.heap.size W w')
  (c7 : ∀ W, rz W → Hz W → Calls Tryz.prog 18 #[(Value.agg #[.int .i64 n, .int .i64 d]), .int .i64 m] W fun e w' => ∃ x y z : Int, P1 x y z ∧ e = .returned (.tuple #[.agg #[.int .i64 x, .int .i64 y], .int .i64 z]) ∧ Below W.heap.size W w')
  (c8 : ∀ W, rz W → Hz W → Calls Tryz.prog 19 #[(Value.agg #[.int .i64 n, .int .i64 d]), .int .i64 m] W fun e w' => ∃ x y z : Int, P2 x y z ∧ e = .returned (.tuple #[.agg #[.int .i64 x, .int .i64 y], .int .i64 z]) ∧ Below W.heap.size W w')
  (hu : ∀ x y z x' y' z' : Int, P1 x y z → P2 x' y' z' → x = x' ∧ y = y' ∧ z = z')
  (c9 : ∀ W, rz W → Hz W → Calls Tryz.prog 20 #[(Value.agg #[.int .i64 n, .int .i64 d])] W fun e w' => e = .returned (.tuple #[.string S, .int .i64 se]) ∧ Below W.heap.size W w')
  (c10 : ∀ W, rz W → Hz W → Calls Tryz.prog 21 #[(Value.agg #[.int .i64 n, .int .i64 d])] W fun e w' => e = .returned (.tuple #[.string S, .int .i64 se]) ∧ Below W.heap.size W w') :
  Calls Tryz.prog 4 #[(Value.agg #[.int .i64 n, .int .i64 d]), .int .i64 k, .int .i64 g, .int .i64 m] w fun e w' => e = .returned (.bool true) ∧ Below w.heap.size w w' := by
 have HC1 := hide c1
 have HC2 := hide c2
 have HC3 := hide c3
 have HC4 := hide c4
 have HC5 := hide c5
 have HC6 := hide c6
 have HC7 := hide c7
 have HC8 := hide c8
 have HC9 := hide c9
 have bvl := hide c10
 have HU := hide hu
 have HT := hide hT; have Gg := hide h10; have HKN := hide aur
 clear c1 c2 c3 c4 c5 c6 c7 c8 c9 c10 hu hT h10
 go_enter Tryz.func4, Tryz.ntmps4
 go_wp2_with fail
 obtain ⟨nx, hsz, hw0⟩ := Db w (.cells #[.int .i64 n, .int .i64 d] 23)
 generalize w.alloc (.cells #[.int .i64 n, .int .i64 d] 23) = W0 at *
 have JX := hide nx; have HB := Lib.hid hw0
 clear hsz nx hw0
 refine ((aa HC1) _ ((aa HT).below HB.out) ((aa Gg).below HB.out)).mono ?_
 rintro e V1 ⟨rfl, hb⟩
 replace JX := hide ((hb.block _ (lt_of_block (aa JX))).trans (aa JX))
 replace HB := Lib.hid (au HB.out hb)
 clear hb
 go_upto_region 2 with fail
 have hn := heap_alloc_new V1 (.cells #[.int .i64 an, .int .i64 ad] 23)
 have hV : w.heap.size ≤ V1.heap.size := HB.out.size
 have hb := je (Below.refl V1.heap.size V1) (.cells #[.int .i64 an, .int .i64 ad] 23)
 generalize V1.alloc (.cells #[.int .i64 an, .int .i64 ad] 23) = W1 at *
 obtain ⟨ba, hbn⟩ : ∃ b, b = V1.heap.size := ⟨_, rfl⟩
 rw [← hbn] at hn hV ⊢
 have bue : w.heap.size < ba := by rw [hbn]; exact lt_of_block (aa JX)
 clear hbn
 replace JX := hide ((hb.block _ (lt_of_block (aa JX))).trans (aa JX))
 replace HB := Lib.hid (au HB.out hb)
 clear hb
 have JA := hide hn
 clear hn
 have Mm : W1.cell? ⟨w.heap.size, 0, none⟩ = some (.int .i64 n) := ag (aa JX) 0
 have Ml : W1.cell? ⟨w.heap.size, 1, none⟩ = some (.int .i64 d) := ag (aa JX) 1
 have qx := lt_of_block (aa JX)
 go_wp2_with fail
 refine ((aa HC2) _ ((aa HT).below HB.out) ((aa Gg).below HB.out)).mono ?_
 clear Mm Ml qx
 rintro e V2 ⟨rfl, hb⟩
 replace JX := hide ((hb.block _ (lt_of_block (aa JX))).trans (aa JX))
 replace JA := hide ((hb.block _ (lt_of_block (aa JA))).trans (aa JA))
 replace HB := Lib.hid (au HB.out hb)
 clear hb
 go_upto_region 3 with fail
 have hn := heap_alloc_new V2 (.cells #[.int .i64 an, .int .i64 ad] 23)
 have hV : w.heap.size ≤ V2.heap.size := HB.out.size
 have hb := je (Below.refl V2.heap.size V2) (.cells #[.int .i64 an, .int .i64 ad] 23)
 generalize V2.alloc (.cells #[.int .i64 an, .int .i64 ad] 23) = W2 at *
 obtain ⟨bb, hbn⟩ : ∃ b, b = V2.heap.size := ⟨_, rfl⟩
 rw [← hbn] at hn hV ⊢
 have bue : w.heap.size < bb := by rw [hbn]; exact lt_of_block (aa JX)
 have cfo : ba < bb := by rw [hbn]; exact lt_of_block (aa JA)
 clear hbn
 replace JX := hide ((hb.block _ (lt_of_block (aa JX))).trans (aa JX))
 replace JA := hide ((hb.block _ (lt_of_block (aa JA))).trans (aa JA))
 replace HB := Lib.hid (au HB.out hb)
 clear hb
 have JB := hide hn
 clear hn
 have Mm : W2.cell? ⟨w.heap.size, 0, none⟩ = some (.int .i64 n) := ag (aa JX) 0
 have Ml : W2.cell? ⟨w.heap.size, 1, none⟩ = some (.int .i64 d) := ag (aa JX) 1
 have qx := lt_of_block (aa JX)
 have ka0 : W2.cell? ⟨ba, 0, none⟩ = some (.int .i64 an) := ag (aa JA) 0
 have ka1 : W2.cell? ⟨ba, 1, none⟩ = some (.int .i64 ad) := ag (aa JA) 1
 have qa := lt_of_block (aa JA)
 have kb0 : W2.cell? ⟨bb, 0, none⟩ = some (.int .i64 an) := ag (aa JB) 0
 have kb1 : W2.cell? ⟨bb, 1, none⟩ = some (.int .i64 ad) := ag (aa JB) 1
 have qb := lt_of_block (aa JB)
 go_wp2_with fail
 refine ((aa HC3) _ ((aa HT).below HB.out) ((aa Gg).below HB.out)).mono ?_
 clear Mm Ml qx ka0 ka1 qa kb0 kb1 qb
 rintro e V3 ⟨rfl, hb⟩
 replace JX := hide ((hb.block _ (lt_of_block (aa JX))).trans (aa JX))
 replace JA := hide ((hb.block _ (lt_of_block (aa JA))).trans (aa JA))
 replace JB := hide ((hb.block _ (lt_of_block (aa JB))).trans (aa JB))
 replace HB := Lib.hid (au HB.out hb)
 clear hb
 have Mm : V3.cell? ⟨w.heap.size, 0, none⟩ = some (.int .i64 n) := ag (aa JX) 0
 have Ml : V3.cell? ⟨w.heap.size, 1, none⟩ = some (.int .i64 d) := ag (aa JX) 1
 have qx := lt_of_block (aa JX)
 go_wp2_with fail
 refine ((aa HC4) _ ((aa HT).below HB.out) ((aa Gg).below HB.out)).mono ?_
 clear Mm Ml qx
 rintro e V4 ⟨rfl, hb⟩
 replace JX := hide ((hb.block _ (lt_of_block (aa JX))).trans (aa JX))
 replace JA := hide ((hb.block _ (lt_of_block (aa JA))).trans (aa JA))
 replace JB := hide ((hb.block _ (lt_of_block (aa JB))).trans (aa JB))
 replace HB := Lib.hid (au HB.out hb)
 clear hb
 have Mm : V4.cell? ⟨w.heap.size, 0, none⟩ = some (.int .i64 n) := ag (aa JX) 0
 have Ml : V4.cell? ⟨w.heap.size, 1, none⟩ = some (.int .i64 d) := ag (aa JX) 1
 have qx := lt_of_block (aa JX)
 go_wp2_with fail
 refine ((aa HC5) _ ((aa HT).below HB.out) ((aa Gg).below HB.out)).mono ?_
 clear Mm Ml qx
 rintro e V5 ⟨rfl, hb⟩
 replace JX := hide ((hb.block _ (lt_of_block (aa JX))).trans (aa JX))
 replace JA := hide ((hb.block _ (lt_of_block (aa JA))).trans (aa JA))
 replace JB := hide ((hb.block _ (lt_of_block (aa JB))).trans (aa JB))
 replace HB := Lib.hid (au HB.out hb)
 clear hb
 have j0 := aa JA
 have x0 : V5.cell? ⟨ba, 0, none⟩ = some (.int .i64 an) := ag j0 0
 have x1 : V5.cell? ⟨ba, 1, none⟩ = some (.int .i64 ad) := ag j0 1
 have y0 := ah j0 0
 have y1 := ah j0 1
 have qx0 := lt_of_block j0
 clear j0
 go_upto_region 10 with fail
 have hp := Su (u := .int .i64 cn) (v := .int .i64 cd) (aa JA) (aa JX) (aa JB) om om HB.out om HB.out.size
 generalize ((V5.setCell ⟨ba, 0, none⟩ (.int .i64 cn)).setCell ⟨ba, 1, none⟩ (.int .i64 cd)) = W5 at *
 replace JA := hide hp.1
 replace JX := hide hp.2.1
 replace JB := hide hp.2.2.1
 replace HB := Lib.hid hp.2.2.2
 clear hp x0 x1 y0 y1 qx0
 have Mm : W5.cell? ⟨w.heap.size, 0, none⟩ = some (.int .i64 n) := ag (aa JX) 0
 have Ml : W5.cell? ⟨w.heap.size, 1, none⟩ = some (.int .i64 d) := ag (aa JX) 1
 have qx := lt_of_block (aa JX)
 go_wp2_with fail
 refine ((aa HC6) _ ((aa HT).below HB.out) ((aa Gg).below HB.out)).mono ?_
 clear Mm Ml qx
 rintro e V6 ⟨rfl, hb⟩
 replace JX := hide ((hb.block _ (lt_of_block (aa JX))).trans (aa JX))
 replace JA := hide ((hb.block _ (lt_of_block (aa JA))).trans (aa JA))
 replace JB := hide ((hb.block _ (lt_of_block (aa JB))).trans (aa JB))
 replace HB := Lib.hid (au HB.out hb)
 clear hb
 have j0 := aa JB
 have x0 : V6.cell? ⟨bb, 0, none⟩ = some (.int .i64 an) := ag j0 0
 have x1 : V6.cell? ⟨bb, 1, none⟩ = some (.int .i64 ad) := ag j0 1
 have y0 := ah j0 0
 have y1 := ah j0 1
 have qx0 := lt_of_block j0
 clear j0
 go_upto_region 11 with fail
 have hp := Su (u := .int .i64 cn) (v := .int .i64 cd) (aa JB) (aa JX) (aa JA) om om HB.out om HB.out.size
 generalize ((V6.setCell ⟨bb, 0, none⟩ (.int .i64 cn)).setCell ⟨bb, 1, none⟩ (.int .i64 cd)) = W6 at *
 replace JB := hide hp.1
 replace JX := hide hp.2.1
 replace JA := hide hp.2.2.1
 replace HB := Lib.hid hp.2.2.2
 clear hp x0 x1 y0 y1 qx0
 have Mm : W6.cell? ⟨w.heap.size, 0, none⟩ = some (.int .i64 n) := ag (aa JX) 0
 have Ml : W6.cell? ⟨w.heap.size, 1, none⟩ = some (.int .i64 d) := ag (aa JX) 1
 have qx := lt_of_block (aa JX)
 have ka0 : W6.cell? ⟨ba, 0, none⟩ = some (.int .i64 cn) := ag (aa JA) 0
 have ka1 : W6.cell? ⟨ba, 1, none⟩ = some (.int .i64 cd) := ag (aa JA) 1
 have qa := lt_of_block (aa JA)
 have kb0 : W6.cell? ⟨bb, 0, none⟩ = some (.int .i64 cn) := ag (aa JB) 0
 have kb1 : W6.cell? ⟨bb, 1, none⟩ = some (.int .i64 cd) := ag (aa JB) 1
 have qb := lt_of_block (aa JB)
 go_wp2_with fail
 refine ((aa HC7) _ ((aa HT).below HB.out) ((aa Gg).below HB.out)).mono ?_
 clear Mm Ml qx ka0 ka1 qa kb0 kb1 qb
 rintro e V7 ⟨en, ed, ee, hP, rfl, hb⟩
 have HP := hide hP
 clear hP
 replace JX := hide ((hb.block _ (lt_of_block (aa JX))).trans (aa JX))
 replace JA := hide ((hb.block _ (lt_of_block (aa JA))).trans (aa JA))
 replace JB := hide ((hb.block _ (lt_of_block (aa JB))).trans (aa JB))
 replace HB := Lib.hid (au HB.out hb)
 clear hb
 have j0 := aa JA
 have x0 : V7.cell? ⟨ba, 0, none⟩ = some (.int .i64 cn) := ag j0 0
 have x1 : V7.cell? ⟨ba, 1, none⟩ = some (.int .i64 cd) := ag j0 1
 have y0 := ah j0 0
 have y1 := ah j0 1
 have qx0 := lt_of_block j0
 clear j0
 go_upto_region 14 with fail
 have hp := Su (u := .int .i64 en) (v := .int .i64 ed) (aa JA) (aa JX) (aa JB) om om HB.out om HB.out.size
 generalize ((V7.setCell ⟨ba, 0, none⟩ (.int .i64 en)).setCell ⟨ba, 1, none⟩ (.int .i64 ed)) = W7 at *
 replace JA := hide hp.1
 replace JX := hide hp.2.1
 replace JB := hide hp.2.2.1
 replace HB := Lib.hid hp.2.2.2
 clear hp x0 x1 y0 y1 qx0
 have Mm : W7.cell? ⟨w.heap.size, 0, none⟩ = some (.int .i64 n) := ag (aa JX) 0
 have Ml : W7.cell? ⟨w.heap.size, 1, none⟩ = some (.int .i64 d) := ag (aa JX) 1
 have qx := lt_of_block (aa JX)
 go_wp2_with fail
 refine ((aa HC8) _ ((aa HT).below HB.out) ((aa Gg).below HB.out)).mono ?_
 clear Mm Ml qx
 rintro e V8 ⟨fn, fd, fe, hP, rfl, hb⟩
 obtain ⟨rfl, rfl, rfl⟩ := (aa HU) _ _ _ _ _ _ (aa HP) hP
 clear hP HP
 replace JX := hide ((hb.block _ (lt_of_block (aa JX))).trans (aa JX))
 replace JA := hide ((hb.block _ (lt_of_block (aa JA))).trans (aa JA))
 replace JB := hide ((hb.block _ (lt_of_block (aa JB))).trans (aa JB))
 replace HB := Lib.hid (au HB.out hb)
 clear hb
 have j0 := aa JB
 have x0 : V8.cell? ⟨bb, 0, none⟩ = some (.int .i64 cn) := ag j0 0
 have x1 : V8.cell? ⟨bb, 1, none⟩ = some (.int .i64 cd) := ag j0 1
 have y0 := ah j0 0
 have y1 := ah j0 1
 have qx0 := lt_of_block j0
 clear j0
 go_upto_region 15 with fail
 have hp := Su (u := .int .i64 en) (v := .int .i64 ed) (aa JB) (aa JX) (aa JA) om om HB.out om HB.out.size
 generalize ((V8.setCell ⟨bb, 0, none⟩ (.int .i64 en)).setCell ⟨bb, 1, none⟩ (.int .i64 ed)) = W8 at *
 replace JB := hide hp.1
 replace JX := hide hp.2.1
 replace JA := hide hp.2.2.1
 replace HB := Lib.hid hp.2.2.2
 clear hp x0 x1 y0 y1 qx0
 have Mm : W8.cell? ⟨w.heap.size, 0, none⟩ = some (.int .i64 n) := ag (aa JX) 0
 have Ml : W8.cell? ⟨w.heap.size, 1, none⟩ = some (.int .i64 d) := ag (aa JX) 1
 have qx := lt_of_block (aa JX)
 have ka0 : W8.cell? ⟨ba, 0, none⟩ = some (.int .i64 en) := ag (aa JA) 0
 have ka1 : W8.cell? ⟨ba, 1, none⟩ = some (.int .i64 ed) := ag (aa JA) 1
 have qa := lt_of_block (aa JA)
 have kb0 : W8.cell? ⟨bb, 0, none⟩ = some (.int .i64 en) := ag (aa JB) 0
 have kb1 : W8.cell? ⟨bb, 1, none⟩ = some (.int .i64 ed) := ag (aa JB) 1
 have qb := lt_of_block (aa JB)
 go_wp2_with fail
 refine ((aa HC9) _ ((aa HT).below HB.out) ((aa Gg).below HB.out)).mono ?_
 clear Mm Ml qx ka0 ka1 qa kb0 kb1 qb
 rintro e V9 ⟨rfl, hb⟩
 replace JX := hide ((hb.block _ (lt_of_block (aa JX))).trans (aa JX))
 replace HB := Lib.hid (au HB.out hb)
 clear hb
 have Mm : V9.cell? ⟨w.heap.size, 0, none⟩ = some (.int .i64 n) := ag (aa JX) 0
 have Ml : V9.cell? ⟨w.heap.size, 1, none⟩ = some (.int .i64 d) := ag (aa JX) 1
 have qx := lt_of_block (aa JX)
 go_wp2_with fail
 refine ((aa bvl) _ ((aa HT).below HB.out) ((aa Gg).below HB.out)).mono ?_
 clear Mm Ml qx
 rintro e V10 ⟨rfl, hb⟩
 replace JX := hide ((hb.block _ (lt_of_block (aa JX))).trans (aa JX))
 replace HB := Lib.hid (au HB.out hb)
 clear hb
 go_wp2_with fail
 refine ((aa HKN) _ ((aa HT).below HB.out)).mono ?_
 rintro e V11 ⟨rfl, hb⟩
 have gp := au HB.out hb
 clear hb
 go_wp2_with fail
 all_goals first | go_ret | skip
 exact ⟨rfl, gp⟩

end Go.Proofs.YtpjgoogeokbaaaaGreatDoor
namespace Go.Proofs.YtpjgoogeokbaaaaGreatDoor
open Go.Joins Go.ChangeShapes Go.WideShapes Go.ChangeAt Go.RowKit

theorem own : ownKnob Tryz.prog.godebug = none := by kernel_rfl
theorem ays {H : Type} {enc : TypeId × Value → H} {w : World} {base : Nat} {spare : Nat → Bool} {held : Bool} {r : Reach} {b0 : Nat} {v : Value} {d : DataW H} {p : List MemPlace}
  (hv : Value.okWide Tryz.prog w r b0 23 v) (h : DataW.Trod enc Tryz.prog w base spare held 23 v d p) :
  ∃ n m : Int, v = .agg #[.int .i64 n, .int .i64 m] ∧ d = .agg [.lit (.int .i64 n), .lit (.int .i64 m)] ∧ p = [] ∧ (Lit.int .i64 n).wf = true ∧ (Lit.int .i64 m).wf = true := by
 obtain ⟨v0, v1, y0, y1, k, rfl, rfl, rfl, h0, h1⟩ := open_agg2 Tryz.underlying23 kr kr hv h
 obtain ⟨n, e0, rfl, w0⟩ := DataW.trod_int Tryz.underlying3 h0
 obtain ⟨m, e1, rfl, w1⟩ := DataW.trod_int Tryz.underlying3 h1
 simp only [List.cons.injEq, and_true] at e0 e1
 subst e0 e1
 exact ⟨n, m, rfl, rfl, rfl, w0, w1⟩
theorem aye {H : Type} {enc : TypeId × Value → H} {w : World} {base : Nat} {spare : Nat → Bool} {held : Bool} {n m : Int} (w0 : (Lit.int .i64 n).wf = true) (w1 : (Lit.int .i64 m).wf = true) :
  DataW.Trod enc Tryz.prog w base spare held 23 (.agg #[.int .i64 n, .int .i64 m]) (.agg [.lit (.int .i64 n), .lit (.int .i64 m)]) [] := by
 have i0 : ∀ k : Int, (Lit.int .i64 k).wf = true → ∃ f, DataW.trod enc Tryz.prog w base spare held f 3 [.int .i64 k] = some (.lit (.int .i64 k), []) := fun k hk => shut_int Tryz.underlying3 hk
 exact shut_agg2 (y0 := (.lit (.int .i64 n), [])) (y1 := (.lit (.int .i64 m), [])) Tryz.underlying23 kr kr (i0 n w0) (i0 m w1)
theorem aoq {H : Type} {enc : TypeId × Value → H} {P : Program} {f : Func} {s : ChangeSpec} {apart : Bool} {W W' : World} {args : Array Value} {v : Value} {ds gs : List (DataW H)}
  (hW : DataW.Whole enc P f.params.toList s.vars apart W args.toList ds gs [])
  (hres : DataW.TrodAll enc P W' W.heap.size (fun _ => false) false f.resultTypes.toList (v.resultList f.resultTypes.size) (s.fn H (ds ++ gs)).results [])
  (hargs : DataW.TrodAll enc P W' 0 (fun b => decide (b < W.heap.size)) true f.params.toList args.toList (s.fn H (ds ++ gs)).args [])
  (hvars : DataW.TrodVars enc P W' (fun b => decide (b < W.heap.size)) s.vars (s.fn H (ds ++ gs)).vars []) (hb : Below W.heap.size W W') :
  s.post enc P f apart true false false W args v W' :=
 ⟨ds, gs, [], [], [], [], hW, hres, hargs, hvars, hb.frame _, fun h => by cases h⟩
end Go.Proofs.YtpjgoogeokbaaaaGreatDoor
namespace Go.Proofs.YtpjgoogeokbaaaaGreatDoor
open Go.Joins Go.ChangeShapes Go.WideShapes Go.ChangeAt Go.RowKit

def laidB {H : Type} : List (String × DataW H) := [("math/bits.deBruijn32tab", Rows.laid_math_bits_deBruijn32tab), ("math/bits.deBruijn64tab", Rows.laid_math_bits_deBruijn64tab), ("internal/strconv.uint64pow10", Rows.laid_internal_strconv_uint64pow10)]
theorem aya : (Rows.laid_math_bits_deBruijn64tab : DataW Unit) = Lib.tabData .u8 (Lib.deBruijn64tab.map fun (n : Nat) => (n : Int)) := by kernel_rfl
theorem bhw : (Rows.laid_internal_strconv_uint64pow10 : DataW Unit) = Lib.tabData .u64 Lib.pow10Tab := by kernel_rfl
theorem avp (l : List Nat) (j : Nat) : (l.map fun (n : Nat) => (n : Int)).getD j 0 = ((l.getD j 0 : Nat) : Int) := by
 rw [List.getD_eq_getElem?_getD, List.getD_eq_getElem?_getD, List.getElem?_map]
 cases l[j]? <;> rfl
theorem amd {W : World} (h : laidMetH Tryz.prog laidB W) : rz W ∧ Hz W := by
 rw [MakeChecks.laidMetH_plain _ _ _ kr] at h
 have h2 : laidMet Tryz.prog (("math/bits.deBruijn64tab", Rows.laid_math_bits_deBruijn64tab) :: [("internal/strconv.uint64pow10", Rows.laid_internal_strconv_uint64pow10)]) W := laidMet.tail h
 have h3 : laidMet Tryz.prog (("internal/strconv.uint64pow10", Rows.laid_internal_strconv_uint64pow10) :: []) W := laidMet.tail h2
 rw [aya] at h2
 rw [bhw] at h3
 have g64 : Tryz.prog.globalNamed "math/bits.deBruijn64tab" = some 0 := by kernel_rfl
 have t64 := Lib.tabIs_of_head g64 (show (Tryz.prog.globals[0]?).map (·.type) = some 163 by kernel_rfl) Tryz.underlying163 Tryz.underlying5 kr kr h2
 have t10 := Lib.tabIs_of_head (show Tryz.prog.globalNamed "internal/strconv.uint64pow10" = some 1 by kernel_rfl) (show (Tryz.prog.globals[1]?).map (·.type) = some 179 by kernel_rfl) Tryz.underlying179 Tryz.underlying116 kr kr h3
 have cell : ∀ j, j < Lib.deBruijn64tab.length → W.cell? ⟨0, j, none⟩ = some (.int .u8 (Lib.deBruijn64tab.getD j 0)) := fun j hj => by
  have := t64.cell g64 j (by rw [List.length_map]; exact hj)
  rwa [avp] at this
 refine ⟨⟨cell, ?_⟩, Lib.tabBelow_of_tabIs t10⟩
 have h0 := cell 0 (by decide)
 rcases Nat.lt_or_ge 0 W.heap.size with hlt | hge
 ·
  exact hlt
 ·
  simp [World.cell?, Array.getElem?_eq_none hge] at h0
end Go.Proofs.YtpjgoogeokbaaaaGreatDoor
