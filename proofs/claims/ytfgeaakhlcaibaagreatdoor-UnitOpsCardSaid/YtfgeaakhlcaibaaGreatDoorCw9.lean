/- Texts beneath a law of layer 1. -/
import Derived.Test.YtfgeaakhlcaibaaGreatDoorCw8
set_option maxRecDepth 100000
set_option maxHeartbeats 16000000
namespace Go.Proofs.YtfgeaakhlcaibaaGreatDoor
open Go.RowKit

theorem Yp (A1 : Option Addr) (c1 : Nat) (l1 : List Nat) (m1 : Bool) (n : Int) (A2 : Option Addr) (c2 : Nat) (l2 : List Nat) (m2 : Bool) (d : Int) (K : Nat) (w : World) (h1 : jg w A1 c1 l1 m1 n) (h2 : jg w A2 c2 l2 m2 d) (hd : d ≠ 0) (hn : n.natAbs < fe ^ K) (hdK : d.natAbs < fe ^ K) (hK : K + 1 ≤ 35184372088832) :
  Calls Tryz.prog 128 #[.agg #[.slice A1 l1.length c1, .bool m1], .agg #[.slice A2 l2.length c2, .bool m2]] w fun e w' => QR w (Rat.divInt n d) e w' := by
 have hl : ¬ l2.length = 0 := fun e => by have := h2.nat.Ml.2 e; omega
 have HI := hide (fun W => Xb A2 c2 l2.length m2 W)
 rw [decide_eq_false hl] at HI
 obtain ⟨n', d', q, hq, hq2, hd', hn', bej, hneg⟩ : ∃ (n' d' : Int) (q : Rat), q = Rat.divInt n d ∧ q = Rat.divInt n' d' ∧ 0 < d' ∧ n'.natAbs < fe ^ K ∧ d'.natAbs < fe ^ K ∧ ((m2 = true ∧ n' = -n ∧ d' = -d) ∨ (m2 = false ∧ n' = n ∧ d' = d)) := by
  by_cases h : d < 0
  ·
   exact ⟨-n, -d, _, rfl, (adm n d hd).symm, by omega, by rw [Int.natAbs_neg]; exact hn, by rw [Int.natAbs_neg]; exact hdK, .inl ⟨by rw [h2.sign]; exact decide_eq_true h, rfl, rfl⟩⟩
  ·
   exact ⟨n, d, _, rfl, rfl, by omega, hn, hdK, .inr ⟨by rw [h2.sign]; exact decide_eq_false h, rfl, rfl⟩⟩
 rw [← hq]
 have HQ2 := Lib.hid hq2
 have HDP := hide hd'; have HNK := hide hn'; have HDK := hide bej; have anl := hide hneg; have HK := hide hK
 have H1 := hide h1; have H2 := hide h2
 have HN1 := hide (fun W (hW : Below w.heap.size w W) => aed A1 c1 l1 m1 n W (h1.below hW))
 have HN2 := hide (fun W (hW : Below w.heap.size w W) => aed A2 c2 l2 m2 d W (h2.below hW))
 clear h1 h2 hd hn hdK hl hq hq2 hd' hn' bej hneg hK
 go_enter Tryz.func128, Tryz.ntmps128
 go_wp2_with fail
 obtain ⟨n0, n1, n2, hsz, hw0⟩ := ou w (.cells #[.slice A1 l1.length c1, .bool m1] 66) (.cells #[.slice A2 l2.length c2, .bool m2] 66) (.cells #[.slice none 0 0, .bool false, .slice none 0 0, .bool false] 68)
 generalize (((w.alloc (.cells #[.slice A1 l1.length c1, .bool m1] 66)).alloc (.cells #[.slice A2 l2.length c2, .bool m2] 66)).alloc (.cells #[.slice none 0 0, .bool false, .slice none 0 0, .bool false] 68)) = W0 at *
 have hS0 : Uw w W0 n d := ⟨⟨_, _, _, _, n0, (aa H1).below hw0⟩, ⟨_, _, _, _, n1, (aa H2).below hw0⟩, n2, hw0⟩
 refine ((aa HI) _).mono ?_
 rintro e W1 ⟨rfl, hb⟩
 have hS1 := hS0.below hb
 have j0 := (hb.block _ (lt_of_block n0)).trans n0
 have j1 := (hb.block _ (lt_of_block n1)).trans n1
 have hw1 := bz hw0 hb
 clear hS0 hb n0 n1 n2 hw0 hsz HI
 have k0 : W1.cell? ⟨w.heap.size, 0, none⟩ = some (.slice A1 l1.length c1) := ah j0 0
 have k1 : W1.cell? ⟨w.heap.size, 1, none⟩ = some (.bool m1) := ah j0 1
 have k2 : W1.cell? ⟨w.heap.size + 1, 0, none⟩ = some (.slice A2 l2.length c2) := ah j1 0
 have k3 : W1.cell? ⟨w.heap.size + 1, 1, none⟩ = some (.bool m2) := ah j1 1
 have HS := hide hS1; have J := hide (And.intro j0 j1); have HW1 := Lib.hid hw1
 clear hS1 hw1 j0 j1
 go_upto_if 14 with (fail)
 go_cut [] (fun wx => Uw w wx n' d')
 case first =>
  rcases aa anl with ⟨e1, e2, e3⟩ | ⟨e1, e2, e3⟩
  ·
   subst e1 e2 e3
   have q0 : w.heap.size < W1.heap.size := lt_of_block (aa J).1
   have q1 : w.heap.size + 1 < W1.heap.size := lt_of_block (aa J).2
   have KEEP : ∀ X, Below W1.heap.size W1 X → (fun w' => w'.cell? ⟨w.heap.size, 0, none⟩ = some (.slice A1 l1.length c1) ∧ w'.cell? ⟨w.heap.size, 1, none⟩ = some (.bool m1) ∧ w'.cell? ⟨w.heap.size + 1, 0, none⟩ = some (.slice A2 l2.length c2) ∧ w'.cell? ⟨w.heap.size + 1, 1, none⟩ = some (.bool true)) X := fun X hX => ⟨(hX.cell (p := ⟨w.heap.size, 0, none⟩) q0).trans k0, (hX.cell (p := ⟨w.heap.size, 1, none⟩) q0).trans k1, (hX.cell (p := ⟨w.heap.size + 1, 0, none⟩) q1).trans k2, (hX.cell (p := ⟨w.heap.size + 1, 1, none⟩) q1).trans k3⟩
   have HKE := hide KEEP
   have f0 := ax (aa J).1 0
   have f1 := ax (aa J).1 1
   have f2 := ax (aa J).2 0
   have f3 := ax (aa J).2 1
   clear anl KEEP
   go_wp2_with fail
   go_region_with (first | (go_at_call_of 176 (Value.agg #[.slice A1 l1.length c1, .bool m1]); refine ((aa HN1) _ (bz HW1.out (by (first | with_reducible assumption | (repeat (first | with_reducible exact Below.refl _ _ | with_reducible assumption | refine Below.drew ?_ | (refine Below.alloc ?_ (by simp <;> omega) _))))))).mono ?_; rintro e w' ⟨A5, c5, l5, m5, rfl, beh, hb⟩; (try (first | replace zb := jg.below zb hb | replace zb := (jg.below zb (Below.drew (Below.refl _ _))).below hb)); (try (first | replace Fu := jg.below Fu hb | replace Fu := (jg.below Fu (Below.drew (Below.refl _ _))).below hb)); have zb := beh; clear beh; have hbw := dh (w := W1) (by (first | with_reducible assumption | (repeat (first | with_reducible exact Below.refl _ _ | with_reducible assumption | refine Below.drew ?_ | (refine Below.alloc ?_ (by simp <;> omega) _))))) hb; obtain ⟨hc, hfz⟩ := fo hbw) | (go_at_call_of 176 (Value.agg #[.slice A2 l2.length c2, .bool true]); refine ((aa HN2) _ (bz HW1.out (by (first | with_reducible assumption | (repeat (first | with_reducible exact Below.refl _ _ | with_reducible assumption | refine Below.drew ?_ | (refine Below.alloc ?_ (by simp <;> omega) _))))))).mono ?_; rintro e w' ⟨A6, c6, l6, m6, rfl, beg, hb⟩; (try (first | replace zb := jg.below zb hb | replace zb := (jg.below zb (Below.drew (Below.refl _ _))).below hb)); (try (first | replace Fu := jg.below Fu hb | replace Fu := (jg.below Fu (Below.drew (Below.refl _ _))).below hb)); have Fu := beg; clear beg; have hbw := dh (w := W1) (by (first | with_reducible assumption | (repeat (first | with_reducible exact Below.refl _ _ | with_reducible assumption | refine Below.drew ?_ | (refine Below.alloc ?_ (by simp <;> omega) _))))) hb; obtain ⟨hc, hfz⟩ := fo hbw))
   all_goals
    go_wp2_with fail
    go_meet
    case rel =>
     have HS9 := (aa HS).below hbw
     exact HS9.put zb Fu
  ·
   subst e1 e2 e3
   clear anl
   go_wp2_with fail
   go_meet
   case rel => exact aa HS
 case rest =>
  clear anl k0 k1 k2 k3 HS J HW1 HN1 HN2 H1 H2
  obtain ⟨⟨A3, c3, l3, m3, kn, fn⟩, ⟨A4, c4, l4, m4, kd, fd⟩, kq, hb⟩ := hcut
  have w0 : wc.cell? ⟨w.heap.size, 0, none⟩ = some (.slice A3 l3.length c3) := ah kn 0
  have w1 : wc.cell? ⟨w.heap.size, 1, none⟩ = some (.bool m3) := ah kn 1
  have w2 : wc.cell? ⟨w.heap.size + 1, 0, none⟩ = some (.slice A4 l4.length c4) := ah kd 0
  have w3 : wc.cell? ⟨w.heap.size + 1, 1, none⟩ = some (.bool m4) := ah kd 1
  have p0 : wc.cell? ⟨w.heap.size + 1 + 1, 0, none⟩ = some (.slice none 0 0) := ah kq 0
  have p1 : wc.cell? ⟨w.heap.size + 1 + 1, 1, none⟩ = some (.bool false) := ah kq 1
  have p2 : wc.cell? ⟨w.heap.size + 1 + 1, 2, none⟩ = some (.slice none 0 0) := ah kq 2
  have p3 : wc.cell? ⟨w.heap.size + 1 + 1, 3, none⟩ = some (.bool false) := ah kq 3
  have u0 := ax kn 0; have u1 := ax kn 1; have u2 := ax kd 0; have u3 := ax kd 1
  have v0 := ax kq 0; have v1 := ax kq 1; have v2 := ax kq 2; have v3 := ax kq 3
  have q0 := lt_of_block kn; have q1 := lt_of_block kd; have q2 := lt_of_block kq
  have hSW : Uw w wc n' d' := ⟨⟨A3, c3, l3, m3, kn, fn⟩, ⟨A4, c4, l4, m4, kd, fd⟩, kq, hb⟩
  have ho := Yq A4 c4 l4 m4 d' wc fd
  have FN := hide fn; have FD := hide fd; have KQ := Lib.hid kq; have HB := hide hb; have HSW := hide hSW
  obtain ⟨amm, hden⟩ := amx n' d' (aa HDP)
  rw [← HQ2.out] at amm hden
  obtain ⟨g, hg⟩ : ∃ g, g = n'.natAbs.gcd d'.natAbs := ⟨_, rfl⟩
  rw [← hg] at amm hden
  have ank := Lib.hid amm.symm; have anm := Lib.hid hden.symm; have HGG := Lib.hid hg
  clear kn kd kq fn fd hb hSW amm hden
  by_cases hd1 : d' = 1
  ·
   rw [decide_eq_true hd1] at ho
   have HO := hide ho
   have hg1 : g = 1 := by rw [hg, hd1]; simp
   have e1 : q.num = n' := by
    rw [← ank.out, hg1, Nat.div_one]
    by_cases h : n' < 0
    ·
     rw [if_pos (decide_eq_true h)]; omega
    ·
     rw [if_neg (by simpa using h)]; omega
   have e2 : (q.den : Int) = d' := by
    rw [← anm.out, hg1, Nat.div_one]; have := aa HDP; omega
   have E := hide (And.intro e1 e2)
   clear ho hg hg1 hd1 e1 e2
   go_wp2_with fail
   refine (aa HO).mono ?_
   rintro e W2 ⟨rfl, hb2⟩
   obtain ⟨hc, hfz⟩ := fo hb2
   have hblk := (hb2.block _ q2).trans KQ.out
   have kz := Lib.hid hblk; have HB2 := hide hb2
   clear hblk hb2
   go_wp2_with fail
   exact bodyPost_ret (v := .agg #[.slice A3 l3.length c3, .bool m3, .slice A4 l4.length c4, .bool m4]) (by simp [results, Tryz.results128, go_sem, hc, p0, p1, p2, p3, q2]) rfl
    ⟨A3, c3, l3, m3, A4, c4, l4, m4, rfl, by rw [(aa E).1]; exact ((aa FN).below (aa HB2)).upto kz.out (Aw _ _ _ _ _ _ _ _) (pq _ _ _ _ _ _), by rw [(aa E).2]; exact ((aa FD).below (aa HB2)).upto kz.out (Aw _ _ _ _ _ _ _ _) (pq _ _ _ _ _ _), (bz (aa HB) (aa HB2)).grown (pq _ _ _ _ _ _) (bz (aa HB) (aa HB2)).size (fun k hk => by injection hk with hk; omega)⟩
  ·
   rw [decide_eq_false hd1] at ho
   have hdv := fun W (hW : Below wc.heap.size wc W) => aix A3 A4 c3 c4 l3 l4 n'.natAbs d'.natAbs K W ((aa FN).nat.below hW) ((aa FD).nat.below hW) (aa HNK) (aa HDK) (aa HK)
   rw [← hg] at hdv
   have HO := hide ho; have HDV := hide hdv
   have hg0 : 0 < g := by rw [hg]; exact Nat.gcd_pos_of_pos_right _ (by have := aa HDP; omega)
   have hgl : g ≤ d'.natAbs := by rw [hg]; exact Nat.gcd_le_right _ (by have := aa HDP; omega)
   have HG0 := hide hg0; have HGL := hide hgl
   have hln := (aa FN).nat.len (aa HNK); have hld := (aa FD).nat.len (aa HDK)
   have HLN := hide hln; have HLD := hide hld
   clear ho hdv hg hg0 hgl hd1 hln hld
   go_wp2_with fail
   refine (aa HO).mono ?_
   rintro e W2 ⟨rfl, hb2⟩
   obtain ⟨hc2, hf2⟩ := fo hb2
   have HB2 := hide hb2
   clear hb2
   go_wp2_with fail
   refine ((aa HDV) _ (aa HB2)).mono ?_
   rintro e W3 ⟨A5, c5, l5, rfl, h5, hb3⟩
   have abj := bz (aa HB2) hb3
   replace hb3 := abj
   obtain ⟨hc3, hf3⟩ := fo hb3
   have hlg := h5.len (Nat.lt_of_le_of_lt (aa HGL) (aa HDK))
   have H5 := hide h5; have HLG := hide hlg; have HB3 := hide hb3
   clear hc2 hf2 abj hlg HDV HO HB2
   by_cases hl5 : l5.length = 1
   ·
    obtain ⟨b5, o5, rfl, hb5, hc5⟩ := h5.ws om
    have hcell := hc5 0 om
    rw [Nat.add_zero, show Wd.g l5 0 = g by rw [Rj fe l5 hl5]; exact h5.val] at hcell
    have bmi : ((l5.length : Int) != 1) = false := by rw [hl5]; rfl
    have btd : 0 < l5.length := by omega
    have hcap := h5.tq; have hcap2 := h5.cap2
    by_cases hg1 : g = 1
    ·
     have e1 : q.num = n' := by
      rw [← ank.out, hg1, Nat.div_one]
      by_cases h : n' < 0
      ·
       rw [if_pos (decide_eq_true h)]; omega
      ·
       rw [if_neg (by simpa using h)]; omega
     have e2 : (q.den : Int) = d' := by
      rw [← anm.out, hg1, Nat.div_one]; have := aa HDP; omega
     have E := hide (And.intro e1 e2)
     have hblk := (hb3.block _ q2).trans KQ.out
     have kz := Lib.hid hblk
     rw [hg1] at hcell
     clear hblk hg1 e1 e2 h5 hc5 hb3 hl5 hb5
     go_wp2_with fail
     exact bodyPost_ret (v := .agg #[.slice A3 l3.length c3, .bool m3, .slice A4 l4.length c4, .bool m4]) (by simp [results, Tryz.results128, go_sem, hc3, p0, p1, p2, p3, q2]) rfl
      ⟨A3, c3, l3, m3, A4, c4, l4, m4, rfl, by rw [(aa E).1]; exact ((aa FN).below (aa HB3)).upto kz.out (Aw _ _ _ _ _ _ _ _) (pq _ _ _ _ _ _), by rw [(aa E).2]; exact ((aa FD).below (aa HB3)).upto kz.out (Aw _ _ _ _ _ _ _ _) (pq _ _ _ _ _ _), (bz (aa HB) (aa HB3)).grown (pq _ _ _ _ _ _) (bz (aa HB) (aa HB3)).size (fun k hk => by injection hk with hk; omega)⟩
    ·
     have hgb : ((g : Int) == 1) = false := beq_eq_false_iff_ne.2 om
     have bth : ((g : Int) != 1) = true := by simp; omega
     obtain ⟨AG, hAG⟩ : ∃ A : Option Addr, A = some ⟨b5, o5, none⟩ := ⟨_, rfl⟩
     have hp1 := Kh A3 (some ⟨b5, o5, none⟩) c3 c5 l3 l5 n'.natAbs g W3 ((aa FN).nat.below hb3) (aa H5) (aa HG0) (by have := aa HLN; have := aa HK; omega) (by have := aa HLG; have := aa HK; omega)
     have HP1 := hide hp1
     clear hg1 h5 hc5 hb3 hl5 hb5 hp1 hAG AG
     go_wp2_with fail
     refine (aa HP1).mono ?_
     rintro e W4 ⟨A6, c6, l6, A7, c7, l7, rfl, h6, h7, hb4⟩
     have Rx := bz (aa HB3) hb4
     have h5' := (aa H5).below hb4
     obtain ⟨hc4, hf4⟩ := fo Rx
     have hp2 := Kh A4 (some ⟨b5, o5, none⟩) c4 c5 l4 l5 d'.natAbs g W4 ((aa FD).nat.below Rx) h5' (aa HG0) (by have := aa HLD; have := aa HK; omega) (by have := aa HLG; have := aa HK; omega)
     have HP2 := hide hp2; have H6 := hide h6; have HB4 := hide Rx
     clear hp2 h6 h7 hb4 Rx h5' hc3 hf3 HP1
     go_wp2_with fail
     refine (aa HP2).mono ?_
     rintro e W5 ⟨A8, c8, l8, A9, c9, l9, rfl, h8, h9, hb5⟩
     have Yd := bz (aa HB4) hb5
     obtain ⟨hc5, zb⟩ := fo Yd
     have hs1 := El A6 c6 l6 (n'.natAbs / g) m3 W5 ((aa H6).below hb5)
     have Mx : (if m3 = true then -((n'.natAbs / g : Nat) : Int) else ((n'.natAbs / g : Nat) : Int)) = q.num := by rw [(aa FN).sign]; exact ank.out
     rw [Mx] at hs1
     have qg := hide hs1; have H8 := hide h8; have HB5 := hide Yd
     clear hs1 h8 h9 hb5 Yd hc4 hf4 Mx HP2
     go_wp2_with fail
     refine (aa qg).mono ?_
     rintro e W6 ⟨A10, c10, l10, m10, rfl, h10, hb6⟩
     have Yc := bz (aa HB5) hb6
     obtain ⟨hc6, Fu⟩ := fo Yc
     have hs2 := El A8 c8 l8 (d'.natAbs / g) false W6 ((aa H8).below hb6)
     rw [if_neg Bool.false_ne_true, anm.out] at hs2
     have HS2 := hide hs2; have H10 := hide h10; have HB6 := hide Yc
     clear hs2 h10 hb6 Yc hc5 zb qg
     go_wp2_with fail
     refine (aa HS2).mono ?_
     rintro e W7 ⟨A11, c11, Zd, m11, rfl, h11, Un⟩
     have Yb := bz (aa HB6) Un
     obtain ⟨hc7, hf7⟩ := fo Yb
     have agi := (aa HSW).below Yb
     have Yi := hide agi
     have aik := hide ((aa H10).below Un); have H11 := hide h11
     clear h11 Un Yb hc6 Fu agi HS2
     go_wp2_with fail
     have Zr := (aa Yi).put (aa aik) (aa H11)
     have hk1 := (aa Yi).keep (.slice A10 l10.length c10) (.bool m10) (.slice A11 Zd.length c11) (.bool m11) (aa aik)
     have hk2 := (aa Yi).keep (.slice A10 l10.length c10) (.bool m10) (.slice A11 Zd.length c11) (.bool m11) (aa H11)
     exact bodyPost_ret (v := .agg #[.slice A10 l10.length c10, .bool m10, .slice A11 Zd.length c11, .bool m11]) (by simp [results, Tryz.results128, go_sem, hc7, p0, p1, p2, p3, q2]) rfl
      ⟨A10, c10, l10, m10, A11, c11, Zd, m11, rfl, hk1.upto Zr.bq (Aw _ _ _ _ _ _ _ _) (pq _ _ _ _ _ _), hk2.upto Zr.bq (Aw _ _ _ _ _ _ _ _) (pq _ _ _ _ _ _), Zr.hb.grown (pq _ _ _ _ _ _) Zr.hb.size (fun k hk => by injection hk with hk; omega)⟩
   ·
    have bmi : ((l5.length : Int) != 1) = true := by simp; omega
    have btc : ((l5.length : Int) == 1) = false := beq_eq_false_iff_ne.2 om
    have hcap := h5.tq; have hcap2 := h5.cap2
    have hp1 := Kh A3 A5 c3 c5 l3 l5 n'.natAbs g W3 ((aa FN).nat.below hb3) (aa H5) (aa HG0) (by have := aa HLN; have := aa HK; omega) (by have := aa HLG; have := aa HK; omega)
    have HP1 := hide hp1
    clear h5 hb3 hl5 hp1
    go_wp2_with fail
    refine (aa HP1).mono ?_
    rintro e W4 ⟨A6, c6, l6, A7, c7, l7, rfl, h6, h7, hb4⟩
    have Rx := bz (aa HB3) hb4
    have h5' := (aa H5).below hb4
    obtain ⟨hc4, hf4⟩ := fo Rx
    have hp2 := Kh A4 A5 c4 c5 l4 l5 d'.natAbs g W4 ((aa FD).nat.below Rx) h5' (aa HG0) (by have := aa HLD; have := aa HK; omega) (by have := aa HLG; have := aa HK; omega)
    have HP2 := hide hp2; have H6 := hide h6; have HB4 := hide Rx
    clear hp2 h6 h7 hb4 Rx h5' hc3 hf3 HP1
    go_wp2_with fail
    refine (aa HP2).mono ?_
    rintro e W5 ⟨A8, c8, l8, A9, c9, l9, rfl, h8, h9, hb5⟩
    have Yd := bz (aa HB4) hb5
    obtain ⟨hc5, zb⟩ := fo Yd
    have hs1 := El A6 c6 l6 (n'.natAbs / g) m3 W5 ((aa H6).below hb5)
    have Mx : (if m3 = true then -((n'.natAbs / g : Nat) : Int) else ((n'.natAbs / g : Nat) : Int)) = q.num := by rw [(aa FN).sign]; exact ank.out
    rw [Mx] at hs1
    have qg := hide hs1; have H8 := hide h8; have HB5 := hide Yd
    clear hs1 h8 h9 hb5 Yd hc4 hf4 Mx HP2
    go_wp2_with fail
    refine (aa qg).mono ?_
    rintro e W6 ⟨A10, c10, l10, m10, rfl, h10, hb6⟩
    have Yc := bz (aa HB5) hb6
    obtain ⟨hc6, Fu⟩ := fo Yc
    have hs2 := El A8 c8 l8 (d'.natAbs / g) false W6 ((aa H8).below hb6)
    rw [if_neg Bool.false_ne_true, anm.out] at hs2
    have HS2 := hide hs2; have H10 := hide h10; have HB6 := hide Yc
    clear hs2 h10 hb6 Yc hc5 zb qg
    go_wp2_with fail
    refine (aa HS2).mono ?_
    rintro e W7 ⟨A11, c11, Zd, m11, rfl, h11, Un⟩
    have Yb := bz (aa HB6) Un
    obtain ⟨hc7, hf7⟩ := fo Yb
    have agi := (aa HSW).below Yb
    have Yi := hide agi
    have aik := hide ((aa H10).below Un); have H11 := hide h11
    clear h11 Un Yb hc6 Fu agi HS2
    go_wp2_with fail
    have Zr := (aa Yi).put (aa aik) (aa H11)
    have hk1 := (aa Yi).keep (.slice A10 l10.length c10) (.bool m10) (.slice A11 Zd.length c11) (.bool m11) (aa aik)
    have hk2 := (aa Yi).keep (.slice A10 l10.length c10) (.bool m10) (.slice A11 Zd.length c11) (.bool m11) (aa H11)
    exact bodyPost_ret (v := .agg #[.slice A10 l10.length c10, .bool m10, .slice A11 Zd.length c11, .bool m11]) (by simp [results, Tryz.results128, go_sem, hc7, p0, p1, p2, p3, q2]) rfl
     ⟨A10, c10, l10, m10, A11, c11, Zd, m11, rfl, hk1.upto Zr.bq (Aw _ _ _ _ _ _ _ _) (pq _ _ _ _ _ _), hk2.upto Zr.bq (Aw _ _ _ _ _ _ _ _) (pq _ _ _ _ _ _), Zr.hb.grown (pq _ _ _ _ _ _) Zr.hb.size (fun k hk => by injection hk with hk; omega)⟩


theorem azo (n d : Int) (w : World) (b1 : -9223372036854775808 ≤ n) (b2 : n ≤ 9223372036854775807) (b3 : -9223372036854775808 ≤ d) (b4 : d ≤ 9223372036854775807) :
  Calls Tryz.prog 67 #[(.agg #[.int .i64 n, .int .i64 d])] w fun e w' => Hd w n d e w' := by
 have HN1 := hide (fun W => Bf n b1 b2 W)
 have HN2 := hide (fun W => Bf d b3 b4 W)
 clear b1 b2 b3 b4
 go_enter Tryz.func67, Tryz.ntmps67
 go_wp2_with fail
 obtain ⟨n0, n1, hsz, hw0⟩ := ve w (.cells #[.int .i64 n, .int .i64 d] 23) (.cells #[.int .i64 0, .bool false, .slice none 0 0, .int .i64 0, .bool false, .slice none 0 0] 79)
 generalize ((w.alloc (.cells #[.int .i64 n, .int .i64 d] 23)).alloc (.cells #[.int .i64 0, .bool false, .slice none 0 0, .int .i64 0, .bool false, .slice none 0 0] 79)) = W0 at *
 have wm : W0.cell? ⟨w.heap.size, 0, none⟩ = some (.int .i64 n) := ah n0 0
 have wh : W0.cell? ⟨w.heap.size, 1, none⟩ = some (.int .i64 d) := ah n0 1
 have q0 : w.heap.size < W0.heap.size := by omega
 have yx : W0.cell? ⟨w.heap.size + 1, 0, none⟩ = some (.int .i64 0) := ah n1 0
 have yw : W0.cell? ⟨w.heap.size + 1, 1, none⟩ = some (.bool false) := ah n1 1
 have Fj : W0.cell? ⟨w.heap.size + 1, 2, none⟩ = some (.slice none 0 0) := ah n1 2
 have Ro : W0.cell? ⟨w.heap.size + 1, 3, none⟩ = some (.int .i64 0) := ah n1 3
 have Xu : W0.cell? ⟨w.heap.size + 1, 4, none⟩ = some (.bool false) := ah n1 4
 have Xt : W0.cell? ⟨w.heap.size + 1, 5, none⟩ = some (.slice none 0 0) := ah n1 5
 have q1 : w.heap.size + 1 < W0.heap.size := by omega
 have Nf := ax n1 0
 have Nc := ax n1 1
 have amw := ax n1 2
 have amv := ax n1 3
 have avj := ax n1 4
 have avi := ax n1 5
 have NR := Lib.hid n1
 clear n0 n1
 go_region_held3 (fun w' => w'.cell? ⟨w.heap.size, 0, none⟩ = some (.int .i64 n) ∧ w'.cell? ⟨w.heap.size, 1, none⟩ = some (.int .i64 d)) ((first | with_reducible exact ⟨(hc _ _ q0).trans wm, (hc _ _ q0).trans wh⟩ | with_reducible exact ⟨wm, wh⟩ | with_reducible exact ⟨(jo _ _ _ _ _ _ _ _ om).trans ((hc _ _ q0).trans wm), (jo _ _ _ _ _ _ _ _ om).trans ((hc _ _ q0).trans wh)⟩ | exact ⟨(hc _ _ q0).trans wm, (hc _ _ q0).trans wh⟩ | exact ⟨wm, wh⟩ | exact ⟨(jo _ _ _ _ _ _ _ _ om).trans ((hc _ _ q0).trans wm), (jo _ _ _ _ _ _ _ _ om).trans ((hc _ _ q0).trans wh)⟩)) (first | (go_at_call 137; refine ((aa HN1) _).mono ?_; clear HN1; rintro e w' ⟨s5, rz, A5, c5, l5, rfl, zb, hb⟩; have hbw := dh (w := W0) bem hb; obtain ⟨hc, hfz⟩ := fo hbw) | (go_at_call 137; refine ((aa HN2) _).mono ?_; rintro e w' ⟨s6, vw, A6, c6, l6, rfl, Fu, hb⟩; have zb := zb.below hb; have hbw := dh (w := W0) bem hb; obtain ⟨hc, hfz⟩ := fo hbw))
 have hblk : w'.heap[w.heap.size + 1]? = some (.cells #[.int .i64 0, .bool false, .slice none 0 0, .int .i64 0, .bool false, .slice none 0 0] 79 (0, 0)) := (hbw.block _ q1).trans NR.out
 have kz := Lib.hid hblk
 have ku : Below w.heap.size w w' := bz hw0 hbw
 clear hblk
 go_wp2_with fail
 exact bodyPost_ret (v := (Value.agg #[.int .i64 s5, .bool rz, .slice A5 l5.length c5, .int .i64 s6, .bool vw, .slice A6 l6.length c6])) (by simp [results, Tryz.results67, go_sem, hc, yx, yw, Fj, Ro, Xu, Xt, q1]) rfl
  ⟨s5, rz, A5, c5, l5, s6, vw, A6, c6, l6, rfl, (zb).upto kz.out (wu _ _ _ _ _ _ _ _ _ _) (lh _ _ _ _ _ _ _ _), (Fu).upto kz.out (wu _ _ _ _ _ _ _ _ _ _) (lh _ _ _ _ _ _ _ _), ku.grown (lh _ _ _ _ _ _ _ _) ku.size (fun k hk => by injection hk with hk; omega)⟩


def bft (w : World) (t : Wd.Told) (e : Ending) (w' : World) : Prop := e = .returned (.tuple #[.agg #[.int .i64 t.n, .int .i64 t.d], .int .i64 t.e]) ∧ Below w.heap.size w w'

def bnm (w : World) (q : Rat) (e : Ending) (w' : World) : Prop := ∃ (n d : Int) (ok : Bool), e = .returned (.tuple #[.agg #[.int .i64 n, .int .i64 d], .bool ok]) ∧ Below w.heap.size w w' ∧ ((ok = true ∧ Wd.told q = ⟨n, d, 0⟩) ∨ (ok = false ∧ Wd.told q = ⟨0, 0, 3⟩))




structure Qk (Wp W : World) (b : Nat) : Prop where
 old : Wp.heap.size ≤ b
 zero : W.heap[b]? = some (.cells #[.slice none 0 0, .bool false, .slice none 0 0, .bool false] 68 (0, 0))
theorem Qk.lt {Wp W : World} {b : Nat} (h : Qk Wp W b) : b < W.heap.size := lt_of_block h.zero
theorem Qk.drew {Wp W : World} {b : Nat} (h : Qk Wp W b) : Qk Wp W.drew b := ⟨h.old, h.zero⟩
theorem Qk.below {Wp W w' : World} {b : Nat} (h : Qk Wp W b) (hb : Below W.heap.size W w') : Qk Wp w' b := ⟨h.old, (hb.block _ h.lt).trans h.zero⟩
theorem Qk.new {Wp W : World} {b : Nat} (hb : Below Wp.heap.size Wp W) (e : b = W.heap.size) : Qk Wp (W.alloc (.cells #[.slice none 0 0, .bool false, .slice none 0 0, .bool false] 68 (0, 0))) b := by
 subst e; exact ⟨hb.size, heap_alloc_new W _⟩
theorem Qk.alloc {Wp W : World} {b : Nat} {o : Obj} (h : Qk Wp W b) : Qk Wp (W.alloc o) b := ⟨h.old, (Below.heap_alloc W _ b h.lt).trans h.zero⟩
theorem QV.upto {w w' : World} {g : Nat} {Ct : Option Addr} {c1a : Nat} {Cr : List Nat} {Od : Bool} {Dp : Option Addr} {Dh : Nat} {Db : List Nat} {Sj : Bool} {x1 : Rat} {T : TypeId} {cs : Array Value} (h : QV w Ct c1a Cr Od Dp Dh Db Sj x1) (hg : w.heap[g]? = some (.cells cs T (0, 0))) (hn : Yh cs) (hgr : w.grownBy w' (some g)) : QV w' Ct c1a Cr Od Dp Dh Db Sj x1 := by
 obtain ⟨d, h2, h3⟩ := h.den
 exact ⟨h.num.upto hg hn hgr, d, h2.upto hg hn hgr, h3⟩
theorem QV.alloc {W : World} {o : Obj} {Ct : Option Addr} {c1a : Nat} {Cr : List Nat} {Od : Bool} {Dp : Option Addr} {Dh : Nat} {Db : List Nat} {Sj : Bool} {x1 : Rat} (h1 : QV W Ct c1a Cr Od Dp Dh Db Sj x1) : QV (W.alloc o) Ct c1a Cr Od Dp Dh Db Sj x1 := h1.below ((Below.refl _ _).alloc (Nat.le_refl _) _)
def Et (w : World) (b : Nat) (x : Rat) : Prop := ∃ A c l m A' c' l' m', w.heap[b]? = some (.cells #[.slice A (List.length l) c, .bool m, .slice A' (List.length l') c', .bool m'] 68 (0, 0)) ∧ QV w A c l m A' c' l' m' x
theorem Et.below {w w' : World} {b : Nat} {x : Rat} (h : Et w b x) (hb : Below w.heap.size w w') : Et w' b x := by
 obtain ⟨A, c, l, m, A', c', l', m', h1, h2⟩ := h
 exact ⟨A, c, l, m, A', c', l', m', (hb.block _ (lt_of_block h1)).trans h1, h2.below hb⟩
theorem Et.new {W : World} {b : Nat} {Ct : Option Addr} {c1a : Nat} {Cr : List Nat} {Od : Bool} {Dp : Option Addr} {Dh : Nat} {Db : List Nat} {Sj : Bool} {x1 : Rat} (h1 : QV W Ct c1a Cr Od Dp Dh Db Sj x1) (e : b = W.heap.size) : Et (W.alloc (.cells #[.slice Ct Cr.length c1a, .bool Od, .slice Dp Db.length Dh, .bool Sj] 68)) b x1 := by
 subst e; exact ⟨_, _, _, _, _, _, _, _, heap_alloc_new W _, h1.alloc⟩
theorem Et.alloc {W : World} {b : Nat} {x : Rat} {o : Obj} (h : Et W b x) : Et (W.alloc o) b x := h.below ((Below.refl _ _).alloc (Nat.le_refl _) _)
theorem alg {W : World} {b : Nat} {a0 a1 a2 a3 u0 u1 u2 u3 : Value} {T : TypeId} (h : W.heap[b]? = some (.cells #[a0, a1, a2, a3] T (0, 0))) : ((((W.setCell ⟨b, 0, none⟩ u0).setCell ⟨b, 1, none⟩ u1).setCell ⟨b, 2, none⟩ u2).setCell ⟨b, 3, none⟩ u3).heap[b]? = some (.cells #[u0, u1, u2, u3] T (0, 0)) := by
 simp [World.setCell, Array.getElem?_modify, h]

namespace Sb
def Ld (u : Value) : Prop := (∀ n : Int, u ≠ .int .u64 n) ∧ u.oneCell' = true ∧ (∀ n : Int, u ≠ .int .u32 n)
def Ec (cs : List Value) : Prop := ∀ u ∈ cs, Ld u
structure Kind where
 size : Nat
 ok : World → List Value → Prop
 noW : ∀ {W : World} {c : List Value}, ok W c → Ec c
 below : ∀ {W W' : World} {c : List Value}, Below W.heap.size W W' → ok W c → ok W' c
 upto : ∀ {W W' : World} {g : Nat} {T : TypeId} {cs c : List Value}, W.heap[g]? = some (.cells cs.toArray T (0, 0)) → Ec cs → W.grownBy W' (some g) → ok W c → ok W' c
 len : ∀ {W : World} {c : List Value}, ok W c → c.length = size
inductive jq where
 | v (u : Value)
 | z (n : Int)
 | q (x : Rat)
 | r (x : Rat)
 | k (κ : Kind)
def jq.size : jq → Nat
 | .v _ => 1
 | .z _ => 3
 | .q _ => 6
 | .r _ => 4
 | .k κ => κ.size
def qm : List jq → Nat
 | [] => 0
 | l :: ls => l.size + qm ls
def Ga (W : World) : jq → List Value → Prop
 | .v u, c => c = [u] ∧ Ld u
 | .z n, c => ∃ s1 n1 A1 c1 l1, c = [.int .i64 s1, .bool n1, .slice A1 (List.length l1) c1] ∧ gu W s1 n1 A1 c1 l1 n
 | .q x, c => ∃ s1 n1 A1 c1 l1 s2 n2 A2 c2 l2, c = [.int .i64 s1, .bool n1, .slice A1 (List.length l1) c1, .int .i64 s2, .bool n2, .slice A2 (List.length l2) c2] ∧ gu W s1 n1 A1 c1 l1 x.num ∧ gu W s2 n2 A2 c2 l2 (x.den : Int)
 | .r x, c => ∃ A1 c1 l1 m1 A2 c2 l2 m2, c = [.slice A1 (List.length l1) c1, .bool m1, .slice A2 (List.length l2) c2, .bool m2] ∧ QV W A1 c1 l1 m1 A2 c2 l2 m2 x
 | .k κ, c => κ.ok W c
def eu (W : World) : List jq → List Value → Prop
 | [], cs => cs = []
 | l :: ls, cs => ∃ c r, cs = c ++ r ∧ Ga W l c ∧ eu W ls r
theorem iw (n : Int) : Ld (.int .i64 n) := ⟨fun m h => by simp at h, rfl, fun m h => by simp at h⟩
theorem Tz (b : Bool) : Ld (.bool b) := ⟨fun m h => by simp at h, rfl, fun m h => by simp at h⟩
theorem Ty (A : Option Addr) (n c : Nat) : Ld (.slice A n c) := ⟨fun m h => by simp at h, rfl, fun m h => by simp at h⟩
theorem bcw (A : Option Addr) : Ld (.pointer A) := ⟨fun m h => by simp at h, rfl, fun m h => by simp at h⟩
theorem Ec.arr {cs : List Value} (h : Ec cs) : Qf cs.toArray := fun i n he => (h (.int .u64 n) (List.mem_of_getElem? (i := i) (by simpa using he))).1 n rfl
theorem Ec.bfs {cs : List Value} (h : Ec cs) : Yh cs.toArray := fun i n he => (h (.int .u32 n) (List.mem_of_getElem? (i := i) (by simpa using he))).2.2 n rfl
theorem Ga.noW {W : World} {l : jq} {c : List Value} (h : Ga W l c) : Ec c := by
 cases l with
 | v u => obtain ⟨rfl, h⟩ := h; intro u' hu; rw [List.mem_singleton.1 hu]; exact h
 | z n =>
  obtain ⟨_, _, _, _, _, rfl, _⟩ := h
  intro u hu
  simp only [List.mem_cons, List.not_mem_nil, or_false] at hu
  rcases hu with rfl | rfl | rfl
  all_goals first | exact iw _ | exact Tz _ | exact Ty _ _ _
 | q x =>
  obtain ⟨_, _, _, _, _, _, _, _, _, _, rfl, _⟩ := h
  intro u hu
  simp only [List.mem_cons, List.not_mem_nil, or_false] at hu
  rcases hu with rfl | rfl | rfl | rfl | rfl | rfl
  all_goals first | exact iw _ | exact Tz _ | exact Ty _ _ _
 | r x =>
  obtain ⟨_, _, _, _, _, _, _, _, rfl, _⟩ := h
  intro u hu
  simp only [List.mem_cons, List.not_mem_nil, or_false] at hu
  rcases hu with rfl | rfl | rfl | rfl
  all_goals first | exact iw _ | exact Tz _ | exact Ty _ _ _
 | k κ => exact κ.noW h
theorem Ga.below {W W' : World} {l : jq} {c : List Value} (hb : Below W.heap.size W W') (h : Ga W l c) : Ga W' l c := by
 cases l with
 | v u => exact h
 | z n =>
  obtain ⟨s1, n1, A1, c1, l1, rfl, h1⟩ := h
  exact ⟨_, _, _, _, _, rfl, h1.below hb⟩
 | q x =>
  obtain ⟨s1, n1, A1, c1, l1, s2, n2, A2, c2, l2, rfl, h1, h2⟩ := h
  exact ⟨_, _, _, _, _, _, _, _, _, _, rfl, h1.below hb, h2.below hb⟩
 | r x =>
  obtain ⟨A1, c1, l1, m1, A2, c2, l2, m2, rfl, h1⟩ := h
  exact ⟨_, _, _, _, _, _, _, _, rfl, h1.below hb⟩
 | k κ => exact κ.below hb h
theorem Ga.upto {W W' : World} {g : Nat} {l : jq} {c : List Value} {T : TypeId} {cs : List Value} (hg : W.heap[g]? = some (.cells cs.toArray T (0, 0))) (hn : Ec cs) (hgr : W.grownBy W' (some g)) (h : Ga W l c) : Ga W' l c := by
 cases l with
 | v u => exact h
 | z n =>
  obtain ⟨s1, n1, A1, c1, l1, rfl, h1⟩ := h
  exact ⟨_, _, _, _, _, rfl, h1.upto hg hn.arr hgr⟩
 | q x =>
  obtain ⟨s1, n1, A1, c1, l1, s2, n2, A2, c2, l2, rfl, h1, h2⟩ := h
  exact ⟨_, _, _, _, _, _, _, _, _, _, rfl, h1.upto hg hn.arr hgr, h2.upto hg hn.arr hgr⟩
 | r x =>
  obtain ⟨A1, c1, l1, m1, A2, c2, l2, m2, rfl, h1⟩ := h
  exact ⟨_, _, _, _, _, _, _, _, rfl, h1.upto hg hn.bfs hgr⟩
 | k κ => exact κ.upto hg hn hgr h
theorem Ga.len {W : World} {l : jq} {c : List Value} (h : Ga W l c) : c.length = l.size := by
 cases l with
 | v u => rw [h.1]; rfl
 | z n => obtain ⟨_, _, _, _, _, rfl, _⟩ := h; rfl
 | q x => obtain ⟨_, _, _, _, _, _, _, _, _, _, rfl, _⟩ := h; rfl
 | r x => obtain ⟨_, _, _, _, _, _, _, _, rfl, _⟩ := h; rfl
 | k κ => exact κ.len h
theorem eu.noW {W : World} : ∀ {ls : List jq} {cs : List Value}, eu W ls cs → Ec cs
 | [], _, h => by cases h; intro u hu; cases hu
 | _ :: ls, _, ⟨c, r, e, hq, h⟩ => by
  subst e
  intro u' hm
  rcases List.mem_append.1 hm with hm | hm
  ·
   exact hq.noW _ hm
  ·
   exact eu.noW (ls := ls) h _ hm
theorem eu.below {W W' : World} (hb : Below W.heap.size W W') : ∀ {ls : List jq} {cs : List Value}, eu W ls cs → eu W' ls cs
 | [], _, h => h
 | _ :: ls, _, ⟨c, r, e, hq, h⟩ => ⟨c, r, e, hq.below hb, eu.below hb (ls := ls) h⟩
theorem eu.upto {W W' : World} {g : Nat} {T : TypeId} {ds : List Value} (hg : W.heap[g]? = some (.cells ds.toArray T (0, 0))) (hn : Ec ds) (hgr : W.grownBy W' (some g)) : ∀ {ls : List jq} {cs : List Value}, eu W ls cs → eu W' ls cs
 | [], _, h => h
 | _ :: ls, _, ⟨c, r, e, hq, h⟩ => ⟨c, r, e, hq.upto hg hn hgr, eu.upto hg hn hgr (ls := ls) h⟩
theorem eu.len {W : World} : ∀ {ls : List jq} {cs : List Value}, eu W ls cs → cs.length = qm ls
 | [], _, h => by cases h; rfl
 | _ :: ls, _, ⟨c, r, e, hq, h⟩ => by subst e; rw [List.length_append, hq.len, eu.len (ls := ls) h]; rfl
theorem eu.app {W : World} {ks : List jq} {ds : List Value} (hd : eu W ks ds) : ∀ {ls : List jq} {cs : List Value}, eu W ls cs → eu W (ls ++ ks) (cs ++ ds)
 | [], _, h => by cases h; exact hd
 | _ :: ls, _, ⟨c, r, e, hq, h⟩ => ⟨c, r ++ ds, by rw [e, List.append_assoc], hq, eu.app hd (ls := ls) h⟩
theorem eu.cut {W : World} {ks : List jq} : ∀ {ls : List jq} {cs : List Value}, eu W (ls ++ ks) cs → ∃ c d, cs = c ++ d ∧ eu W ls c ∧ eu W ks d
 | [], cs, h => ⟨[], cs, rfl, rfl, h⟩
 | _ :: ls, _, ⟨c0, r, e, hq, h⟩ => by
  obtain ⟨c, d, e2, h1, h2⟩ := eu.cut (ls := ls) h
  exact ⟨c0 ++ c, d, by rw [e, e2, List.append_assoc], ⟨c0, c, rfl, hq, h1⟩, h2⟩
theorem eu.v {W : World} {u : Value} {ls : List jq} {cs : List Value} (hu : Ld u) (h : eu W ls cs) : eu W (.v u :: ls) (u :: cs) := ⟨[u], cs, rfl, ⟨rfl, hu⟩, h⟩
theorem eu.z {W : World} {n : Int} {s1 : Int} {n1 : Bool} {A1 : Option Addr} {c1 : Nat} {l1 : List Nat} {ls : List jq} {cs : List Value} (h1 : gu W s1 n1 A1 c1 l1 n) (h : eu W ls cs) : eu W (.z n :: ls) (.int .i64 s1 :: .bool n1 :: .slice A1 l1.length c1 :: cs) := ⟨[_, _, _], cs, rfl, ⟨_, _, _, _, _, rfl, h1⟩, h⟩
theorem eu.q {W : World} {x : Rat} {s1 : Int} {n1 : Bool} {A1 : Option Addr} {c1 : Nat} {l1 : List Nat} {s2 : Int} {n2 : Bool} {A2 : Option Addr} {c2 : Nat} {l2 : List Nat} {ls : List jq} {cs : List Value} (h1 : gu W s1 n1 A1 c1 l1 x.num) (h2 : gu W s2 n2 A2 c2 l2 (x.den : Int)) (h : eu W ls cs) : eu W (.q x :: ls) (.int .i64 s1 :: .bool n1 :: .slice A1 l1.length c1 :: .int .i64 s2 :: .bool n2 :: .slice A2 l2.length c2 :: cs) := ⟨[_, _, _, _, _, _], cs, rfl, ⟨_, _, _, _, _, _, _, _, _, _, rfl, h1, h2⟩, h⟩
theorem eu.r {W : World} {x : Rat} {A1 : Option Addr} {c1 : Nat} {l1 : List Nat} {m1 : Bool} {A2 : Option Addr} {c2 : Nat} {l2 : List Nat} {m2 : Bool} {ls : List jq} {cs : List Value} (h1 : QV W A1 c1 l1 m1 A2 c2 l2 m2 x) (h : eu W ls cs) : eu W (.r x :: ls) (.slice A1 l1.length c1 :: .bool m1 :: .slice A2 l2.length c2 :: .bool m2 :: cs) := ⟨[_, _, _, _], cs, rfl, ⟨_, _, _, _, _, _, _, _, rfl, h1⟩, h⟩
theorem eu.k {W : World} {κ : Kind} {c : List Value} {ls : List jq} {cs : List Value} (h1 : κ.ok W c) (h : eu W ls cs) : eu W (.k κ :: ls) (c ++ cs) := ⟨c, cs, rfl, h1, h⟩
theorem eu.adp {W : World} {x : Rat} {ls : List jq} {cs : List Value} (h : eu W (.r x :: ls) cs) : ∃ A1 c1 l1 m1 A2 c2 l2 m2 r, cs = .slice A1 (List.length l1) c1 :: .bool m1 :: .slice A2 (List.length l2) c2 :: .bool m2 :: r ∧ QV W A1 c1 l1 m1 A2 c2 l2 m2 x ∧ eu W ls r := by
 obtain ⟨c, r, rfl, ⟨A1, c1, l1, m1, A2, c2, l2, m2, rfl, h1⟩, h⟩ := h
 exact ⟨A1, c1, l1, m1, A2, c2, l2, m2, r, rfl, h1, h⟩
theorem eu.Dv {W : World} {u : Value} {ls : List jq} {cs : List Value} (h : eu W (.v u :: ls) cs) : ∃ r, cs = u :: r ∧ Ld u ∧ eu W ls r := by
 obtain ⟨c, r, rfl, ⟨rfl, hu⟩, h⟩ := h
 exact ⟨r, rfl, hu, h⟩
theorem eu.akt {W : World} {n : Int} {ls : List jq} {cs : List Value} (h : eu W (.z n :: ls) cs) : ∃ s1 n1 A1 c1 l1 r, cs = .int .i64 s1 :: .bool n1 :: .slice A1 (List.length l1) c1 :: r ∧ gu W s1 n1 A1 c1 l1 n ∧ eu W ls r := by
 obtain ⟨c, r, rfl, ⟨s1, n1, A1, c1, l1, rfl, h1⟩, h⟩ := h
 exact ⟨s1, n1, A1, c1, l1, r, rfl, h1, h⟩
theorem eu.awy {W : World} {x : Rat} {ls : List jq} {cs : List Value} (h : eu W (.q x :: ls) cs) : ∃ s1 n1 A1 c1 l1 s2 n2 A2 c2 l2 r, cs = .int .i64 s1 :: .bool n1 :: .slice A1 (List.length l1) c1 :: .int .i64 s2 :: .bool n2 :: .slice A2 (List.length l2) c2 :: r ∧ gu W s1 n1 A1 c1 l1 x.num ∧ gu W s2 n2 A2 c2 l2 (x.den : Int) ∧ eu W ls r := by
 obtain ⟨c, r, rfl, ⟨s1, n1, A1, c1, l1, s2, n2, A2, c2, l2, rfl, h1, h2⟩, h⟩ := h
 exact ⟨s1, n1, A1, c1, l1, s2, n2, A2, c2, l2, r, rfl, h1, h2, h⟩

def au (ls : List jq) : World → Value → Prop := fun W v => ∃ cs : List Value, v = .agg cs.toArray ∧ eu W ls cs
theorem ay (ls : List jq) : Rg.Eb dm (au ls) := by
 rintro w w' v hb ⟨cs, rfl, h⟩
 exact ⟨cs, rfl, h.below hb⟩
def Ka (W : World) : List (World → Value → Prop) → List Value → Prop
 | [], vs => vs = []
 | t :: ts, vs => ∃ u r, vs = u :: r ∧ t W u ∧ Ka W ts r
def jk (ts : List (World → Value → Prop)) : World → Value → Prop := fun W v => ∃ vs : List Value, v = .tuple vs.toArray ∧ Ka W ts vs
theorem Ka.below {W W' : World} (hb : dm W W') : ∀ {ts : List (World → Value → Prop)} {vs : List Value}, Rg.df dm ts → Ka W ts vs → Ka W' ts vs
 | [], _, _, h => h
 | _ :: ts, _, hs, ⟨u, r, e, h1, h2⟩ => ⟨u, r, e, hs.1 _ _ _ hb h1, Ka.below hb (ts := ts) hs.2 h2⟩
theorem il {ts : List (World → Value → Prop)} (hs : Rg.df dm ts) : Rg.Eb dm (jk ts) := by
 rintro w w' v hb ⟨vs, rfl, h⟩
 exact ⟨vs, rfl, Ka.below hb hs h⟩
theorem Ka.get {W : World} : ∀ {ts : List (World → Value → Prop)} {vs : List Value}, Ka W ts vs → ∀ i, i < ts.length → ∃ u, vs[i]? = some u ∧ Rg.pick ts i W u
 | [], _, _, i, hi => by simp at hi
 | t :: ts, _, ⟨u, r, e, h1, h2⟩, 0, _ => by subst e; exact ⟨u, rfl, h1⟩
 | t :: ts, _, ⟨u, r, e, h1, h2⟩, i + 1, hi => by
  subst e
  obtain ⟨u', h3, h4⟩ := Ka.get (ts := ts) h2 i (by simpa using hi)
  exact ⟨u', by simpa using h3, h4⟩

def uo (W : World) (b : Nat) (T : TypeId) (ls : List jq) : Prop := ∃ cs : List Value, W.heap[b]? = some (.cells cs.toArray T (0, 0)) ∧ eu W ls cs
theorem uo.lt {W : World} {b : Nat} {T : TypeId} {ls : List jq} (h : uo W b T ls) : b < W.heap.size := by obtain ⟨cs, h, _⟩ := h; exact lt_of_block h
theorem uo.below {W W' : World} {b : Nat} {T : TypeId} {ls : List jq} (h : uo W b T ls) (hb : Below W.heap.size W W') : uo W' b T ls := by
 obtain ⟨cs, h1, h2⟩ := h
 exact ⟨cs, (hb.block _ (lt_of_block h1)).trans h1, h2.below hb⟩
abbrev xx := Nat × TypeId × List jq
structure Own (w : World) (bs : List xx) (W : World) : Prop where
 bel : Below w.heap.size w W
 nd : (bs.map Prod.fst).Nodup
 box : ∀ b T ls, (b, T, ls) ∈ bs → w.heap.size ≤ b ∧ uo W b T ls
theorem Own.nil (w : World) : Own w [] w := ⟨Below.refl _ _, List.nodup_nil, fun b T ls h => by cases h⟩
theorem Own.step {w : World} {bs : List xx} : ∀ W W', Own w bs W → dm W W' → Own w bs W' := fun W W' h hb => ⟨bz h.bel hb, h.nd, fun b T ls hm => ⟨(h.box b T ls hm).1, (h.box b T ls hm).2.below hb⟩⟩
theorem Own.add {w W V : World} {bs : List xx} {b : Nat} {T : TypeId} {ls : List jq} (h : Own w bs V) (Uo : dm V W) (hb : V.heap.size ≤ b) (hq : uo W b T ls) : Own w ((b, T, ls) :: bs) W :=
 ⟨bz h.bel Uo, List.nodup_cons.2 ⟨fun hm => by
  obtain ⟨⟨b', T', ls'⟩, hp, he⟩ := List.mem_map.1 hm
  have := (h.box b' T' ls' hp).2.lt
  have : b' = b := he
  omega, h.nd⟩, fun b' T' ls' hm => by
  rcases List.mem_cons.1 hm with e | hm
  ·
   cases e; exact ⟨Nat.le_trans h.bel.size hb, hq⟩
  ·
   exact ((Own.step V W h Uo).box b' T' ls' hm)⟩
theorem Own.push {w W : World} {bs : List xx} {T : TypeId} {ls : List jq} {cs : List Value} (h : Own w bs W) (hv : eu W ls cs) (b : Nat) (hb : b = W.heap.size) : Own w ((b, T, ls) :: bs) (W.alloc (.cells cs.toArray T)) := by
 subst hb
 exact h.add ((Below.refl _ _).alloc (Nat.le_refl _) _) (Nat.le_refl _) ⟨cs, heap_alloc_new W _, hv.below ((Below.refl _ _).alloc (Nat.le_refl _) _)⟩
theorem Own.other {w W : World} {bs : List xx} (o : Obj) (h : Own w bs W) : Own w bs (W.alloc o) := Own.step _ _ h ((Below.refl _ _).alloc (Nat.le_refl _) _)
def setM (W : World) (b off : Nat) : List Value → World
 | [] => W
 | u :: r => setM (W.setCell ⟨b, off, none⟩ u) b (off + 1) r
theorem ym (b : Nat) : ∀ (us : List Value) (off : Nat) (W W' : World), W.grownBy W' (some b) → W.grownBy (setM W' b off us) (some b)
 | [], _, _, _, h => h
 | u :: r, off, W, W', h => ym b r (off + 1) W _ (lu h off u)
theorem aok {W : World} {b off : Nat} {u : Value} {T : TypeId} {cs : Array Value} (h : W.heap[b]? = some (.cells cs T (0, 0))) : (W.setCell ⟨b, off, none⟩ u).heap[b]? = some (.cells (cs.setIfInBounds off u) T (0, 0)) := by
 simp [World.setCell, Array.getElem?_modify, h]
theorem set_mid (c : List Value) (x u : Value) (d : List Value) : ((c ++ x :: d).toArray.setIfInBounds c.length u) = (c ++ u :: d).toArray := by
 simp
theorem Qx {b : Nat} {T : TypeId} : ∀ (us old : List Value) (c d : List Value) (W : World), us.length = old.length → W.heap[b]? = some (.cells (c ++ (old ++ d)).toArray T (0, 0)) → (setM W b c.length us).heap[b]? = some (.cells (c ++ (us ++ d)).toArray T (0, 0))
 | [], [], c, d, W, _, h => h
 | u :: us, o :: old, c, d, W, hl, h => by
  have h1 := aok (off := c.length) (u := u) h
  rw [List.cons_append, set_mid] at h1
  have h2 := Qx us old (c ++ [u]) d _ (by simpa using hl) (by simpa using h1)
  simpa [setM] using h2
 | [], _ :: _, _, _, _, hl, _ => by simp at hl
 | _ :: _, [], _, _, _, hl, _ => by simp at hl
theorem Own.set {w W : World} {xs ys : List xx} {b : Nat} {T : TypeId} {pre old new post : List jq} {us : List Value} {off : Nat} (h : Own w (xs ++ (b, T, pre ++ (old ++ post)) :: ys) W) (hv : eu W new us) (hl : qm new = qm old) (ho : off = qm pre) :
  Own w (xs ++ (b, T, pre ++ (new ++ post)) :: ys) (setM W b off us) := by
 obtain ⟨hge, cs, hb, hls⟩ := h.box b T _ (List.mem_append_right _ List.mem_cons_self)
 obtain ⟨c, cd, rfl, k1, k2⟩ := hls.cut
 obtain ⟨o, d, rfl, k3, k4⟩ := k2.cut
 have hg := ym b us off W W (qz _ _)
 have hnw : Ec (c ++ (o ++ d)) := hls.noW
 have hnd := h.nd
 rw [List.map_append, List.map_cons] at hnd
 have hn : ∀ b' T' q', (b', T', q') ∈ xs ++ ys → b' ≠ b := fun b' T' q' hm e => by
  subst e
  obtain ⟨_, h4, h5⟩ := List.nodup_append.1 hnd
  rcases List.mem_append.1 hm with hm | hm
  ·
   exact h5 b' (List.mem_map.2 ⟨_, hm, rfl⟩) b' List.mem_cons_self rfl
  ·
   exact (List.nodup_cons.1 h4).1 (List.mem_map.2 ⟨_, hm, rfl⟩)
 refine ⟨h.bel.grown hg h.bel.size (fun k hk => by injection hk with hk; omega), by rw [List.map_append, List.map_cons]; exact hnd, fun b' T' q' hm => ?_⟩
 have other : (b', T', q') ∈ xs ++ ys → (b', T', q') ∈ xs ++ (b, T, pre ++ (old ++ post)) :: ys → w.heap.size ≤ b' ∧ uo (setM W b off us) b' T' q' := fun h1 h2 => by
  obtain ⟨g1, cs', g2, g3⟩ := h.box b' T' q' h2
  exact ⟨g1, cs', (hg.block b' (lt_of_block g2) (fun e => hn _ _ _ h1 (by injection e))).trans g2, g3.upto hb hnw hg⟩
 rcases List.mem_append.1 hm with hm | hm
 ·
  exact other (List.mem_append_left _ hm) (List.mem_append_left _ hm)
 ·
  rcases List.mem_cons.1 hm with e | hm
  ·
   cases e
   refine ⟨hge, c ++ (us ++ d), ?_, (((k4.upto hb hnw hg).app (hv.upto hb hnw hg)).app (k1.upto hb hnw hg))⟩
   have := Qx (T := T) us o c d W (by rw [hv.len, hl, ← k3.len]) hb
   rwa [k1.len, ← ho] at this
  ·
   exact other (List.mem_append_right _ hm) (List.mem_append_right _ (List.mem_cons_of_mem _ hm))
theorem abp {W : World} {b off : Nat} {T : TypeId} {ls ks : List jq} {us : List Value} {v : Value} (h : uo W b T ls) (hv : au ks W v) : au ks (setM W b off us) v := by
 obtain ⟨cs, h1, h2⟩ := h
 obtain ⟨ds, e, h3⟩ := hv
 exact ⟨ds, e, h3.upto h1 h2.noW (ym b us off W W (qz _ _))⟩
def az (w : World) (bs : List xx) (V : World) : World → Prop := fun W => Own w bs W ∧ dm V W
theorem az.step {w V : World} {bs : List xx} : ∀ W W', az w bs V W → dm W W' → az w bs V W' := fun W W' h hb => ⟨Own.step W W' h.1 hb, bz h.2 hb⟩
theorem az.size {w V : World} {bs : List xx} : ∀ W, az w bs V W → V.heap.size ≤ W.heap.size := fun _ h => h.2.size
theorem az.start {w V : World} {bs : List xx} (h : Own w bs V) : az w bs V V.drew := ⟨Own.step _ _ h (dm.drew V), dm.drew V⟩
theorem az.begin {w V : World} {bs : List xx} (h : Own w bs V) : az w bs V V := ⟨h, Below.refl _ _⟩
theorem az.box {w V W : World} {bs : List xx} {b : Nat} {T : TypeId} {ls : List jq} (hm : (b, T, ls) ∈ bs) (h : az w bs V W) : uo W b T ls := (h.1.box b T ls hm).2
theorem az.bel {w V W : World} {bs : List xx} (h : az w bs V W) : Below w.heap.size w W := h.1.bel

def Dj (P : Program) (T : TypeId) (n : Nat) : Prop := ∀ (ρ : Operand → Value) (w : World) (d : Option Tmp) (x : Operand) (b off : Nat) (us : List Value) (ty : TypeId) (pos : String) (af : Array Edge) (gd : Option (Nat × Bool)), us.length = n → (∀ i, i < n → w.cell? ⟨b, off + i, none⟩ = us[i]?) → ρ x = .pointer (some ⟨b, off, none⟩) →
 (execOp ρ { dst := d, op := .load T x, type := ty, pos := pos, after := af, guard := gd }).run P w = .ok (.value (.agg us.toArray)) w
theorem Om {w : World} {b : Nat} {T : TypeId} {c m d : List Value} (h : w.heap[b]? = some (.cells (c ++ (m ++ d)).toArray T (0, 0))) (i : Nat) (hi : i < m.length) : w.cell? ⟨b, c.length + i, none⟩ = m[i]? := by
 rw [ah h]
 simp only [List.getElem?_toArray]
 rw [List.getElem?_append_right om, Nat.add_sub_cancel_left, List.getElem?_append_left hi]
theorem Pj {P : Program} {Q : Exit → Act → World → Prop} {l : List Oper} {n : Nat} {T : Nat → World → Value → Prop} {G : World → Prop} {al : List Nat} {a0 : Act} {k d b off m : Nat} {x : Operand} {TB TL : TypeId} {pre mid post : List jq} {ty : TypeId} {pos : String} {af : Array Edge} {gd : Option (Nat × Bool)}
  (hL : Dj P TL m) (hal : al.contains k = false) (hx : Rg.iq l n T a0 k x (Rg.ai (.pointer (some ⟨b, off, none⟩)))) (hb : ∀ W, G W → uo W b TB (pre ++ (mid ++ post))) (ho : qm pre = off) (hm : qm mid = m) (hT : T k = au mid) :
  Rg.Step P Q l n T G dm al a0 k { dst := some d, op := .load TL x, type := ty, pos := pos, after := af, guard := gd } := by
 intro a w hG hO hN
 obtain ⟨cs, h1, h2⟩ := hb w hG
 obtain ⟨c, cd, rfl, k1, k2⟩ := h2.cut
 obtain ⟨o, e, rfl, k3, k4⟩ := k2.cut
 have hlen : o.length = m := by rw [k3.len, hm]
 have hr := hL a.eval w (some d) x b off o ty pos af gd hlen (fun i hi => by
  have := Om h1 i om
  rwa [k1.len, ho] at this) (hx a w hO hN)
 exact jm hr ⟨_, rfl, hG, Below.refl _ _, by rw [hT]; exact ⟨o, rfl, k3⟩, fun h => by rw [hal] at h; cases h⟩
def adw (P : Program) (T : TypeId) : Prop := ∀ (ρ : Operand → Value) (w : World) (d : Option Tmp) (x : Operand) (b off : Nat) (u : Value) (ty : TypeId) (pos : String) (af : Array Edge) (gd : Option (Nat × Bool)), w.cell? ⟨b, off, none⟩ = some u → ρ x = .pointer (some ⟨b, off, none⟩) →
 (execOp ρ { dst := d, op := .load T x, type := ty, pos := pos, after := af, guard := gd }).run P w = .ok (.value u) w
theorem azb {P : Program} {Q : Exit → Act → World → Prop} {l : List Oper} {n : Nat} {T : Nat → World → Value → Prop} {G : World → Prop} {al : List Nat} {a0 : Act} {k d b off : Nat} {x : Operand} {TB TL : TypeId} {pre post : List jq} {u : Value} {ty : TypeId} {pos : String} {af : Array Edge} {gd : Option (Nat × Bool)}
  (hL : adw P TL) (hal : al.contains k = false) (hx : Rg.iq l n T a0 k x (Rg.ai (.pointer (some ⟨b, off, none⟩)))) (hb : ∀ W, G W → uo W b TB (pre ++ (.v u :: post))) (ho : qm pre = off) (hT : T k = Rg.ai u) :
  Rg.Step P Q l n T G dm al a0 k { dst := some d, op := .load TL x, type := ty, pos := pos, after := af, guard := gd } := by
 intro a w hG hO hN
 obtain ⟨cs, h1, h2⟩ := hb w hG
 obtain ⟨c, cd, rfl, k1, k2⟩ := h2.cut
 obtain ⟨r, rfl, _, k4⟩ := k2.Dv
 have hr := hL a.eval w (some d) x b off u ty pos af gd (by
  have := Om (m := [u]) (d := r) h1 0 (by simp)
  rw [k1.len, ho] at this; simpa using this) (hx a w hO hN)
 exact jm hr ⟨_, rfl, hG, Below.refl _ _, by rw [hT]; rfl, fun h => by rw [hal] at h; cases h⟩
def zq (P : Program) (T : TypeId) (n : Nat) : Prop := ∀ (ρ : Operand → Value) (w : World) (d : Option Tmp) (p x : Operand) (b off : Nat) (cs : List Value) (TB : TypeId) (us : List Value) (ty : TypeId) (pos : String) (af : Array Edge) (gd : Option (Nat × Bool)), us.length = n → (∀ u ∈ us, u.oneCell' = true) → w.heap[b]? = some (.cells cs.toArray TB (0, 0)) → off + n ≤ cs.length → ρ p = .pointer (some ⟨b, off, none⟩) → ρ x = .agg us.toArray →
 (execOp ρ { dst := d, op := .store T p x, type := ty, pos := pos, after := af, guard := gd }).run P w = .ok .skip (setM w b off us)
end Sb


namespace Sb
theorem Ha {W : World} {x : Rat} {v : Value} (h : au [.q x] W v) : ∃ s1 n1 A1 c1 l1 s2 n2 A2 c2 l2, v = .agg #[.int .i64 s1, .bool n1, .slice A1 (List.length l1) c1, .int .i64 s2, .bool n2, .slice A2 (List.length l2) c2] ∧ gu W s1 n1 A1 c1 l1 x.num ∧ gu W s2 n2 A2 c2 l2 (x.den : Int) := by
 obtain ⟨cs, rfl, h⟩ := h
 obtain ⟨s1, n1, A1, c1, l1, s2, n2, A2, c2, l2, r, rfl, h1, h2, h3⟩ := h.awy
 cases h3
 exact ⟨_, _, _, _, _, _, _, _, _, _, rfl, h1, h2⟩
theorem aag {W : World} {n : Int} {v : Value} (h : au [.z n] W v) : ∃ s1 n1 A1 c1 l1, v = .agg #[.int .i64 s1, .bool n1, .slice A1 (List.length l1) c1] ∧ gu W s1 n1 A1 c1 l1 n := by
 obtain ⟨cs, rfl, h⟩ := h
 obtain ⟨s1, n1, A1, c1, l1, r, rfl, h1, h3⟩ := h.akt
 cases h3
 exact ⟨_, _, _, _, _, rfl, h1⟩
theorem Ni {W : World} {a b : Int} {v : Value} (h : au [.z a, .z b] W v) : ∃ s1 n1 A1 c1 l1 s2 n2 A2 c2 l2, v = .agg #[.int .i64 s1, .bool n1, .slice A1 (List.length l1) c1, .int .i64 s2, .bool n2, .slice A2 (List.length l2) c2] ∧ gu W s1 n1 A1 c1 l1 a ∧ gu W s2 n2 A2 c2 l2 b := by
 obtain ⟨cs, rfl, h⟩ := h
 obtain ⟨s1, n1, A1, c1, l1, r, rfl, h1, h⟩ := h.akt
 obtain ⟨s2, n2, A2, c2, l2, r, rfl, h2, h⟩ := h.akt
 cases h
 exact ⟨_, _, _, _, _, _, _, _, _, _, rfl, h1, h2⟩
theorem blm {W : World} {x : Rat} {v : Value} (h : au [.q x] W v) : au [.z x.num, .z (x.den : Int)] W v := by
 obtain ⟨s1, n1, A1, c1, l1, s2, n2, A2, c2, l2, rfl, f1, f2⟩ := Ha h
 exact ⟨_, rfl, eu.z f1 (eu.z f2 rfl)⟩
theorem Fv {W : World} {a b : Value} {v : Value} (h : au [.v a, .v b] W v) : v = .agg #[a, b] := by
 obtain ⟨cs, rfl, h⟩ := h
 obtain ⟨r, rfl, _, h⟩ := h.Dv
 obtain ⟨r, rfl, _, h⟩ := h.Dv
 cases h; rfl
theorem bay (W : World) {a b : Value} (ha : Ld a) (hb : Ld b) : au [.v a, .v b] W (.agg #[a, b]) := ⟨[a, b], rfl, eu.v ha (eu.v hb rfl)⟩
theorem Af (W : World) (a b : Int) : au [.v (.int .i64 a), .v (.int .i64 b)] W (.agg #[.int .i64 a, .int .i64 b]) := bay W (iw _) (iw _)
theorem Xm {w w' : World} {q : Rat} {e : Ending} (h : Hd w q.num (q.den : Int) e w') : ik (au [.q q]) w e w' := by
 obtain ⟨s1, n1, A1, c1, l1, s2, n2, A2, c2, l2, rfl, h1, h2, hb⟩ := h
 exact ⟨_, rfl, hb, _, rfl, eu.q h1 h2 rfl⟩
theorem abg {w w' : World} {z : Int} {e : Ending} (h : Ce w z e w') : ik (au [.z z]) w e w' := by
 obtain ⟨s1, n1, A1, c1, l1, rfl, h1, hb⟩ := h
 exact ⟨_, rfl, hb, _, rfl, eu.z h1 rfl⟩
theorem apq {w w' : World} {a b : Int} {e : Ending} (h : ik (au [.z a, .z b]) w e w') : Hd w a b e w' := by
 obtain ⟨u, rfl, hb, h⟩ := h
 obtain ⟨s1, n1, A1, c1, l1, s2, n2, A2, c2, l2, rfl, f1, f2⟩ := Ni h
 exact ⟨_, _, _, _, _, _, _, _, _, _, rfl, f1, f2, hb⟩
theorem Zu {w w' : World} {u : Value} {e : Ending} (h : e = .returned u ∧ Below w.heap.size w w') : ik (Rg.ai u) w e w' := ⟨u, h.1, h.2, rfl⟩
theorem axz {F : Nat} {x q : Rat} {W : World} {v0 : Value} (h : Nk W F x q) (h0 : au [.q x] W v0) : Calls Tryz.prog F #[v0] W (ik (au [.q q]) W) := by
 obtain ⟨s1, n1, A1, c1, l1, s2, n2, A2, c2, l2, rfl, f1, f2⟩ := Ha h0
 exact (h _ _ _ _ _ _ _ _ _ _ W (Below.refl _ _) f1 f2).mono fun e w' h => Xm h
theorem anc {F : Nat} {x y q : Rat} {W : World} {v0 v1 : Value} (h : Fy W F x y q) (h0 : au [.q x] W v0) (h1 : au [.q y] W v1) : Calls Tryz.prog F #[v0, v1] W (ik (au [.q q]) W) := by
 obtain ⟨s1, n1, A1, c1, l1, s2, n2, A2, c2, l2, rfl, f1, f2⟩ := Ha h0
 obtain ⟨s3, n3, A3, c3, l3, s4, n4, A4, c4, l4, rfl, f3, f4⟩ := Ha h1
 exact (h _ _ _ _ _ _ _ _ _ _ _ _ _ _ _ _ _ _ _ _ W (Below.refl _ _) f1 f2 f3 f4).mono fun e w' h => Xm h
theorem bfm {F : Nat} {x y q : Int} {W : World} {v0 v1 : Value} (h : Ch W F x y q) (h0 : au [.z x] W v0) (h1 : au [.z y] W v1) : Calls Tryz.prog F #[v0, v1] W (ik (au [.z q]) W) := by
 obtain ⟨s1, n1, A1, c1, l1, rfl, f1⟩ := aag h0
 obtain ⟨s2, n2, A2, c2, l2, rfl, f2⟩ := aag h1
 exact (h _ _ _ _ _ _ _ _ _ _ W (Below.refl _ _) f1 f2).mono fun e w' h => abg h
theorem i2 {F : Nat} {x y q : Int} {w W : World} {v0 v1 : Value} (h : Ch w F x y q) (hb : Below w.heap.size w W) (h0 : au [.z x] W v0) (h1 : au [.z y] W v1) : Calls Tryz.prog F #[v0, v1] W (ik (au [.z q]) W) := by
 obtain ⟨s1, n1, A1, c1, l1, rfl, f1⟩ := aag h0
 obtain ⟨s2, n2, A2, c2, l2, rfl, f2⟩ := aag h1
 exact (h _ _ _ _ _ _ _ _ _ _ W hb f1 f2).mono fun e w' h => abg h
end Sb


namespace Sb
theorem jf {w : World} {b o : Nat} {cs : List Value} {T : TypeId} (h : w.heap[b]? = some (.cells cs.toArray T (0, 0))) (ho : o < cs.length) : ∃ c, w.cell? ⟨b, o, none⟩ = some c := by
 rw [ah h]
 exact ⟨cs[o], by simp [ho]⟩
def Iw (P : Program) (T : TypeId) (cs : List Value) : Prop := ∀ (ρ : Operand → Value) (w : World) (d : Option Tmp) (ty : TypeId) (pos : String) (af : Array Edge) (gd : Option (Nat × Bool)),
 (execOp ρ { dst := d, op := .alloc T, type := ty, pos := pos, after := af, guard := gd }).run P w = .ok (.value (.pointer (some ⟨w.heap.size, 0, none⟩))) (w.alloc (.cells cs.toArray T))
def nk (T : TypeId) (ls : List jq) (B : Nat) : World → Value → Prop := fun W v => ∃ b, v = .pointer (some ⟨b, 0, none⟩) ∧ B ≤ b ∧ uo W b T ls
theorem og (T : TypeId) (ls : List jq) (B : Nat) : Rg.Eb dm (nk T ls B) := by
 rintro w w' v hb ⟨b, rfl, h1, h2⟩
 exact ⟨b, rfl, h1, h2.below hb⟩
theorem afh (s : ByteArray) : Ld (.string s) := ⟨fun m h => by simp at h, rfl, fun m h => by simp at h⟩
def okV : Value → Bool
 | .int .i64 _ => true
 | .string _ => true
 | .bool _ => true
 | .slice _ _ _ => true
 | .pointer _ => true
 | _ => false
theorem atv {u : Value} (h : okV u = true) : Ld u := by
 unfold okV at h
 split at h
 ·
  exact iw _
 ·
  exact afh _
 ·
  exact Tz _
 ·
  exact Ty _ _ _
 ·
  exact bcw _
 ·
  cases h
theorem eu.vs (W : World) : ∀ (us : List Value), us.all okV = true → eu W (us.map .v) us
 | [], _ => rfl
 | u :: us, h => by
  rw [List.all_cons, Bool.and_eq_true] at h
  exact eu.v (atv h.1) (eu.vs W us h.2)
theorem qd {P : Program} {Q : Exit → Act → World → Prop} {l : List Oper} {n : Nat} {T : Nat → World → Value → Prop} {G : World → Prop} {al : List Nat} {a0 : Act} {k d : Nat} {ty : TypeId} {pos : String} {af : Array Edge} {gd : Option (Nat × Bool)} {B : Nat} {TL : TypeId} {cs : List Value} (hN : Iw P TL cs) (hw : cs.all okV = true)
  (Ir : ∀ W W', G W → dm W W' → G W') (hB : ∀ W, G W → B ≤ W.heap.size) (hT : T k = nk TL (cs.map .v) B) (hlt : ∀ j W u, al.contains j = true → T j W u → ∃ b, u = .pointer (some ⟨b, 0, none⟩) ∧ b < W.heap.size) :
  Rg.Step P Q l n T G dm al a0 k { dst := some d, op := .alloc TL, type := ty, pos := pos, after := af, guard := gd } := by
 refine awr (N := nk TL (cs.map .v)) (B := B) ?_ Ir hB hT hlt
 intro a w
 exact ⟨_, (Below.refl _ _).alloc (Nat.le_refl _) _, fun hB => ⟨w.heap.size, rfl, hB, cs, heap_alloc_new w _, eu.vs _ cs hw⟩, hN a.eval w (some d) ty pos af gd⟩
def bib (t : World → Value → Prop) : Prop := ∃ TL ls B, t = nk TL ls B
theorem rq {T : Nat → World → Value → Prop} {js : List Nat} (h : ∀ j, js.contains j = true → bib (T j)) : ∀ j W u, js.contains j = true → T j W u → ∃ b, u = .pointer (some ⟨b, 0, none⟩) ∧ b < W.heap.size := fun j W u hj ht => by
 obtain ⟨TL, ls, B, e⟩ := h j hj
 rw [e] at ht
 obtain ⟨b, h1, _, h2⟩ := ht
 exact ⟨b, h1, h2.lt⟩
theorem Own.ani {w W V : World} {bs : List xx} {b b' : Nat} {T T' : TypeId} {ls ls' : List jq} (h : Own w bs V) (Uo : dm V W) (hb : V.heap.size ≤ b) (hq : uo W b T ls) (hb' : V.heap.size ≤ b') (hq' : uo W b' T' ls') (hne : b' ≠ b) : Own w ((b', T', ls') :: (b, T, ls) :: bs) W := by
 have h1 := Own.add h Uo hb hq
 have h2 := Own.add h Uo hb' hq'
 refine ⟨h1.bel, List.nodup_cons.2 ⟨fun hm => ?_, h1.nd⟩, fun c p q hm => ?_⟩
 ·
  rw [List.map_cons] at hm
  rcases List.mem_cons.1 hm with e | hm
  ·
   exact hne e
  ·
   exact (List.nodup_cons.1 h2.nd).1 hm
 ·
  rcases List.mem_cons.1 hm with e | hm
  ·
   cases e; exact h2.box _ _ _ List.mem_cons_self
  ·
   exact h1.box _ _ _ hm
def Dn (P : Program) (o : Operand → Op) (ame : Nat) : Prop := ∀ (a : Act) (w : World) (d : Option Tmp) (x : Operand) (b off : Nat) (ty : TypeId) (pos : String) (af : Array Edge) (gd : Option (Nat × Bool)), a.eval x = .pointer (some ⟨b, off, none⟩) →
 (execOp a.eval { dst := d, op := o x, type := ty, pos := pos, after := af, guard := gd }).run P w = .ok (.value (.pointer (some ⟨b, off + ame, none⟩))) w
theorem Ee {P : Program} {Q : Exit → Act → World → Prop} {l : List Oper} {n : Nat} {T : Nat → World → Value → Prop} {G : World → Prop} {al : List Nat} {a0 : Act} {k d : Nat} {ty : TypeId} {pos : String} {af : Array Edge} {gd : Option (Nat × Bool)} {b off off' ame : Nat} {x : Operand} {o : Operand → Op} (hA : Dn P o ame) (hal : al.contains k = false) (hx : Rg.iq l n T a0 k x (Rg.ai (.pointer (some ⟨b, off, none⟩)))) (ho : off + ame = off') (hT : T k = Rg.ai (.pointer (some ⟨b, off', none⟩))) :
  Rg.Step P Q l n T G dm al a0 k { dst := some d, op := o x, type := ty, pos := pos, after := af, guard := gd } := by
 intro a w hG hO hN
 exact jm (hA a w (some d) x b off ty pos af gd (hx a w hO hN)) ⟨_, rfl, hG, Below.refl _ _, by rw [hT, ho]; rfl, fun h => by rw [hal] at h; cases h⟩
def Qm (P : Program) (T : TypeId) (m1 m2 : Nat) : Prop := ∀ (ρ : Operand → Value) (w : World) (d : Option Tmp) (x y : Operand) (us vs : List Value) (ty : TypeId) (pos : String) (af : Array Edge) (gd : Option (Nat × Bool)), us.length = m1 → vs.length = m2 → ρ x = .agg us.toArray → ρ y = .agg vs.toArray →
 (execOp ρ { dst := d, op := .build T #[(0, x), (1, y)], type := ty, pos := pos, after := af, guard := gd }).run P w = .ok (.value (.agg (us ++ vs).toArray)) w
theorem Bv {P : Program} {Q : Exit → Act → World → Prop} {l : List Oper} {n : Nat} {T : Nat → World → Value → Prop} {G : World → Prop} {al : List Nat} {a0 : Act} {k d : Nat} {ty : TypeId} {pos : String} {af : Array Edge} {gd : Option (Nat × Bool)} {m1 m2 : Nat} {x y : Operand} {TL : TypeId} {ls ks : List jq} (hB : Qm P TL m1 m2) (hal : al.contains k = false) (hx : Rg.iq l n T a0 k x (au ls)) (hy : Rg.iq l n T a0 k y (au ks)) (h1 : qm ls = m1) (h2 : qm ks = m2) (hT : T k = au (ls ++ ks)) :
  Rg.Step P Q l n T G dm al a0 k { dst := some d, op := .build TL #[(0, x), (1, y)], type := ty, pos := pos, after := af, guard := gd } := by
 intro a w hG hO hN
 obtain ⟨us, e1, g1⟩ := hx a w hO hN
 obtain ⟨vs, e2, g2⟩ := hy a w hO hN
 exact jm (hB a.eval w (some d) x y us vs ty pos af gd (by rw [g1.len, h1]) (by rw [g2.len, h2]) e1 e2) ⟨_, rfl, hG, Below.refl _ _, by rw [hT]; exact ⟨_, rfl, g2.app g1⟩, fun h => by rw [hal] at h; cases h⟩
def aao (P : Program) (T : TypeId) (cs : List Value) : Prop := ∀ (ρ : Operand → Value) (w : World) (d : Option Tmp) (ty : TypeId) (pos : String) (af : Array Edge) (gd : Option (Nat × Bool)),
 (execOp ρ { dst := d, op := .build T #[], type := ty, pos := pos, after := af, guard := gd }).run P w = .ok (.value (.agg cs.toArray)) w
theorem Fb {P : Program} {Q : Exit → Act → World → Prop} {l : List Oper} {n : Nat} {T : Nat → World → Value → Prop} {G : World → Prop} {al : List Nat} {a0 : Act} {k d : Nat} {ty : TypeId} {pos : String} {af : Array Edge} {gd : Option (Nat × Bool)} {TL : TypeId} {cs : List Value} (hB : aao P TL cs) (hal : al.contains k = false) (hw : cs.all okV = true) (hT : T k = au (cs.map .v)) :
  Rg.Step P Q l n T G dm al a0 k { dst := some d, op := .build TL #[], type := ty, pos := pos, after := af, guard := gd } := by
 intro a w hG hO hN
 exact jm (hB a.eval w (some d) ty pos af gd) ⟨_, rfl, hG, Below.refl _ _, by rw [hT]; exact ⟨_, rfl, eu.vs _ cs hw⟩, fun h => by rw [hal] at h; cases h⟩
def Sn (T : TypeId) (m : Nat) (ls : List jq) : World → Value → Prop := fun W v => ∃ b, v = .slice (some ⟨b, 0, none⟩) m m ∧ uo W b T ls
theorem Gf (T : TypeId) (m : Nat) (ls : List jq) : Rg.Eb dm (Sn T m ls) := by
 rintro w w' v hb ⟨b, rfl, h2⟩
 exact ⟨b, rfl, h2.below hb⟩
def abu (ρ : Operand → Value) (ms : Nat) : Nat → List (Nat × Operand) → List Value → Prop
 | _, [], cs => cs = []
 | i, p :: ps, cs => ∃ us r, cs = us ++ r ∧ us.length = ms ∧ p.1 = i ∧ ρ p.2 = .agg us.toArray ∧ abu ρ ms (i + 1) ps r
def aks (P : Program) (TS TE : TypeId) (m ms : Nat) : Prop := ∀ (ρ : Operand → Value) (w : World) (d : Option Tmp) (ps : List (Nat × Operand)) (cs : List Value) (ty : TypeId) (pos : String) (af : Array Edge) (gd : Option (Nat × Bool)), ps.length = m → abu ρ ms 0 ps cs →
 (execOp ρ { dst := d, op := .buildSlice TS m ps.toArray, type := ty, pos := pos, after := af, guard := gd }).run P w = .ok (.value (.slice (some ⟨w.heap.size, 0, none⟩) m m)) (w.alloc (.cells cs.toArray TE))
def qj (l : List Oper) (n : Nat) (T : Nat → World → Value → Prop) (a0 : Act) (k ms : Nat) : Nat → List (Nat × Operand) → List (List jq) → Prop
 | _, [], gs => gs = []
 | i, p :: ps, gs => ∃ g r, gs = g :: r ∧ qm g = ms ∧ p.1 = i ∧ Rg.iq l n T a0 k p.2 (au g) ∧ qj l n T a0 k ms (i + 1) ps r
theorem qj.nil {l : List Oper} {n : Nat} {T : Nat → World → Value → Prop} {a0 : Act} {k ms i : Nat} : qj l n T a0 k ms i [] [] := rfl
theorem qj.cons {l : List Oper} {n : Nat} {T : Nat → World → Value → Prop} {a0 : Act} {k ms i : Nat} {x : Operand} {ps : List (Nat × Operand)} {g : List jq} {r : List (List jq)} (h : Rg.iq l n T a0 k x (au g)) (hm : qm g = ms) (hr : qj l n T a0 k ms (i + 1) ps r) : qj l n T a0 k ms i ((i, x) :: ps) (g :: r) := ⟨g, r, rfl, hm, rfl, h, hr⟩
theorem afc {l : List Oper} {n : Nat} {T : Nat → World → Value → Prop} {a0 a : Act} {k ms : Nat} {w : World} (hO : ∀ t, Rg.Ev l n t = true → a.tmps.getD t undef = a0.tmps.getD t undef) (hN : ∀ j d, Rg.waits l k j d = true → T j w (a.tmps.getD d undef)) :
  ∀ {ps : List (Nat × Operand)} {gs : List (List jq)} {i : Nat}, qj l n T a0 k ms i ps gs → ∃ cs, abu a.eval ms i ps cs ∧ eu w gs.flatten cs
 | [], _, _, h => by cases h; exact ⟨[], rfl, rfl⟩
 | p :: ps, _, i, ⟨g, r, e, h1, h2, h3, h4⟩ => by
  subst e
  obtain ⟨cs, k1, k2⟩ := afc hO hN (ps := ps) h4
  obtain ⟨us, e1, g1⟩ := h3 a w hO hN
  exact ⟨us ++ cs, ⟨us, cs, rfl, by rw [g1.len, h1], h2, e1, k1⟩, k2.app g1⟩
theorem Cn {P : Program} {Q : Exit → Act → World → Prop} {l : List Oper} {n : Nat} {T : Nat → World → Value → Prop} {G : World → Prop} {al : List Nat} {a0 : Act} {k d : Nat} {ty : TypeId} {pos : String} {af : Array Edge} {gd : Option (Nat × Bool)} {TS TE : TypeId} {m ms : Nat} {ps : List (Nat × Operand)} {gs : List (List jq)} (hB : aks P TS TE m ms) (hal : al.contains k = false) (Ir : ∀ W W', G W → dm W W' → G W') (hm : ps.length = m) (ha : qj l n T a0 k ms 0 ps gs) (hT : T k = Sn TE m gs.flatten) :
  Rg.Step P Q l n T G dm al a0 k { dst := some d, op := .buildSlice TS m ps.toArray, type := ty, pos := pos, after := af, guard := gd } := by
 intro a w hG hO hN
 obtain ⟨cs, h1, h2⟩ := afc hO hN ha
 have hb : dm w (w.alloc (.cells cs.toArray TE)) := (Below.refl _ _).alloc (Nat.le_refl _) _
 exact jm (hB a.eval w (some d) ps cs ty pos af gd hm h1) ⟨_, rfl, Ir _ _ hG hb, hb, by rw [hT]; exact ⟨w.heap.size, rfl, cs, heap_alloc_new w _, h2.below hb⟩, fun h => by rw [hal] at h; cases h⟩
theorem iy {P : Program} {Q : Exit → Act → World → Prop} {l : List Oper} {n : Nat} {T : Nat → World → Value → Prop} {G : World → Prop} {al : List Nat} {a0 : Act} {k d : Nat} {ty : TypeId} {pos : String} {af : Array Edge} {gd : Option (Nat × Bool)} {x : Operand} {ts : List (World → Value → Prop)} {i : Nat} (hal : al.contains k = false) (hx : Rg.iq l n T a0 k x (jk ts)) (hi : i < ts.length) (hT : T k = Rg.pick ts i) :
  Rg.Step P Q l n T G dm al a0 k { dst := some d, op := .extract x i, type := ty, pos := pos, after := af, guard := gd } :=
 bha hal hx (fun W v ⟨vs, h1, h2⟩ => by
  obtain ⟨u, h3, h4⟩ := h2.get i hi
  exact ⟨vs.toArray, h1, u, by simpa using h3, by rw [hT]; exact h4⟩)
theorem ass {P : Program} {ops : Array Oper} {Q : Exit → Act → World → Prop} {rest : List Oper} {a : Act} {w0 w : World} {TL TB : TypeId} {p x : Operand} {m b off : Nat} {xs ys : List xx} {pre old new post : List jq} {ty : TypeId} {pos : String} {af : Array Edge}
  (hS : zq P TL m) (hp : a.eval p = .pointer (some ⟨b, off, none⟩)) (hv : au new w (a.eval x)) (hO : Own w0 (xs ++ (b, TB, pre ++ (old ++ post)) :: ys) w) (hm : qm new = m) (hl : qm new = qm old) (ho : off = qm pre)
  (hk : ∀ w', Own w0 (xs ++ (b, TB, pre ++ (new ++ post)) :: ys) w' → (∀ ks u, au ks w u → au ks w' u) → wpList P ops Q rest a w') :
  wpList P ops Q ({ dst := none, op := .store TL p x, type := ty, pos := pos, after := af, guard := none } :: rest) a w := by
 obtain ⟨us, e, hu⟩ := hv
 have hbx := hO.box b TB _ (List.mem_append_right _ List.mem_cons_self)
 obtain ⟨hge, cs, hb, hls⟩ := hbx
 have hr := hS a.eval w none p x b off cs TB us ty pos af none (by rw [hu.len, hm]) (fun u h => (hu.noW u h).2.1) hb (by
  have h1 := hls.len
  obtain ⟨c, cd, rfl, k1, k2⟩ := hls.cut
  obtain ⟨o, d, rfl, k3, k4⟩ := k2.cut
  have e1 := k1.len
  have e3 := k3.len
  simp only [List.length_append]
  omega) hp e
 unfold wpList
 rw [if_pos (by simp [Region.wanted])]
 refine .inl ?_
 unfold Oper.wp
 rw [hr]
 exact hk _ (hO.set hu hl ho) (fun ks u h => abp ⟨cs, hb, hls⟩ h)
theorem qp : Dj Tryz.prog 77 3 := by
 intro ρ w d x b off us ty pos af gd hl hc hx
 match us, hl with
 | [u0, u1, u2], _ =>
 have k0 : w.cell? ⟨b, off, none⟩ = some u0 := hc 0 om
 have k1 : w.cell? ⟨b, off + 1, none⟩ = some u1 := hc 1 om
 have k2 : w.cell? ⟨b, off + 2, none⟩ = some u2 := hc 2 om
 clear hc
 simp only [execOp, hx]
 simp [go_sem, k0, k1, k2]
theorem Gp : Dj Tryz.prog 79 6 := by
 intro ρ w d x b off us ty pos af gd hl hc hx
 match us, hl with
 | [u0, u1, u2, u3, u4, u5], _ =>
 have k0 : w.cell? ⟨b, off, none⟩ = some u0 := hc 0 om
 have k1 : w.cell? ⟨b, off + 1, none⟩ = some u1 := hc 1 om
 have k2 : w.cell? ⟨b, off + 2, none⟩ = some u2 := hc 2 om
 have k3 : w.cell? ⟨b, off + 3, none⟩ = some u3 := hc 3 om
 have k4 : w.cell? ⟨b, off + 4, none⟩ = some u4 := hc 4 om
 have k5 : w.cell? ⟨b, off + 5, none⟩ = some u5 := hc 5 om
 clear hc
 simp only [execOp, hx]
 simp [go_sem, k0, k1, k2, k3, k4, k5]
theorem qi : Dj Tryz.prog 23 2 := by
 intro ρ w d x b off us ty pos af gd hl hc hx
 match us, hl with
 | [u0, u1], _ =>
 have k0 : w.cell? ⟨b, off, none⟩ = some u0 := hc 0 om
 have k1 : w.cell? ⟨b, off + 1, none⟩ = some u1 := hc 1 om
 clear hc
 simp only [execOp, hx]
 simp [go_sem, k0, k1]
theorem Em : zq Tryz.prog 77 3 := by
 intro ρ w d p x b off cs TB us ty pos af gd hl hu hb ho hp hx
 match us, hl with
 | [u0, u1, u2], _ =>
 have o0 := hu u0 (by simp)
 have o1 := hu u1 (by simp)
 have o2 := hu u2 (by simp)
 have f0 : w.frozen? ⟨b, off, none⟩ = false := ax hb _
 have f1 : w.frozen? ⟨b, off + 1, none⟩ = false := ax hb _
 have f2 : w.frozen? ⟨b, off + 2, none⟩ = false := ax hb _
 obtain ⟨c0, k0⟩ : ∃ c, w.cell? ⟨b, off, none⟩ = some c := jf hb om
 obtain ⟨c1, k1⟩ : ∃ c, w.cell? ⟨b, off + 1, none⟩ = some c := jf hb om
 obtain ⟨c2, k2⟩ : ∃ c, w.cell? ⟨b, off + 2, none⟩ = some c := jf hb om
 have hlt := lt_of_block hb
 clear hb ho hu
 simp only [execOp, hp, hx, setM]
 simp [go_sem, hlt, run_store _ _ _ _ _ o0, o0, run_store _ _ _ _ _ o1, o1, run_store _ _ _ _ _ o2, o2, k0, k1, k2, f0, f1, f2]
theorem Ht : zq Tryz.prog 79 6 := by
 intro ρ w d p x b off cs TB us ty pos af gd hl hu hb ho hp hx
 match us, hl with
 | [u0, u1, u2, u3, u4, u5], _ =>
 have o0 := hu u0 (by simp)
 have o1 := hu u1 (by simp)
 have o2 := hu u2 (by simp)
 have o3 := hu u3 (by simp)
 have o4 := hu u4 (by simp)
 have o5 := hu u5 (by simp)
 have f0 : w.frozen? ⟨b, off, none⟩ = false := ax hb _
 have f1 : w.frozen? ⟨b, off + 1, none⟩ = false := ax hb _
 have f2 : w.frozen? ⟨b, off + 2, none⟩ = false := ax hb _
 have f3 : w.frozen? ⟨b, off + 3, none⟩ = false := ax hb _
 have f4 : w.frozen? ⟨b, off + 4, none⟩ = false := ax hb _
 have f5 : w.frozen? ⟨b, off + 5, none⟩ = false := ax hb _
 obtain ⟨c0, k0⟩ : ∃ c, w.cell? ⟨b, off, none⟩ = some c := jf hb om
 obtain ⟨c1, k1⟩ : ∃ c, w.cell? ⟨b, off + 1, none⟩ = some c := jf hb om
 obtain ⟨c2, k2⟩ : ∃ c, w.cell? ⟨b, off + 2, none⟩ = some c := jf hb om
 obtain ⟨c3, k3⟩ : ∃ c, w.cell? ⟨b, off + 3, none⟩ = some c := jf hb om
 obtain ⟨c4, k4⟩ : ∃ c, w.cell? ⟨b, off + 4, none⟩ = some c := jf hb om
 obtain ⟨c5, k5⟩ : ∃ c, w.cell? ⟨b, off + 5, none⟩ = some c := jf hb om
 have hlt := lt_of_block hb
 clear hb ho hu
 simp only [execOp, hp, hx, setM]
 simp [go_sem, hlt, run_store _ _ _ _ _ o0, o0, run_store _ _ _ _ _ o1, o1, run_store _ _ _ _ _ o2, o2, run_store _ _ _ _ _ o3, o3, run_store _ _ _ _ _ o4, o4, run_store _ _ _ _ _ o5, o5, k0, k1, k2, k3, k4, k5, f0, f1, f2, f3, f4, f5]
theorem uq : zq Tryz.prog 23 2 := by
 intro ρ w d p x b off cs TB us ty pos af gd hl hu hb ho hp hx
 match us, hl with
 | [u0, u1], _ =>
 have o0 := hu u0 (by simp)
 have o1 := hu u1 (by simp)
 have f0 : w.frozen? ⟨b, off, none⟩ = false := ax hb _
 have f1 : w.frozen? ⟨b, off + 1, none⟩ = false := ax hb _
 obtain ⟨c0, k0⟩ : ∃ c, w.cell? ⟨b, off, none⟩ = some c := jf hb om
 obtain ⟨c1, k1⟩ : ∃ c, w.cell? ⟨b, off + 1, none⟩ = some c := jf hb om
 have hlt := lt_of_block hb
 clear hb ho hu
 simp only [execOp, hp, hx, setM]
 simp [go_sem, hlt, run_store _ _ _ _ _ o0, o0, run_store _ _ _ _ _ o1, o1, k0, k1, f0, f1]
theorem Ob : Iw Tryz.prog 77 [.int .i64 0, .bool false, .slice none 0 0] := by
 intro ρ w d ty pos af gd
 simp only [execOp]
 simp [go_sem]
theorem Gy : Iw Tryz.prog 23 [.int .i64 0, .int .i64 0] := by
 intro ρ w d ty pos af gd
 simp only [execOp]
 simp [go_sem]
theorem Hm : aao Tryz.prog 23 [.int .i64 0, .int .i64 0] := by
 intro ρ w d ty pos af gd
 simp only [execOp]
 simp [go_sem]
 try rfl
theorem bbg : Dn Tryz.prog (fun x => .fieldAddr 79 x 0) 0 := by
 intro a w d x b off ty pos af gd hx
 have hc : ∀ v, a.eval (.const v) = v := fun _ => rfl
 simp only [execOp, hx, hc]
 simp [go_sem]
theorem Fe {Q : Exit → Act → World → Prop} {l : List Oper} {n : Nat} {T : Nat → World → Value → Prop} {G : World → Prop} {al : List Nat} {a0 : Act} {k d : Nat} {ty : TypeId} {pos : String} {af : Array Edge} {gd : Option (Nat × Bool)} {b off off' : Nat} {x : Operand} (hal : al.contains k = false) (hx : Rg.iq l n T a0 k x (Rg.ai (.pointer (some ⟨b, off, none⟩)))) (ho : off + 0 = off') (hT : T k = Rg.ai (.pointer (some ⟨b, off', none⟩))) :
  Rg.Step Tryz.prog Q l n T G dm al a0 k { dst := some d, op := .fieldAddr 79 x 0, type := ty, pos := pos, after := af, guard := gd } := by
 exact Ee (P := Tryz.prog) (o := fun x => .fieldAddr 79 x 0) bbg hal hx ho hT
theorem bbf : Dn Tryz.prog (fun x => .fieldAddr 79 x 1) 3 := by
 intro a w d x b off ty pos af gd hx
 have hc : ∀ v, a.eval (.const v) = v := fun _ => rfl
 simp only [execOp, hx, hc]
 simp [go_sem]
theorem Bl {Q : Exit → Act → World → Prop} {l : List Oper} {n : Nat} {T : Nat → World → Value → Prop} {G : World → Prop} {al : List Nat} {a0 : Act} {k d : Nat} {ty : TypeId} {pos : String} {af : Array Edge} {gd : Option (Nat × Bool)} {b off off' : Nat} {x : Operand} (hal : al.contains k = false) (hx : Rg.iq l n T a0 k x (Rg.ai (.pointer (some ⟨b, off, none⟩)))) (ho : off + 3 = off') (hT : T k = Rg.ai (.pointer (some ⟨b, off', none⟩))) :
  Rg.Step Tryz.prog Q l n T G dm al a0 k { dst := some d, op := .fieldAddr 79 x 1, type := ty, pos := pos, after := af, guard := gd } := by
 exact Ee (P := Tryz.prog) (o := fun x => .fieldAddr 79 x 1) bbf hal hx ho hT
theorem bbe : Dn Tryz.prog (fun x => .fieldAddr 23 x 0) 0 := by
 intro a w d x b off ty pos af gd hx
 have hc : ∀ v, a.eval (.const v) = v := fun _ => rfl
 simp only [execOp, hx, hc]
 simp [go_sem]
theorem Kc {Q : Exit → Act → World → Prop} {l : List Oper} {n : Nat} {T : Nat → World → Value → Prop} {G : World → Prop} {al : List Nat} {a0 : Act} {k d : Nat} {ty : TypeId} {pos : String} {af : Array Edge} {gd : Option (Nat × Bool)} {b off off' : Nat} {x : Operand} (hal : al.contains k = false) (hx : Rg.iq l n T a0 k x (Rg.ai (.pointer (some ⟨b, off, none⟩)))) (ho : off + 0 = off') (hT : T k = Rg.ai (.pointer (some ⟨b, off', none⟩))) :
  Rg.Step Tryz.prog Q l n T G dm al a0 k { dst := some d, op := .fieldAddr 23 x 0, type := ty, pos := pos, after := af, guard := gd } := by
 exact Ee (P := Tryz.prog) (o := fun x => .fieldAddr 23 x 0) bbe hal hx ho hT
end Sb


namespace Sb
def Kb (P : Program) (T : TypeId) (n : Nat) : Prop := ∀ (w : World) (b off : Nat) (us : List Value), us.length = n → (∀ i, i < n → w.cell? ⟨b, off + i, none⟩ = us[i]?) → (loadVar T ⟨b, off, none⟩).run P w = .ok (.agg us.toArray) w
theorem uo.axg {P : Program} {w : World} {b : Nat} {TB T : TypeId} {ls : List jq} {n : Nat} (h : uo w b TB ls) (hL : Kb P T n) (hn : qm ls = n) : ∃ cs : List Value, (loadVar T ⟨b, 0, none⟩).run P w = .ok (.agg cs.toArray) w ∧ eu w ls cs := by
 obtain ⟨cs, h1, h2⟩ := h
 have h3 := hL w b 0 cs (by rw [h2.len, hn]) (fun i hi => by
  have e : cs.length = n := by rw [h2.len, hn]
  have := Om (c := []) (m := cs) (d := []) (by simpa using h1) i om
  simpa using this)
 exact ⟨cs, h3, h2⟩
section
variable {P : Program} {fn : Func} {a : Act} {w w0 : World} {bs : List xx} {s s2 t t2 b b2 : Nat} {TB T TB2 T2 : TypeId} {ls ls2 : List jq} {n n2 : Nat} {u u2 : Value}
theorem yu (hr : fn.results = #[.tmp t]) (ht : a.tmps.getD t undef = u) (hB : Below w0.heap.size w0 w) (hd : a.defers = []) : bodyPost P fn (ik (Rg.ai u) w0) .ret a w :=
 bodyPost_ret (v := u) (by simp only [results, hr]; simp [go_sem]; simpa using ht) hd ⟨u, rfl, hB, rfl⟩
theorem Am (hr : fn.results = #[.cell s T]) (hL : Kb P T n) (ht : a.tmps.getD s undef = .pointer (some ⟨b, 0, none⟩)) (hO : Own w0 bs w) (hm : (b, TB, ls) ∈ bs) (hn : qm ls = n) (hd : a.defers = []) : bodyPost P fn (ik (au ls) w0) .ret a w := by
 obtain ⟨cs, h1, h2⟩ := (hO.box b TB ls hm).2.axg hL hn
 refine bodyPost_ret (v := .agg cs.toArray) ?_ hd ⟨_, rfl, hO.bel, cs, rfl, h2⟩
 rw [Array.getD_eq_getD_getElem?] at ht
 simp only [results, hr]
 clear hO hL
 generalize loadVar = ldv at *
 simp [ht, go_sem, h1]
theorem oz (hr : fn.results = #[.cell s T, .tmp t]) (hL : Kb P T n) (ht : a.tmps.getD s undef = .pointer (some ⟨b, 0, none⟩)) (hu : a.tmps.getD t undef = u) (hO : Own w0 bs w) (hm : (b, TB, ls) ∈ bs) (hn : qm ls = n) (hd : a.defers = []) : bodyPost P fn (ik (jk [au ls, Rg.ai u]) w0) .ret a w := by
 obtain ⟨cs, h1, h2⟩ := (hO.box b TB ls hm).2.axg hL hn
 refine bodyPost_ret (v := .tuple [.agg cs.toArray, u].toArray) ?_ hd ⟨_, rfl, hO.bel, _, rfl, ⟨_, _, rfl, ⟨cs, rfl, h2⟩, _, _, rfl, rfl, rfl⟩⟩
 rw [Array.getD_eq_getD_getElem?] at ht hu
 simp only [results, hr]
 clear hO hL
 generalize loadVar = ldv at *
 simp [ht, hu, go_sem, h1]
theorem Zv {P : Program} {fn : Func} {a : Act} {w w0 : World} {t t2 : Nat} {u u2 : Value} (hr : fn.results = #[.tmp t, .tmp t2]) (ht : a.tmps.getD t undef = u) (ht2 : a.tmps.getD t2 undef = u2) (hB : Below w0.heap.size w0 w) (hd : a.defers = []) : bodyPost P fn (ik (jk [Rg.ai u, Rg.ai u2]) w0) .ret a w :=
 bodyPost_ret (v := .tuple #[u, u2]) (by rw [results_tmp2 hr, ht, ht2]) hd ⟨_, rfl, hB, [u, u2], rfl, _, _, rfl, rfl, _, _, rfl, rfl, rfl⟩
end
theorem aox {P : Program} {F : Nat} (hF : ∀ (vs : Array Value) (w : World), (callFunc F vs).run P w = .ok (.enter F vs) w) {a : Act} {w : World} {d : Option Tmp} {x : Operand} {xs : Array Operand} {ats : Array TypeId} {ty : TypeId} {pos : String} {af : Array Edge} {gd : Option (Nat × Bool)} (hx : a.eval x = .func (.func F) #[] #[]) :
  (execOp a.eval { dst := d, op := .call { callee := .value x, args := xs, argTypes := ats }, type := ty, pos := pos, after := af, guard := gd }).run P w = .ok (.enter F (xs.map a.eval)) w := by
 have h := hF (#[] ++ xs.map a.eval ++ #[]) w
 rw [Array.empty_append, Array.append_empty] at h
 rw [← h]
 simp only [execOp, resolve, hx, Deferred.ofValue, invoke]
 simp only [pure_bind, Array.empty_append, Array.append_empty]
theorem nz (w : World) : dm w w := Below.refl _ _
abbrev iv (n : Int) : jq := .v (.int .i64 n)
abbrev zR : List jq := [iv 0, iv 0]
abbrev zZ : List jq := [iv 0, .v (.bool false), .v (.slice none 0 0)]
abbrev zQ : List jq := [iv 0, .v (.bool false), .v (.slice none 0 0), iv 0, .v (.bool false), .v (.slice none 0 0)]
abbrev zX : List jq := [.v (.slice none 0 0), .v (.bool false), .v (.slice none 0 0), .v (.bool false)]
section
variable {α : Type} {a b c d e f g h : α} {l : List α}
theorem me0 : a ∈ a :: l := List.Mem.head _
theorem mf : b ∈ a :: b :: l := List.Mem.tail _ me0
theorem ru : c ∈ a :: b :: c :: l := List.Mem.tail _ mf
theorem Gh : d ∈ a :: b :: c :: d :: l := List.Mem.tail _ ru
theorem me4 : e ∈ a :: b :: c :: d :: e :: l := List.Mem.tail _ Gh
theorem me5 : f ∈ a :: b :: c :: d :: e :: f :: l := List.Mem.tail _ me4
theorem me6 : g ∈ a :: b :: c :: d :: e :: f :: g :: l := List.Mem.tail _ me5
end
theorem ag {P : Program} {Q : Exit → Act → World → Prop} {l : List Oper} {n : Nat} {T : Nat → World → Value → Prop} {G : World → Prop} {E : World → World → Prop} {al : List Nat} {a0 : Act} {k : Nat} {o : Oper} {r : List Oper} (h : Rg.Step P Q l n T G E al a0 k o) (hr : Rg.Steps P Q l n T G E al a0 (k + 1) r) (hg : o.guard = none := by rfl) : Rg.Steps P Q l n T G E al a0 k (o :: r) := Rg.cu (Rg.plain hg h) hr
theorem fw {P : Program} {Q : Exit → Act → World → Prop} {l : List Oper} {n : Nat} {T : Nat → World → Value → Prop} {w V : World} {bs : List xx} {al : List Nat} {a0 : Act} {k d b off m : Nat} {x : Operand} {TB TL : TypeId} {ls : List jq} {ty : TypeId} {pos : String} {af : Array Edge} {gd : Option (Nat × Bool)}
  (hL : Dj P TL m) (hm : (b, TB, ls) ∈ bs) (hx : Rg.iq l n T a0 k x (Rg.ai (.pointer (some ⟨b, off, none⟩)))) (pre mid post : List jq) (he : ls = pre ++ (mid ++ post) := by rfl) (ho : qm pre = off := by rfl) (hz : qm mid = m := by rfl) (hal : al.contains k = false := by rfl) (hT : T k = au mid := by rfl) :
  Rg.Step P Q l n T (az w bs V) dm al a0 k { dst := some d, op := .load TL x, type := ty, pos := pos, after := af, guard := gd } := Pj hL hal hx (fun W h => he ▸ az.box hm h) ho hz hT
theorem ji {P : Program} {ops : Array Oper} {Q : Exit → Act → World → Prop} {rest : List Oper} {a : Act} {w0 w : World} {TL TB : TypeId} {p x : Operand} {m b off : Nat} {bs : List xx} {ty : TypeId} {pos : String} {af : Array Edge} (hO : Own w0 bs w) (i : Nat) (pre old new post : List jq)
  (hi : bs[i]? = some (b, TB, pre ++ (old ++ post))) (hS : zq P TL m) (hp : a.eval p = .pointer (some ⟨b, off, none⟩)) (hv : au new w (a.eval x)) (hm : qm new = m) (hl : qm new = qm old) (ho : off = qm pre)
  (hk : ∀ w', Own w0 (bs.set i (b, TB, pre ++ (new ++ post))) w' → (∀ ks u, au ks w u → au ks w' u) → wpList P ops Q rest a w') :
  wpList P ops Q ({ dst := none, op := .store TL p x, type := ty, pos := pos, after := af, guard := none } :: rest) a w := by
 obtain ⟨hlt, he⟩ := List.getElem?_eq_some_iff.1 hi
 have hbs : bs = bs.take i ++ (b, TB, pre ++ (old ++ post)) :: bs.drop (i + 1) := by
  rw [← he, ← List.drop_eq_getElem_cons hlt, List.take_append_drop]
 have hset : bs.set i (b, TB, pre ++ (new ++ post)) = bs.take i ++ (b, TB, pre ++ (new ++ post)) :: bs.drop (i + 1) := List.set_eq_take_append_cons_drop .. |>.trans (if_pos hlt)
 rw [hset] at hk
 rw [hbs] at hO
 exact ass hS hp hv hO hm hl ho hk
theorem ta0 {α : Type} {n : Nat} {a : α} {l : List α} : (a :: l).take (n + 1) = a :: l.take n := List.take_succ_cons
theorem ta1 {α : Type} {l : List α} : l.take 0 = [] := List.take_zero
theorem ta2 {α : Type} {n : Nat} {a : α} {l : List α} : (a :: l).drop (n + 1) = l.drop n := List.drop_succ_cons
theorem ta3 {α : Type} {l : List α} : l.drop 0 = l := List.drop_zero
theorem ta4 {α : Type} {l : List α} {n : Nat} {a : α} : l.toArray.setIfInBounds n a = (l.set n a).toArray := List.setIfInBounds_toArray ..
theorem ta5 {α : Type} {x a : α} {l : List α} : (x :: l).set 0 a = a :: l := List.set_cons_zero ..
theorem ta6 {α : Type} {x a : α} {l : List α} {n : Nat} : (x :: l).set (n + 1) a = x :: l.set n a := List.set_cons_succ ..
theorem bab : Kb Tryz.prog 77 3 := by
 intro w b off us hl hc
 match us, hl with
 | [u0, u1, u2], _ =>
 have k0 : w.cell? ⟨b, off, none⟩ = some u0 := hc 0 om
 have k1 : w.cell? ⟨b, off + 1, none⟩ = some u1 := hc 1 om
 have k2 : w.cell? ⟨b, off + 2, none⟩ = some u2 := hc 2 om
 clear hc
 simp [go_sem, k0, k1, k2]
theorem Mk : Kb Tryz.prog 79 6 := by
 intro w b off us hl hc
 match us, hl with
 | [u0, u1, u2, u3, u4, u5], _ =>
 have k0 : w.cell? ⟨b, off, none⟩ = some u0 := hc 0 om
 have k1 : w.cell? ⟨b, off + 1, none⟩ = some u1 := hc 1 om
 have k2 : w.cell? ⟨b, off + 2, none⟩ = some u2 := hc 2 om
 have k3 : w.cell? ⟨b, off + 3, none⟩ = some u3 := hc 3 om
 have k4 : w.cell? ⟨b, off + 4, none⟩ = some u4 := hc 4 om
 have k5 : w.cell? ⟨b, off + 5, none⟩ = some u5 := hc 5 om
 clear hc
 simp [go_sem, k0, k1, k2, k3, k4, k5]
theorem En : Kb Tryz.prog 23 2 := by
 intro w b off us hl hc
 match us, hl with
 | [u0, u1], _ =>
 have k0 : w.cell? ⟨b, off, none⟩ = some u0 := hc 0 om
 have k1 : w.cell? ⟨b, off + 1, none⟩ = some u1 := hc 1 om
 clear hc
 simp [go_sem, k0, k1]
theorem Lp {n m : Nat} (h1 : n < m) (h2 : m ≤ 1000000) : wrap64 ((n : Int) + 1) = ((n + 1 : Nat) : Int) := (IntWalk.wrap64_in _ om).trans om
theorem Np {n m : Nat} (h1 : n < m) (h2 : m ≤ 1000000) : Value.int .i64 (wrap64 ((n : Int) + 1)) = Value.int .i64 ((n + 1 : Nat) : Int) := by rw [Lp h1 h2]
theorem measS {n m : Nat} (h1 : n < m) : m - (intOf (Value.int .i64 ((n + 1 : Nat) : Int))).toNat < m - (intOf (Value.int .i64 (n : Int))).toNat := by
 simp only [intOf]; omega
theorem atj {ρ : Operand → Value} {w : World} {d : Option Tmp} {x y : Operand} {o z : Int} {ty : TypeId} {pos : String} {af : Array Edge} {gd : Option (Nat × Bool)} (h : ρ x = .int .i64 o) (h' : ρ y = .int .i64 z) :
  (execOp ρ { dst := d, op := .binOp .eql 24 x y 24, type := ty, pos := pos, after := af, guard := gd }).run Tryz.prog w = .ok (.value (.bool (o == z))) w := by
 simp only [execOp, h, h']
 simp [go_sem, Tryz.underlying24]
theorem Tq {Q : Exit → Act → World → Prop} {l : List Oper} {n : Nat} {T : Nat → World → Value → Prop} {G : World → Prop} {al : List Nat} {a0 : Act} {k d : Nat} {ty : TypeId} {pos : String} {af : Array Edge} {gd : Option (Nat × Bool)} {x y : Operand} {o z : Int} {b : Bool}
  (hal : al.contains k = false) (hx : Rg.iq l n T a0 k x (Rg.ai (.int .i64 o))) (hy : Rg.iq l n T a0 k y (Rg.ai (.int .i64 z))) (hT : T k = Rg.ai (.bool b)) (hb : (o == z) = b) : Rg.Step Tryz.prog Q l n T G dm al a0 k { dst := some d, op := .binOp .eql 24 x y 24, type := ty, pos := pos, after := af, guard := gd } := by
 intro a w hG hO hN
 exact jm (P := Tryz.prog) (atj (hx a w hO hN) (hy a w hO hN)) ⟨_, rfl, hG, Below.refl _ _, by rw [hT, hb]; rfl, fun h => by rw [hal] at h; cases h⟩
theorem ata {ρ : Operand → Value} {w : World} {d : Option Tmp} {x y : Operand} {o z : Int} {ty : TypeId} {pos : String} {af : Array Edge} {gd : Option (Nat × Bool)} (h : ρ x = .int .i64 o) (h' : ρ y = .int .i64 z) :
  (execOp ρ { dst := d, op := .binOp .neq 24 x y 24, type := ty, pos := pos, after := af, guard := gd }).run Tryz.prog w = .ok (.value (.bool (o != z))) w := by
 simp only [execOp, h, h']
 simp [go_sem, Tryz.underlying24]
theorem mq {Q : Exit → Act → World → Prop} {l : List Oper} {n : Nat} {T : Nat → World → Value → Prop} {G : World → Prop} {al : List Nat} {a0 : Act} {k d : Nat} {ty : TypeId} {pos : String} {af : Array Edge} {gd : Option (Nat × Bool)} {x y : Operand} {o z : Int} {b : Bool}
  (hal : al.contains k = false) (hx : Rg.iq l n T a0 k x (Rg.ai (.int .i64 o))) (hy : Rg.iq l n T a0 k y (Rg.ai (.int .i64 z))) (hT : T k = Rg.ai (.bool b)) (hb : (o != z) = b) : Rg.Step Tryz.prog Q l n T G dm al a0 k { dst := some d, op := .binOp .neq 24 x y 24, type := ty, pos := pos, after := af, guard := gd } := by
 intro a w hG hO hN
 exact jm (P := Tryz.prog) (ata (hx a w hO hN) (hy a w hO hN)) ⟨_, rfl, hG, Below.refl _ _, by rw [hT, hb]; rfl, fun h => by rw [hal] at h; cases h⟩
end Sb


namespace Sb
end Sb
namespace Sb
def ES (e1 e2 : xx) (w w' : World) : Prop := dm w w' ∨ ∃ (e : xx) (us cs : List Value), (e = e1 ∨ e = e2) ∧ eu w e.2.2 us ∧ w.heap[e.1]? = some (.cells cs.toArray e.2.1 (0, 0)) ∧ Ec cs ∧ us.length = cs.length ∧ w' = setM w e.1 0 us
theorem ES.refl (e1 e2 : xx) (w : World) : ES e1 e2 w w := .inl (Below.refl _ _)
theorem Ij {W : World} {b : Nat} {T : TypeId} {us cs : List Value} (h : W.heap[b]? = some (.cells cs.toArray T (0, 0))) (hl : us.length = cs.length) : (setM W b 0 us).heap[b]? = some (.cells us.toArray T (0, 0)) := by
 have := Qx (T := T) us cs [] [] W hl (by simpa using h)
 simpa using this
structure GS (w : World) (bs : List xx) (e1 e2 : xx) (W : World) : Prop where
 bel : Below w.heap.size w W
 box : ∀ b T ls, (b, T, ls) ∈ bs → w.heap.size ≤ b ∧ (uo W b T ls ∨ ∃ e : xx, (e = e1 ∨ e = e2) ∧ e.1 = b ∧ uo W b T e.2.2)
theorem GS.step {w : World} {bs : List xx} {e1 e2 : xx} : ∀ W W', GS w bs e1 e2 W → dm W W' → GS w bs e1 e2 W' := fun W W' h hb => ⟨bz h.bel hb, fun b T ls hm => by
 obtain ⟨h1, h2⟩ := h.box b T ls hm
 refine ⟨h1, ?_⟩
 rcases h2 with h2 | ⟨e, h3, h4, h5⟩
 ·
  exact .inl (h2.below hb)
 ·
  exact .inr ⟨e, h3, h4, h5.below hb⟩⟩
theorem GS.start {w V : World} {bs : List xx} {e1 e2 : xx} (h : Own w bs V) : GS w bs e1 e2 V.drew := ⟨(Own.step _ _ h (dm.drew V)).bel, fun b T ls hm => ⟨(h.box b T ls hm).1, .inl ((h.box b T ls hm).2.below (dm.drew V))⟩⟩
theorem GS.get {w W : World} {bs : List xx} {e1 e2 : xx} {b : Nat} {T : TypeId} {ls : List jq} (hm : (b, T, ls) ∈ bs) (h1 : e1.1 = b → e1.2.2 = ls) (h2 : e2.1 = b → e2.2.2 = ls) (h : GS w bs e1 e2 W) : uo W b T ls := by
 rcases (h.box b T ls hm).2 with g | ⟨e, rfl | rfl, g1, g2⟩
 ·
  exact g
 ·
  rwa [h1 g1] at g2
 ·
  rwa [h2 g1] at g2
end Sb

end Go.Proofs.YtfgeaakhlcaibaaGreatDoor
