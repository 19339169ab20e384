/- Texts beneath a law of layer 1. -/
import Derived.Test.YtpjgoogeokbaaaaGreatDoorCk11
set_option maxRecDepth 100000
namespace Go.Proofs.YtpjgoogeokbaaaaGreatDoor
open Go.RowKit


theorem aou {n d : Int} (h : Wd.nu n d) : -9223372036854775808 ≤ n ∧ n ≤ 9223372036854775807 ∧ -9223372036854775808 ≤ d ∧ d ≤ 9223372036854775807 ∧ d ≠ 0 := by
 obtain ⟨r1, r2, r3, r4, _⟩ := h
 exact ⟨by omega, by omega, by omega, by omega, by omega⟩
theorem adh {n d : Int} (h : Wd.nu n d) : Wd.xy di 2 (Wd.qR n d) := by
 obtain ⟨a1, a2⟩ := Wd.Cf h
 obtain ⟨r1, r2, r3, r4, _⟩ := h
 unfold Wd.xy Wd.Sz
 rw [a1, a2, fo]
 exact ⟨by omega, by omega⟩
theorem Zg {n d : Int} (h : Wd.nu n d) (W : World) : Calls Tryz.prog 41 #[(Value.agg #[.int .i64 n, .int .i64 d])] W fun e w' => QR W (Wd.qR n d) e w' := by
 obtain ⟨b1, b2, b3, b4, b5⟩ := aou h
 exact bfq n d W b1 b2 b3 b4 b5
end Go.Proofs.YtpjgoogeokbaaaaGreatDoor
namespace Go.Proofs.YtpjgoogeokbaaaaGreatDoor
open Go.RowKit

def rn (l : List (Int × Int)) (i : Nat) : Int := (l.getD i (0, 0)).1
def rd (l : List (Int × Int)) (i : Nat) : Int := (l.getD i (0, 0)).2
def Rs (w : World) (B : Nat) (A : Option Addr) (l : List (Int × Int)) : Prop := 0 < l.length → ∃ b off, A = some ⟨b, off, none⟩ ∧ b < B ∧ ∀ j, j < l.length → w.cell? ⟨b, off + j * 2, none⟩ = some (.int .i64 (rn l j)) ∧ w.cell? ⟨b, off + j * 2 + 1, none⟩ = some (.int .i64 (rd l j))
theorem Rs.below {w w' : World} {A : Option Addr} {l : List (Int × Int)} {B : Nat} (h : Rs w B A l) (hb : Below B w w') : Rs w' B A l := fun hl => by
 obtain ⟨b, off, rfl, h1, h2⟩ := h hl
 exact ⟨b, off, rfl, h1, fun j hj => ⟨(hb.cell (p := ⟨b, off + j * 2, none⟩) h1).trans (h2 j hj).1, (hb.cell (p := ⟨b, off + j * 2 + 1, none⟩) h1).trans (h2 j hj).2⟩⟩
theorem Rs.up {w : World} {A : Option Addr} {l : List (Int × Int)} {B C : Nat} (h : Rs w B A l) (hb : B ≤ C) : Rs w C A l := fun hl => by
 obtain ⟨b, off, rfl, h1, h2⟩ := h hl
 exact ⟨b, off, rfl, Nat.lt_of_lt_of_le h1 hb, h2⟩
def Oks (l : List (Int × Int)) : Prop := ∀ i, i < l.length → Wd.nu (rn l i) (rd l i)
noncomputable instance (l : List (Int × Int)) : Decidable (Oks l) := Classical.propDecidable _

namespace Wd
end Wd
theorem Jy {n d : Int} (h : Wd.nu n d) : -9223372036854775808 ≤ n ∧ n ≤ 9223372036854775807 ∧ -9223372036854775808 ≤ d ∧ d ≤ 9223372036854775807 ∧ d ≠ 0 := by
 obtain ⟨h1, h2, h3, h4, _⟩ := h; omega
end Go.Proofs.YtpjgoogeokbaaaaGreatDoor
namespace Go.Proofs.YtpjgoogeokbaaaaGreatDoor
open Go.RowKit

set_option maxHeartbeats 16000000 in
theorem bgj (A1 : Option Addr) (c1 : Nat) (l1 : List Nat) (m1 : Bool) (A2 : Option Addr) (c2 : Nat) (l2 : List Nat) (m2 : Bool) (A3 : Option Addr) (c3 : Nat) (l3 : List Nat) (m3 : Bool) (A4 : Option Addr) (c4 : Nat) (l4 : List Nat) (m4 : Bool) (z1 b1 z3 b3 n : Int) (q : Rat) (w : World) (f1 : bg w A1 c1 l1 m1 z1) (f3 : bg w A3 c3 l3 m3 z3)
  (hd1 : ∀ W, Below w.heap.size w W → Calls Tryz.prog 95 #[(Value.agg #[.slice A1 l1.length c1, .bool m1, .slice A2 l2.length c2, .bool m2])] W fun e w' => uq W b1 e w') (hd3 : ∀ W, Below w.heap.size w W → Calls Tryz.prog 95 #[(Value.agg #[.slice A3 l3.length c3, .bool m3, .slice A4 l4.length c4, .bool m4])] W fun e w' => uq W b3 e w')
  (ho1 : ∀ (A7 : Option Addr) (c7 : Nat) (l7 : List Nat) (m7 : Bool) (W : World), Below w.heap.size w W → bg W A7 c7 l7 m7 b1 → Calls Tryz.prog 96 #[(Value.agg #[.slice A7 l7.length c7, .bool m7])] W fun e w' => e = .returned (.bool true) ∧ Below W.heap.size W w') (ho3 : ∀ (A7 : Option Addr) (c7 : Nat) (l7 : List Nat) (m7 : Bool) (W : World), Below w.heap.size w W → bg W A7 c7 l7 m7 b3 → Calls Tryz.prog 96 #[(Value.agg #[.slice A7 l7.length c7, .bool m7])] W fun e w' => e = .returned (.bool true) ∧ Below W.heap.size W w') (hn : Gz w 98 z1 z3 n) (Dp : n = q.num) (hden : b1 = (q.den : Int)) :
  Calls Tryz.prog 45 #[(Value.agg #[.slice A1 l1.length c1, .bool m1, .slice A2 l2.length c2, .bool m2]), (Value.agg #[.slice A3 l3.length c3, .bool m3, .slice A4 l4.length c4, .bool m4])] w fun e w' => QR w q e w' := by
 have H1 := hide f1
 have H3 := hide f3
 clear f1 f3
 have HD1 := hide hd1
 have HD3 := hide hd3
 have Gf := hide ho1
 have HO3 := hide ho3
 have HN := hide hn
 clear hd1 hd3 ho1 ho3 hn
 go_enter Tryz.func45, Tryz.ntmps45
 go_upto_region 1 with fail
 obtain ⟨n0, n1, n2, hsz, hw0⟩ := ll w (.cells #[.slice A1 l1.length c1, .bool m1, .slice A2 l2.length c2, .bool m2] 52) (.cells #[.slice A3 l3.length c3, .bool m3, .slice A4 l4.length c4, .bool m4] 52) (.cells #[.slice none 0 0, .bool false, .slice none 0 0, .bool false] 52)
 generalize (((w.alloc (.cells #[.slice A1 l1.length c1, .bool m1, .slice A2 l2.length c2, .bool m2] 52)).alloc (.cells #[.slice A3 l3.length c3, .bool m3, .slice A4 l4.length c4, .bool m4] 52)).alloc (.cells #[.slice none 0 0, .bool false, .slice none 0 0, .bool false] 52)) = W0 at *
 have jl : W0.cell? ⟨w.heap.size, 0, none⟩ = some (.slice A1 l1.length c1) := ag n0 0
 have jk : W0.cell? ⟨w.heap.size, 1, none⟩ = some (.bool m1) := ag n0 1
 have jy : W0.cell? ⟨w.heap.size, 2, none⟩ = some (.slice A2 l2.length c2) := ag n0 2
 have ky : W0.cell? ⟨w.heap.size, 3, none⟩ = some (.bool m2) := ag n0 3
 have q0 : w.heap.size < W0.heap.size := by omega
 have jq : W0.cell? ⟨w.heap.size + 1, 0, none⟩ = some (.slice A3 l3.length c3) := ag n1 0
 have jo : W0.cell? ⟨w.heap.size + 1, 1, none⟩ = some (.bool m3) := ag n1 1
 have lh : W0.cell? ⟨w.heap.size + 1, 2, none⟩ = some (.slice A4 l4.length c4) := ag n1 2
 have lv : W0.cell? ⟨w.heap.size + 1, 3, none⟩ = some (.bool m4) := ag n1 3
 have q1 : w.heap.size + 1 < W0.heap.size := by omega
 have qw : W0.cell? ⟨w.heap.size + 1 + 1, 0, none⟩ = some (.slice none 0 0) := ag n2 0
 have qo : W0.cell? ⟨w.heap.size + 1 + 1, 1, none⟩ = some (.bool false) := ag n2 1
 have qm : W0.cell? ⟨w.heap.size + 1 + 1, 2, none⟩ = some (.slice none 0 0) := ag n2 2
 have qj : W0.cell? ⟨w.heap.size + 1 + 1, 3, none⟩ = some (.bool false) := ag n2 3
 have q2 : w.heap.size + 1 + 1 < W0.heap.size := by omega
 have uj := ah n2 0
 have ui := ah n2 1
 have uh := ah n2 2
 have ug := ah n2 3
 have NR := Lib.hid n2
 clear hsz n0 n1 n2
 replace H1 := hide ((aa H1).below hw0)
 replace H3 := hide ((aa H3).below hw0)
 go_upto_region 1 with fail
 go_cut [5, 6] (fun Me Ra wx => ∃ b5 b6 : Nat, Me = .pointer (some ⟨b5, 0, none⟩) ∧ Ra = .pointer (some ⟨b6, 0, none⟩) ∧ xx wx b5 b1 ∧ xx wx b6 b3 ∧ Below W0.heap.size W0 wx ∧ W0.heap.size ≤ b5 ∧ W0.heap.size ≤ b6)
 case first =>
  have KEEP := hide (show ∀ X, Below W0.heap.size W0 X → X.cell? ⟨w.heap.size, 0, none⟩ = some (.slice A1 l1.length c1) ∧ X.cell? ⟨w.heap.size, 1, none⟩ = some (.bool m1) ∧ X.cell? ⟨w.heap.size, 2, none⟩ = some (.slice A2 l2.length c2) ∧ X.cell? ⟨w.heap.size, 3, none⟩ = some (.bool m2) ∧ X.cell? ⟨w.heap.size + 1, 0, none⟩ = some (.slice A3 l3.length c3) ∧ X.cell? ⟨w.heap.size + 1, 1, none⟩ = some (.bool m3) ∧ X.cell? ⟨w.heap.size + 1, 2, none⟩ = some (.slice A4 l4.length c4) ∧ X.cell? ⟨w.heap.size + 1, 3, none⟩ = some (.bool m4) from fun X hB => ⟨ai hB q0 jl, ai hB q0 jk, ai hB q0 jy, ai hB q0 ky, ai hB q1 jq, ai hB q1 jo, ai hB q1 lh, ai hB q1 lv⟩)
  go_region_held3 (fun w' => w'.cell? ⟨w.heap.size, 0, none⟩ = some (.slice A1 l1.length c1) ∧ w'.cell? ⟨w.heap.size, 1, none⟩ = some (.bool m1) ∧ w'.cell? ⟨w.heap.size, 2, none⟩ = some (.slice A2 l2.length c2) ∧ w'.cell? ⟨w.heap.size, 3, none⟩ = some (.bool m2) ∧ w'.cell? ⟨w.heap.size + 1, 0, none⟩ = some (.slice A3 l3.length c3) ∧ w'.cell? ⟨w.heap.size + 1, 1, none⟩ = some (.bool m3) ∧ w'.cell? ⟨w.heap.size + 1, 2, none⟩ = some (.slice A4 l4.length c4) ∧ w'.cell? ⟨w.heap.size + 1, 3, none⟩ = some (.bool m4)) (exact (aa KEEP) _ (by (repeat (first | with_reducible exact Below.refl _ _ | with_reducible assumption | with_reducible refine Below.drew ?_ | with_reducible refine je ?_ _ | (with_reducible refine Eg ?_ ?_ _ _; rotate_left; (first | omega | (simp <;> omega))))))) (first | (go_at_call_of 95 (Value.agg #[.slice A1 l1.length c1, .bool m1, .slice A2 l2.length c2, .bool m2]); refine ((aa HD1) _ (au hw0 bel)).mono ?_; rintro e w' ⟨A5, c5, l5, m5, rfl, kz, hb5⟩; have hbw := ay (w := W0) bel hb5; have hsw := hbw.size; obtain ⟨hc, hfz⟩ := az hbw; (try ((first | have zn : eu W0 w' _ := eu.below (eu.new bel rfl) hb5 | have zn : eu W0 w' _ := eu.below (eu.drew (eu.new bel rfl)) hb5); (try simp only [World.size_alloc] at zn); (try dsimp only [World.drew] at zn); (try simp only [World.size_alloc] at zn); obtain ⟨⟨ahr, ahq⟩, ⟨ahp, aho⟩, ⟨ahn, ahm⟩, ⟨ahl, ahk⟩, ahj, Yu⟩ := eu.facts zn)); (try ((first | have zm : eu W0 w' _ := eu.below (eu.alloc (eu.new bel rfl)) hb5 | have zm : eu W0 w' _ := eu.below (eu.drew (eu.alloc (eu.new bel rfl))) hb5); (try simp only [World.size_alloc] at zm); (try dsimp only [World.drew] at zm); (try simp only [World.size_alloc] at zm); obtain ⟨⟨ahi, ahh⟩, ⟨ahg, ahf⟩, ⟨ahe, ahd⟩, ⟨ahc, ahb⟩, aha, Yr⟩ := eu.facts zm))) | (go_at_call_of 95 (Value.agg #[.slice A3 l3.length c3, .bool m3, .slice A4 l4.length c4, .bool m4]); refine ((aa HD3) _ (au hw0 bel)).mono ?_; rintro e w' ⟨A6, c6, l6, m6, rfl, og, hb6⟩; have kz := bg.below (bg.below kz bel) hb6; have hbw := ay (w := W0) bel hb6; have hsw := hbw.size; obtain ⟨hc, hfz⟩ := az hbw; (try ((first | have Bt : eu W0 w' _ := eu.below (eu.new bel rfl) hb6 | have Bt : eu W0 w' _ := eu.below (eu.drew (eu.new bel rfl)) hb6); (try simp only [World.size_alloc] at Bt); (try dsimp only [World.drew] at Bt); (try simp only [World.size_alloc] at Bt); obtain ⟨⟨acp, aco⟩, ⟨acn, acm⟩, ⟨ack, acj⟩, ⟨aci, ach⟩, acg, Vh⟩ := eu.facts Bt)); (try ((first | have Bo : eu W0 w' _ := eu.below (eu.alloc (eu.new bel rfl)) hb6 | have Bo : eu W0 w' _ := eu.below (eu.drew (eu.alloc (eu.new bel rfl))) hb6); (try simp only [World.size_alloc] at Bo); (try dsimp only [World.drew] at Bo); (try simp only [World.size_alloc] at Bo); obtain ⟨⟨acf, ace⟩, ⟨acd, acb⟩, ⟨aca, abz⟩, ⟨aby, abx⟩, abw, Vg⟩ := eu.facts Bo)); (try ((first | have Cb : eu W0 w' _ := eu.below zn hb6 | have Cb : eu W0 w' _ := eu.below (eu.alloc zn) hb6 | have Cb : eu W0 w' _ := eu.below (eu.alloc (eu.alloc zn)) hb6); (try simp only [World.size_alloc] at Cb); (try dsimp only [World.drew] at Cb); (try simp only [World.size_alloc] at Cb); obtain ⟨⟨agz, agy⟩, ⟨agx, agw⟩, ⟨agv, agu⟩, ⟨agt, ags⟩, agr, Yq⟩ := eu.facts Cb)); (try ((first | have Ca : eu W0 w' _ := eu.below zm hb6 | have Ca : eu W0 w' _ := eu.below (eu.alloc zm) hb6 | have Ca : eu W0 w' _ := eu.below (eu.alloc (eu.alloc zm)) hb6); (try simp only [World.size_alloc] at Ca); (try dsimp only [World.drew] at Ca); (try simp only [World.size_alloc] at Ca); obtain ⟨⟨agq, agp⟩, ⟨agn, agm⟩, ⟨agl, agk⟩, ⟨agj, agi⟩, agh, Yp⟩ := eu.facts Ca))))
  all_goals (go_wp2_with fail; go_meet; refine ⟨_, _, rfl, rfl, ?_⟩; first | with_reducible exact zz ⟨by assumption, by assumption, by first | assumption | omega⟩ kz og hbw | with_reducible exact zz (Ig.Sq (by assumption) rfl) kz.alloc og.alloc (je hbw _) | with_reducible exact zz (Ig.Sr (by assumption) rfl) kz.alloc og.alloc (je hbw _) | with_reducible exact Le kz og hbw rfl rfl | with_reducible exact Np kz og hbw rfl rfl | with_reducible exact Nn (by assumption) kz og hbw rfl)
 case rest =>
  revert hcut
  generalize wc = W1
  intro hcut
  obtain ⟨b5, b6, rfl, rfl, B5, B6, hbx, Hd, Jz⟩ := hcut
  obtain ⟨hc, hfz⟩ := az hbx
  replace jl := (hc _ _ q0).trans jl
  replace jk := (hc _ _ q0).trans jk
  replace jy := (hc _ _ q0).trans jy
  replace ky := (hc _ _ q0).trans ky
  replace q0 := Nat.lt_of_lt_of_le q0 hbx.size
  replace jq := (hc _ _ q1).trans jq
  replace jo := (hc _ _ q1).trans jo
  replace lh := (hc _ _ q1).trans lh
  replace lv := (hc _ _ q1).trans lv
  replace q1 := Nat.lt_of_lt_of_le q1 hbx.size
  replace Hd : w.heap.size + 1 + 1 < b5 := Nat.lt_of_lt_of_le q2 Hd
  replace Jz : w.heap.size + 1 + 1 < b6 := Nat.lt_of_lt_of_le q2 Jz
  replace qw := (hc _ _ q2).trans qw
  replace uj := (hfz _ _ q2).trans uj
  replace qo := (hc _ _ q2).trans qo
  replace ui := (hfz _ _ q2).trans ui
  replace qm := (hc _ _ q2).trans qm
  replace uh := (hfz _ _ q2).trans uh
  replace qj := (hc _ _ q2).trans qj
  replace ug := (hfz _ _ q2).trans ug
  replace NR := Lib.hid ((hbx.block _ q2).trans NR.out)
  replace q2 := Nat.lt_of_lt_of_le q2 hbx.size
  replace hw0 := au hw0 hbx
  replace H1 := hide ((aa H1).below hbx)
  replace H3 := hide ((aa H3).below hbx)
  obtain ⟨A5, c5, l5, m5, n5, H5⟩ := B5
  have tu : W1.cell? ⟨b5, 0, none⟩ = some (.slice A5 l5.length c5) := ag n5 0
  have tq : W1.cell? ⟨b5, 1, none⟩ = some (.bool m5) := ag n5 1
  have qi := lt_of_block n5
  replace H5 := hide H5
  clear n5
  obtain ⟨A6, c6, l6, m6, n6, H6⟩ := B6
  have sw : W1.cell? ⟨b6, 0, none⟩ = some (.slice A6 l6.length c6) := ag n6 0
  have su : W1.cell? ⟨b6, 1, none⟩ = some (.bool m6) := ag n6 1
  have qh := lt_of_block n6
  replace H6 := hide H6
  clear n6
  clear hbx hc hfz
  go_wp2_with fail
  refine ((aa Gf) A5 c5 l5 m5 _ hw0 (aa H5)).mono ?_
  rintro e W2 ⟨rfl, hbx⟩
  obtain ⟨hc, hfz⟩ := az hbx
  replace jl := (hc _ _ q0).trans jl
  replace jk := (hc _ _ q0).trans jk
  replace jy := (hc _ _ q0).trans jy
  replace ky := (hc _ _ q0).trans ky
  replace q0 := Nat.lt_of_lt_of_le q0 hbx.size
  replace jq := (hc _ _ q1).trans jq
  replace jo := (hc _ _ q1).trans jo
  replace lh := (hc _ _ q1).trans lh
  replace lv := (hc _ _ q1).trans lv
  replace q1 := Nat.lt_of_lt_of_le q1 hbx.size
  replace tu := (hc _ _ qi).trans tu
  replace tq := (hc _ _ qi).trans tq
  replace qi := Nat.lt_of_lt_of_le qi hbx.size
  replace sw := (hc _ _ qh).trans sw
  replace su := (hc _ _ qh).trans su
  replace qh := Nat.lt_of_lt_of_le qh hbx.size
  replace qw := (hc _ _ q2).trans qw
  replace uj := (hfz _ _ q2).trans uj
  replace qo := (hc _ _ q2).trans qo
  replace ui := (hfz _ _ q2).trans ui
  replace qm := (hc _ _ q2).trans qm
  replace uh := (hfz _ _ q2).trans uh
  replace qj := (hc _ _ q2).trans qj
  replace ug := (hfz _ _ q2).trans ug
  replace NR := Lib.hid ((hbx.block _ q2).trans NR.out)
  replace q2 := Nat.lt_of_lt_of_le q2 hbx.size
  replace hw0 := au hw0 hbx
  replace H1 := hide ((aa H1).below hbx)
  replace H3 := hide ((aa H3).below hbx)
  replace H5 := hide ((aa H5).below hbx)
  replace H6 := hide ((aa H6).below hbx)
  clear hbx hc hfz
  go_wp2_with fail
  refine ((aa HO3) A6 c6 l6 m6 _ hw0 (aa H6)).mono ?_
  rintro e W3 ⟨rfl, hbx⟩
  obtain ⟨hc, hfz⟩ := az hbx
  replace jl := (hc _ _ q0).trans jl
  replace jk := (hc _ _ q0).trans jk
  replace jy := (hc _ _ q0).trans jy
  replace ky := (hc _ _ q0).trans ky
  replace q0 := Nat.lt_of_lt_of_le q0 hbx.size
  replace jq := (hc _ _ q1).trans jq
  replace jo := (hc _ _ q1).trans jo
  replace lh := (hc _ _ q1).trans lh
  replace lv := (hc _ _ q1).trans lv
  replace q1 := Nat.lt_of_lt_of_le q1 hbx.size
  replace tu := (hc _ _ qi).trans tu
  replace tq := (hc _ _ qi).trans tq
  replace qi := Nat.lt_of_lt_of_le qi hbx.size
  replace sw := (hc _ _ qh).trans sw
  replace su := (hc _ _ qh).trans su
  replace qh := Nat.lt_of_lt_of_le qh hbx.size
  replace qw := (hc _ _ q2).trans qw
  replace uj := (hfz _ _ q2).trans uj
  replace qo := (hc _ _ q2).trans qo
  replace ui := (hfz _ _ q2).trans ui
  replace qm := (hc _ _ q2).trans qm
  replace uh := (hfz _ _ q2).trans uh
  replace qj := (hc _ _ q2).trans qj
  replace ug := (hfz _ _ q2).trans ug
  replace NR := Lib.hid ((hbx.block _ q2).trans NR.out)
  replace q2 := Nat.lt_of_lt_of_le q2 hbx.size
  replace hw0 := au hw0 hbx
  replace H1 := hide ((aa H1).below hbx)
  replace H3 := hide ((aa H3).below hbx)
  replace H5 := hide ((aa H5).below hbx)
  replace H6 := hide ((aa H6).below hbx)
  clear hbx hc hfz
  go_upto_region 3 with fail
  have KEEP := hide (show ∀ X, Below W3.heap.size W3 X → X.cell? ⟨w.heap.size, 0, none⟩ = some (.slice A1 l1.length c1) ∧ X.cell? ⟨w.heap.size, 1, none⟩ = some (.bool m1) ∧ X.cell? ⟨w.heap.size, 2, none⟩ = some (.slice A2 l2.length c2) ∧ X.cell? ⟨w.heap.size, 3, none⟩ = some (.bool m2) ∧ X.cell? ⟨w.heap.size + 1, 0, none⟩ = some (.slice A3 l3.length c3) ∧ X.cell? ⟨w.heap.size + 1, 1, none⟩ = some (.bool m3) ∧ X.cell? ⟨w.heap.size + 1, 2, none⟩ = some (.slice A4 l4.length c4) ∧ X.cell? ⟨w.heap.size + 1, 3, none⟩ = some (.bool m4) ∧ X.cell? ⟨b5, 0, none⟩ = some (.slice A5 l5.length c5) ∧ X.cell? ⟨b5, 1, none⟩ = some (.bool m5) ∧ X.cell? ⟨b6, 0, none⟩ = some (.slice A6 l6.length c6) ∧ X.cell? ⟨b6, 1, none⟩ = some (.bool m6) from fun X hB => ⟨ai hB q0 jl, ai hB q0 jk, ai hB q0 jy, ai hB q0 ky, ai hB q1 jq, ai hB q1 jo, ai hB q1 lh, ai hB q1 lv, ai hB qi tu, ai hB qi tq, ai hB qh sw, ai hB qh su⟩)
  go_region_held3 (fun w' => w'.cell? ⟨w.heap.size, 0, none⟩ = some (.slice A1 l1.length c1) ∧ w'.cell? ⟨w.heap.size, 1, none⟩ = some (.bool m1) ∧ w'.cell? ⟨w.heap.size, 2, none⟩ = some (.slice A2 l2.length c2) ∧ w'.cell? ⟨w.heap.size, 3, none⟩ = some (.bool m2) ∧ w'.cell? ⟨w.heap.size + 1, 0, none⟩ = some (.slice A3 l3.length c3) ∧ w'.cell? ⟨w.heap.size + 1, 1, none⟩ = some (.bool m3) ∧ w'.cell? ⟨w.heap.size + 1, 2, none⟩ = some (.slice A4 l4.length c4) ∧ w'.cell? ⟨w.heap.size + 1, 3, none⟩ = some (.bool m4) ∧ w'.cell? ⟨b5, 0, none⟩ = some (.slice A5 l5.length c5) ∧ w'.cell? ⟨b5, 1, none⟩ = some (.bool m5) ∧ w'.cell? ⟨b6, 0, none⟩ = some (.slice A6 l6.length c6) ∧ w'.cell? ⟨b6, 1, none⟩ = some (.bool m6)) (first | with_reducible exact ⟨(fu _ _ _ _ _ _ om).trans (ai hbw q0 jl), (fu _ _ _ _ _ _ om).trans (ai hbw q0 jk), (fu _ _ _ _ _ _ om).trans (ai hbw q0 jy), (fu _ _ _ _ _ _ om).trans (ai hbw q0 ky), (fu _ _ _ _ _ _ om).trans (ai hbw q1 jq), (fu _ _ _ _ _ _ om).trans (ai hbw q1 jo), (fu _ _ _ _ _ _ om).trans (ai hbw q1 lh), (fu _ _ _ _ _ _ om).trans (ai hbw q1 lv), (fu _ _ _ _ _ _ om).trans (ai hbw qi tu), (fu _ _ _ _ _ _ om).trans (ai hbw qi tq), (fu _ _ _ _ _ _ om).trans (ai hbw qh sw), (fu _ _ _ _ _ _ om).trans (ai hbw qh su)⟩ | with_reducible exact (aa KEEP) _ bel) (first | (go_at_call_of 98 (Value.agg #[.slice A1 l1.length c1, .bool m1]); refine ((aa HN) A1 c1 l1 m1 A3 c3 l3 m3 _ (au hw0 bel) (bg.below (aa H1) bel) (bg.below (aa H3) bel)).mono ?_; rintro e w' ⟨Ae, c10, l10, m10, rfl, zt, Cq⟩; have hbw := ay (w := W3) bel Cq; have hsw := hbw.size; obtain ⟨hc, hfz⟩ := az hbw))
  all_goals
   have hblk : w'.heap[w.heap.size + 1 + 1]? = some (.cells #[.slice none 0 0, .bool false, .slice none 0 0, .bool false] 52 (0, 0)) := (hbw.block _ q2).trans NR.out
   have jd := Lib.hid hblk
   have gp : Below w.heap.size w w' := au hw0 hbw
   have hfi := (zt)
   have hfj := ((aa H5).below hbw)
   clear hblk
   go_wp2_with fail
   exact bodyPost_ret (v := (Value.agg #[.slice Ae l10.length c10, .bool m10, .slice A5 l5.length c5, .bool m5])) (by simp [results, Tryz.results45, go_sem, hc, qw, qo, qm, qj, q2]) rfl
    ⟨Ae, c10, l10, m10, A5, c5, l5, m5, rfl, Dp ▸ hfi.upto jd.out (qy _ _ _ _ _ _ _ _) (ig _ _ _ _ _ _), hden ▸ hfj.upto jd.out (qy _ _ _ _ _ _ _ _) (ig _ _ _ _ _ _), gp.grown (ig _ _ _ _ _ _) gp.size (fun k hk => by injection hk with hk; omega)⟩

end Go.Proofs.YtpjgoogeokbaaaaGreatDoor
namespace Go.Proofs.YtpjgoogeokbaaaaGreatDoor
open Go.RowKit

set_option maxHeartbeats 16000000 in
theorem bic (A1 : Option Addr) (c1 : Nat) (l1 : List Nat) (m1 : Bool) (A2 : Option Addr) (c2 : Nat) (l2 : List Nat) (m2 : Bool) (A3 : Option Addr) (c3 : Nat) (l3 : List Nat) (m3 : Bool) (A4 : Option Addr) (c4 : Nat) (l4 : List Nat) (m4 : Bool) (z1 b1 z3 b3 n d : Int) (q : Rat) (w : World) (f1 : bg w A1 c1 l1 m1 z1) (f3 : bg w A3 c3 l3 m3 z3)
  (hd1 : ∀ W, Below w.heap.size w W → Calls Tryz.prog 95 #[(Value.agg #[.slice A1 l1.length c1, .bool m1, .slice A2 l2.length c2, .bool m2])] W fun e w' => uq W b1 e w') (hd3 : ∀ W, Below w.heap.size w W → Calls Tryz.prog 95 #[(Value.agg #[.slice A3 l3.length c3, .bool m3, .slice A4 l4.length c4, .bool m4])] W fun e w' => uq W b3 e w')
  (ho1 : ∀ (A7 : Option Addr) (c7 : Nat) (l7 : List Nat) (m7 : Bool) (W : World), Below w.heap.size w W → bg W A7 c7 l7 m7 b1 → Calls Tryz.prog 96 #[(Value.agg #[.slice A7 l7.length c7, .bool m7])] W fun e w' => e = .returned (.bool false) ∧ Below W.heap.size W w')  (hn : Gz w 98 z1 z3 n) (hm : Gz w 98 b1 b3 d) (hr : adx w 92 n d q) :
  Calls Tryz.prog 45 #[(Value.agg #[.slice A1 l1.length c1, .bool m1, .slice A2 l2.length c2, .bool m2]), (Value.agg #[.slice A3 l3.length c3, .bool m3, .slice A4 l4.length c4, .bool m4])] w fun e w' => QR w q e w' := by
 have H1 := hide f1
 have H3 := hide f3
 clear f1 f3
 have HD1 := hide hd1
 have HD3 := hide hd3
 have Gf := hide ho1
 have HN := hide hn
 have HM := hide hm
 have HR := hide hr
 clear hd1 hd3 ho1 hn hm hr
 go_enter Tryz.func45, Tryz.ntmps45
 go_upto_region 1 with fail
 obtain ⟨n0, n1, n2, hsz, hw0⟩ := ll w (.cells #[.slice A1 l1.length c1, .bool m1, .slice A2 l2.length c2, .bool m2] 52) (.cells #[.slice A3 l3.length c3, .bool m3, .slice A4 l4.length c4, .bool m4] 52) (.cells #[.slice none 0 0, .bool false, .slice none 0 0, .bool false] 52)
 generalize (((w.alloc (.cells #[.slice A1 l1.length c1, .bool m1, .slice A2 l2.length c2, .bool m2] 52)).alloc (.cells #[.slice A3 l3.length c3, .bool m3, .slice A4 l4.length c4, .bool m4] 52)).alloc (.cells #[.slice none 0 0, .bool false, .slice none 0 0, .bool false] 52)) = W0 at *
 have jl : W0.cell? ⟨w.heap.size, 0, none⟩ = some (.slice A1 l1.length c1) := ag n0 0
 have jk : W0.cell? ⟨w.heap.size, 1, none⟩ = some (.bool m1) := ag n0 1
 have jy : W0.cell? ⟨w.heap.size, 2, none⟩ = some (.slice A2 l2.length c2) := ag n0 2
 have ky : W0.cell? ⟨w.heap.size, 3, none⟩ = some (.bool m2) := ag n0 3
 have q0 : w.heap.size < W0.heap.size := by omega
 have jq : W0.cell? ⟨w.heap.size + 1, 0, none⟩ = some (.slice A3 l3.length c3) := ag n1 0
 have jo : W0.cell? ⟨w.heap.size + 1, 1, none⟩ = some (.bool m3) := ag n1 1
 have lh : W0.cell? ⟨w.heap.size + 1, 2, none⟩ = some (.slice A4 l4.length c4) := ag n1 2
 have lv : W0.cell? ⟨w.heap.size + 1, 3, none⟩ = some (.bool m4) := ag n1 3
 have q1 : w.heap.size + 1 < W0.heap.size := by omega
 have qw : W0.cell? ⟨w.heap.size + 1 + 1, 0, none⟩ = some (.slice none 0 0) := ag n2 0
 have qo : W0.cell? ⟨w.heap.size + 1 + 1, 1, none⟩ = some (.bool false) := ag n2 1
 have qm : W0.cell? ⟨w.heap.size + 1 + 1, 2, none⟩ = some (.slice none 0 0) := ag n2 2
 have qj : W0.cell? ⟨w.heap.size + 1 + 1, 3, none⟩ = some (.bool false) := ag n2 3
 have q2 : w.heap.size + 1 + 1 < W0.heap.size := by omega
 have uj := ah n2 0
 have ui := ah n2 1
 have uh := ah n2 2
 have ug := ah n2 3
 have NR := Lib.hid n2
 clear hsz n0 n1 n2
 replace H1 := hide ((aa H1).below hw0)
 replace H3 := hide ((aa H3).below hw0)
 go_upto_region 1 with fail
 go_cut [5, 6] (fun Me Ra wx => ∃ b5 b6 : Nat, Me = .pointer (some ⟨b5, 0, none⟩) ∧ Ra = .pointer (some ⟨b6, 0, none⟩) ∧ xx wx b5 b1 ∧ xx wx b6 b3 ∧ Below W0.heap.size W0 wx ∧ W0.heap.size ≤ b5 ∧ W0.heap.size ≤ b6)
 case first =>
  have KEEP := hide (show ∀ X, Below W0.heap.size W0 X → X.cell? ⟨w.heap.size, 0, none⟩ = some (.slice A1 l1.length c1) ∧ X.cell? ⟨w.heap.size, 1, none⟩ = some (.bool m1) ∧ X.cell? ⟨w.heap.size, 2, none⟩ = some (.slice A2 l2.length c2) ∧ X.cell? ⟨w.heap.size, 3, none⟩ = some (.bool m2) ∧ X.cell? ⟨w.heap.size + 1, 0, none⟩ = some (.slice A3 l3.length c3) ∧ X.cell? ⟨w.heap.size + 1, 1, none⟩ = some (.bool m3) ∧ X.cell? ⟨w.heap.size + 1, 2, none⟩ = some (.slice A4 l4.length c4) ∧ X.cell? ⟨w.heap.size + 1, 3, none⟩ = some (.bool m4) from fun X hB => ⟨ai hB q0 jl, ai hB q0 jk, ai hB q0 jy, ai hB q0 ky, ai hB q1 jq, ai hB q1 jo, ai hB q1 lh, ai hB q1 lv⟩)
  go_region_held3 (fun w' => w'.cell? ⟨w.heap.size, 0, none⟩ = some (.slice A1 l1.length c1) ∧ w'.cell? ⟨w.heap.size, 1, none⟩ = some (.bool m1) ∧ w'.cell? ⟨w.heap.size, 2, none⟩ = some (.slice A2 l2.length c2) ∧ w'.cell? ⟨w.heap.size, 3, none⟩ = some (.bool m2) ∧ w'.cell? ⟨w.heap.size + 1, 0, none⟩ = some (.slice A3 l3.length c3) ∧ w'.cell? ⟨w.heap.size + 1, 1, none⟩ = some (.bool m3) ∧ w'.cell? ⟨w.heap.size + 1, 2, none⟩ = some (.slice A4 l4.length c4) ∧ w'.cell? ⟨w.heap.size + 1, 3, none⟩ = some (.bool m4)) (exact (aa KEEP) _ (by (repeat (first | with_reducible exact Below.refl _ _ | with_reducible assumption | with_reducible refine Below.drew ?_ | with_reducible refine je ?_ _ | (with_reducible refine Eg ?_ ?_ _ _; rotate_left; (first | omega | (simp <;> omega))))))) (first | (go_at_call_of 95 (Value.agg #[.slice A1 l1.length c1, .bool m1, .slice A2 l2.length c2, .bool m2]); refine ((aa HD1) _ (au hw0 bel)).mono ?_; rintro e w' ⟨A5, c5, l5, m5, rfl, kz, hb5⟩; have hbw := ay (w := W0) bel hb5; have hsw := hbw.size; obtain ⟨hc, hfz⟩ := az hbw; (try ((first | have zn : eu W0 w' _ := eu.below (eu.new bel rfl) hb5 | have zn : eu W0 w' _ := eu.below (eu.drew (eu.new bel rfl)) hb5); (try simp only [World.size_alloc] at zn); (try dsimp only [World.drew] at zn); (try simp only [World.size_alloc] at zn); obtain ⟨⟨ahr, ahq⟩, ⟨ahp, aho⟩, ⟨ahn, ahm⟩, ⟨ahl, ahk⟩, ahj, Yu⟩ := eu.facts zn)); (try ((first | have zm : eu W0 w' _ := eu.below (eu.alloc (eu.new bel rfl)) hb5 | have zm : eu W0 w' _ := eu.below (eu.drew (eu.alloc (eu.new bel rfl))) hb5); (try simp only [World.size_alloc] at zm); (try dsimp only [World.drew] at zm); (try simp only [World.size_alloc] at zm); obtain ⟨⟨ahi, ahh⟩, ⟨ahg, ahf⟩, ⟨ahe, ahd⟩, ⟨ahc, ahb⟩, aha, Yr⟩ := eu.facts zm))) | (go_at_call_of 95 (Value.agg #[.slice A3 l3.length c3, .bool m3, .slice A4 l4.length c4, .bool m4]); refine ((aa HD3) _ (au hw0 bel)).mono ?_; rintro e w' ⟨A6, c6, l6, m6, rfl, og, hb6⟩; have kz := bg.below (bg.below kz bel) hb6; have hbw := ay (w := W0) bel hb6; have hsw := hbw.size; obtain ⟨hc, hfz⟩ := az hbw; (try ((first | have Bt : eu W0 w' _ := eu.below (eu.new bel rfl) hb6 | have Bt : eu W0 w' _ := eu.below (eu.drew (eu.new bel rfl)) hb6); (try simp only [World.size_alloc] at Bt); (try dsimp only [World.drew] at Bt); (try simp only [World.size_alloc] at Bt); obtain ⟨⟨acp, aco⟩, ⟨acn, acm⟩, ⟨ack, acj⟩, ⟨aci, ach⟩, acg, Vh⟩ := eu.facts Bt)); (try ((first | have Bo : eu W0 w' _ := eu.below (eu.alloc (eu.new bel rfl)) hb6 | have Bo : eu W0 w' _ := eu.below (eu.drew (eu.alloc (eu.new bel rfl))) hb6); (try simp only [World.size_alloc] at Bo); (try dsimp only [World.drew] at Bo); (try simp only [World.size_alloc] at Bo); obtain ⟨⟨acf, ace⟩, ⟨acd, acb⟩, ⟨aca, abz⟩, ⟨aby, abx⟩, abw, Vg⟩ := eu.facts Bo)); (try ((first | have Cb : eu W0 w' _ := eu.below zn hb6 | have Cb : eu W0 w' _ := eu.below (eu.alloc zn) hb6 | have Cb : eu W0 w' _ := eu.below (eu.alloc (eu.alloc zn)) hb6); (try simp only [World.size_alloc] at Cb); (try dsimp only [World.drew] at Cb); (try simp only [World.size_alloc] at Cb); obtain ⟨⟨agz, agy⟩, ⟨agx, agw⟩, ⟨agv, agu⟩, ⟨agt, ags⟩, agr, Yq⟩ := eu.facts Cb)); (try ((first | have Ca : eu W0 w' _ := eu.below zm hb6 | have Ca : eu W0 w' _ := eu.below (eu.alloc zm) hb6 | have Ca : eu W0 w' _ := eu.below (eu.alloc (eu.alloc zm)) hb6); (try simp only [World.size_alloc] at Ca); (try dsimp only [World.drew] at Ca); (try simp only [World.size_alloc] at Ca); obtain ⟨⟨agq, agp⟩, ⟨agn, agm⟩, ⟨agl, agk⟩, ⟨agj, agi⟩, agh, Yp⟩ := eu.facts Ca))))
  all_goals (go_wp2_with fail; go_meet; refine ⟨_, _, rfl, rfl, ?_⟩; first | with_reducible exact zz ⟨by assumption, by assumption, by first | assumption | omega⟩ kz og hbw | with_reducible exact zz (Ig.Sq (by assumption) rfl) kz.alloc og.alloc (je hbw _) | with_reducible exact zz (Ig.Sr (by assumption) rfl) kz.alloc og.alloc (je hbw _) | with_reducible exact Le kz og hbw rfl rfl | with_reducible exact Np kz og hbw rfl rfl | with_reducible exact Nn (by assumption) kz og hbw rfl)
 case rest =>
  revert hcut
  generalize wc = W1
  intro hcut
  obtain ⟨b5, b6, rfl, rfl, B5, B6, hbx, Hd, Jz⟩ := hcut
  obtain ⟨hc, hfz⟩ := az hbx
  replace jl := (hc _ _ q0).trans jl
  replace jk := (hc _ _ q0).trans jk
  replace jy := (hc _ _ q0).trans jy
  replace ky := (hc _ _ q0).trans ky
  replace q0 := Nat.lt_of_lt_of_le q0 hbx.size
  replace jq := (hc _ _ q1).trans jq
  replace jo := (hc _ _ q1).trans jo
  replace lh := (hc _ _ q1).trans lh
  replace lv := (hc _ _ q1).trans lv
  replace q1 := Nat.lt_of_lt_of_le q1 hbx.size
  replace Hd : w.heap.size + 1 + 1 < b5 := Nat.lt_of_lt_of_le q2 Hd
  replace Jz : w.heap.size + 1 + 1 < b6 := Nat.lt_of_lt_of_le q2 Jz
  replace qw := (hc _ _ q2).trans qw
  replace uj := (hfz _ _ q2).trans uj
  replace qo := (hc _ _ q2).trans qo
  replace ui := (hfz _ _ q2).trans ui
  replace qm := (hc _ _ q2).trans qm
  replace uh := (hfz _ _ q2).trans uh
  replace qj := (hc _ _ q2).trans qj
  replace ug := (hfz _ _ q2).trans ug
  replace NR := Lib.hid ((hbx.block _ q2).trans NR.out)
  replace q2 := Nat.lt_of_lt_of_le q2 hbx.size
  replace hw0 := au hw0 hbx
  replace H1 := hide ((aa H1).below hbx)
  replace H3 := hide ((aa H3).below hbx)
  obtain ⟨A5, c5, l5, m5, n5, H5⟩ := B5
  have tu : W1.cell? ⟨b5, 0, none⟩ = some (.slice A5 l5.length c5) := ag n5 0
  have tq : W1.cell? ⟨b5, 1, none⟩ = some (.bool m5) := ag n5 1
  have qi := lt_of_block n5
  replace H5 := hide H5
  clear n5
  obtain ⟨A6, c6, l6, m6, n6, H6⟩ := B6
  have sw : W1.cell? ⟨b6, 0, none⟩ = some (.slice A6 l6.length c6) := ag n6 0
  have su : W1.cell? ⟨b6, 1, none⟩ = some (.bool m6) := ag n6 1
  have qh := lt_of_block n6
  replace H6 := hide H6
  clear n6
  clear hbx hc hfz
  go_wp2_with fail
  refine ((aa Gf) A5 c5 l5 m5 _ hw0 (aa H5)).mono ?_
  rintro e W2 ⟨rfl, hbx⟩
  obtain ⟨hc, hfz⟩ := az hbx
  replace jl := (hc _ _ q0).trans jl
  replace jk := (hc _ _ q0).trans jk
  replace jy := (hc _ _ q0).trans jy
  replace ky := (hc _ _ q0).trans ky
  replace q0 := Nat.lt_of_lt_of_le q0 hbx.size
  replace jq := (hc _ _ q1).trans jq
  replace jo := (hc _ _ q1).trans jo
  replace lh := (hc _ _ q1).trans lh
  replace lv := (hc _ _ q1).trans lv
  replace q1 := Nat.lt_of_lt_of_le q1 hbx.size
  replace tu := (hc _ _ qi).trans tu
  replace tq := (hc _ _ qi).trans tq
  replace qi := Nat.lt_of_lt_of_le qi hbx.size
  replace sw := (hc _ _ qh).trans sw
  replace su := (hc _ _ qh).trans su
  replace qh := Nat.lt_of_lt_of_le qh hbx.size
  replace qw := (hc _ _ q2).trans qw
  replace uj := (hfz _ _ q2).trans uj
  replace qo := (hc _ _ q2).trans qo
  replace ui := (hfz _ _ q2).trans ui
  replace qm := (hc _ _ q2).trans qm
  replace uh := (hfz _ _ q2).trans uh
  replace qj := (hc _ _ q2).trans qj
  replace ug := (hfz _ _ q2).trans ug
  replace NR := Lib.hid ((hbx.block _ q2).trans NR.out)
  replace q2 := Nat.lt_of_lt_of_le q2 hbx.size
  replace hw0 := au hw0 hbx
  replace H1 := hide ((aa H1).below hbx)
  replace H3 := hide ((aa H3).below hbx)
  replace H5 := hide ((aa H5).below hbx)
  replace H6 := hide ((aa H6).below hbx)
  clear hbx hc hfz
  go_upto_region 4 with fail
  have KEEP := hide (show ∀ X, Below W2.heap.size W2 X → X.cell? ⟨w.heap.size, 0, none⟩ = some (.slice A1 l1.length c1) ∧ X.cell? ⟨w.heap.size, 1, none⟩ = some (.bool m1) ∧ X.cell? ⟨w.heap.size, 2, none⟩ = some (.slice A2 l2.length c2) ∧ X.cell? ⟨w.heap.size, 3, none⟩ = some (.bool m2) ∧ X.cell? ⟨w.heap.size + 1, 0, none⟩ = some (.slice A3 l3.length c3) ∧ X.cell? ⟨w.heap.size + 1, 1, none⟩ = some (.bool m3) ∧ X.cell? ⟨w.heap.size + 1, 2, none⟩ = some (.slice A4 l4.length c4) ∧ X.cell? ⟨w.heap.size + 1, 3, none⟩ = some (.bool m4) ∧ X.cell? ⟨b5, 0, none⟩ = some (.slice A5 l5.length c5) ∧ X.cell? ⟨b5, 1, none⟩ = some (.bool m5) ∧ X.cell? ⟨b6, 0, none⟩ = some (.slice A6 l6.length c6) ∧ X.cell? ⟨b6, 1, none⟩ = some (.bool m6) from fun X hB => ⟨ai hB q0 jl, ai hB q0 jk, ai hB q0 jy, ai hB q0 ky, ai hB q1 jq, ai hB q1 jo, ai hB q1 lh, ai hB q1 lv, ai hB qi tu, ai hB qi tq, ai hB qh sw, ai hB qh su⟩)
  go_region_held3 (fun w' => w'.cell? ⟨w.heap.size, 0, none⟩ = some (.slice A1 l1.length c1) ∧ w'.cell? ⟨w.heap.size, 1, none⟩ = some (.bool m1) ∧ w'.cell? ⟨w.heap.size, 2, none⟩ = some (.slice A2 l2.length c2) ∧ w'.cell? ⟨w.heap.size, 3, none⟩ = some (.bool m2) ∧ w'.cell? ⟨w.heap.size + 1, 0, none⟩ = some (.slice A3 l3.length c3) ∧ w'.cell? ⟨w.heap.size + 1, 1, none⟩ = some (.bool m3) ∧ w'.cell? ⟨w.heap.size + 1, 2, none⟩ = some (.slice A4 l4.length c4) ∧ w'.cell? ⟨w.heap.size + 1, 3, none⟩ = some (.bool m4) ∧ w'.cell? ⟨b5, 0, none⟩ = some (.slice A5 l5.length c5) ∧ w'.cell? ⟨b5, 1, none⟩ = some (.bool m5) ∧ w'.cell? ⟨b6, 0, none⟩ = some (.slice A6 l6.length c6) ∧ w'.cell? ⟨b6, 1, none⟩ = some (.bool m6)) (first | with_reducible exact ⟨(fu _ _ _ _ _ _ om).trans (ai hbw q0 jl), (fu _ _ _ _ _ _ om).trans (ai hbw q0 jk), (fu _ _ _ _ _ _ om).trans (ai hbw q0 jy), (fu _ _ _ _ _ _ om).trans (ai hbw q0 ky), (fu _ _ _ _ _ _ om).trans (ai hbw q1 jq), (fu _ _ _ _ _ _ om).trans (ai hbw q1 jo), (fu _ _ _ _ _ _ om).trans (ai hbw q1 lh), (fu _ _ _ _ _ _ om).trans (ai hbw q1 lv), (fu _ _ _ _ _ _ om).trans (ai hbw qi tu), (fu _ _ _ _ _ _ om).trans (ai hbw qi tq), (fu _ _ _ _ _ _ om).trans (ai hbw qh sw), (fu _ _ _ _ _ _ om).trans (ai hbw qh su)⟩ | with_reducible exact (aa KEEP) _ bel) (first | (go_at_call_of 98 (Value.agg #[.slice A1 l1.length c1, .bool m1]); refine ((aa HN) A1 c1 l1 m1 A3 c3 l3 m3 _ (au hw0 bel) (bg.below (aa H1) bel) (bg.below (aa H3) bel)).mono ?_; rintro e w' ⟨Ae, c10, l10, m10, rfl, zt, Cq⟩; have hbw := ay (w := W2) bel Cq; have hsw := hbw.size; obtain ⟨hc, hfz⟩ := az hbw) | (go_at_call_of 98 (Value.agg #[.slice A5 l5.length c5, .bool m5]); refine ((aa HM) A5 c5 l5 m5 A6 c6 l6 m6 _ (au hw0 bel) (bg.below (aa H5) bel) (bg.below (aa H6) bel)).mono ?_; rintro e w' ⟨Fv, c11, Fq, m11, rfl, Ec, Dx⟩; have zt := bg.below (bg.below zt bel) Dx; have hbw := ay (w := W2) bel Dx; have hsw := hbw.size; obtain ⟨hc, hfz⟩ := az hbw) | (go_at_call_of 92 (Value.agg #[.slice Ae l10.length c10, .bool m10]); refine ((aa HR) Ae c10 l10 m10 Fv c11 Fq m11 _ (au hw0 bel) (bg.below zt bel) (bg.below Ec bel)).mono ?_; rintro e w' ⟨Lc, c12, Ky, m12, Rz, c13, Rk, m13, rfl, Gq, Oo, Fh⟩; have zt := bg.below (bg.below zt bel) Fh; have Ec := bg.below (bg.below Ec bel) Fh; have hbw := ay (w := W2) bel Fh; have hsw := hbw.size; obtain ⟨hc, hfz⟩ := az hbw))
  all_goals
   have hblk : w'.heap[w.heap.size + 1 + 1]? = some (.cells #[.slice none 0 0, .bool false, .slice none 0 0, .bool false] 52 (0, 0)) := (hbw.block _ q2).trans NR.out
   have jd := Lib.hid hblk
   have gp : Below w.heap.size w w' := au hw0 hbw
   have hfi := (Gq)
   have hfj := (Oo)
   clear hblk
   go_wp2_with fail
   exact bodyPost_ret (v := (Value.agg #[.slice Lc Ky.length c12, .bool m12, .slice Rz Rk.length c13, .bool m13])) (by simp [results, Tryz.results45, go_sem, hc, qw, qo, qm, qj, q2]) rfl
    ⟨Lc, c12, Ky, m12, Rz, c13, Rk, m13, rfl, hfi.upto jd.out (qy _ _ _ _ _ _ _ _) (ig _ _ _ _ _ _), hfj.upto jd.out (qy _ _ _ _ _ _ _ _) (ig _ _ _ _ _ _), gp.grown (ig _ _ _ _ _ _) gp.size (fun k hk => by injection hk with hk; omega)⟩

end Go.Proofs.YtpjgoogeokbaaaaGreatDoor
namespace Go.Proofs.YtpjgoogeokbaaaaGreatDoor
open Go.RowKit

set_option maxHeartbeats 16000000 in
theorem bgk (A1 : Option Addr) (c1 : Nat) (l1 : List Nat) (m1 : Bool) (A2 : Option Addr) (c2 : Nat) (l2 : List Nat) (m2 : Bool) (A3 : Option Addr) (c3 : Nat) (l3 : List Nat) (m3 : Bool) (A4 : Option Addr) (c4 : Nat) (l4 : List Nat) (m4 : Bool) (z1 b1 z3 b3 n d : Int) (q : Rat) (w : World) (f1 : bg w A1 c1 l1 m1 z1) (f3 : bg w A3 c3 l3 m3 z3)
  (hd1 : ∀ W, Below w.heap.size w W → Calls Tryz.prog 95 #[(Value.agg #[.slice A1 l1.length c1, .bool m1, .slice A2 l2.length c2, .bool m2])] W fun e w' => uq W b1 e w') (hd3 : ∀ W, Below w.heap.size w W → Calls Tryz.prog 95 #[(Value.agg #[.slice A3 l3.length c3, .bool m3, .slice A4 l4.length c4, .bool m4])] W fun e w' => uq W b3 e w')
  (ho1 : ∀ (A7 : Option Addr) (c7 : Nat) (l7 : List Nat) (m7 : Bool) (W : World), Below w.heap.size w W → bg W A7 c7 l7 m7 b1 → Calls Tryz.prog 96 #[(Value.agg #[.slice A7 l7.length c7, .bool m7])] W fun e w' => e = .returned (.bool true) ∧ Below W.heap.size W w') (ho3 : ∀ (A7 : Option Addr) (c7 : Nat) (l7 : List Nat) (m7 : Bool) (W : World), Below w.heap.size w W → bg W A7 c7 l7 m7 b3 → Calls Tryz.prog 96 #[(Value.agg #[.slice A7 l7.length c7, .bool m7])] W fun e w' => e = .returned (.bool false) ∧ Below W.heap.size W w') (hn : Gz w 98 z1 z3 n) (hm : Gz w 98 b1 b3 d) (hr : adx w 92 n d q) :
  Calls Tryz.prog 45 #[(Value.agg #[.slice A1 l1.length c1, .bool m1, .slice A2 l2.length c2, .bool m2]), (Value.agg #[.slice A3 l3.length c3, .bool m3, .slice A4 l4.length c4, .bool m4])] w fun e w' => QR w q e w' := by
 have H1 := hide f1
 have H3 := hide f3
 clear f1 f3
 have HD1 := hide hd1
 have HD3 := hide hd3
 have Gf := hide ho1
 have HO3 := hide ho3
 have HN := hide hn
 have HM := hide hm
 have HR := hide hr
 clear hd1 hd3 ho1 ho3 hn hm hr
 go_enter Tryz.func45, Tryz.ntmps45
 go_upto_region 1 with fail
 obtain ⟨n0, n1, n2, hsz, hw0⟩ := ll w (.cells #[.slice A1 l1.length c1, .bool m1, .slice A2 l2.length c2, .bool m2] 52) (.cells #[.slice A3 l3.length c3, .bool m3, .slice A4 l4.length c4, .bool m4] 52) (.cells #[.slice none 0 0, .bool false, .slice none 0 0, .bool false] 52)
 generalize (((w.alloc (.cells #[.slice A1 l1.length c1, .bool m1, .slice A2 l2.length c2, .bool m2] 52)).alloc (.cells #[.slice A3 l3.length c3, .bool m3, .slice A4 l4.length c4, .bool m4] 52)).alloc (.cells #[.slice none 0 0, .bool false, .slice none 0 0, .bool false] 52)) = W0 at *
 have jl : W0.cell? ⟨w.heap.size, 0, none⟩ = some (.slice A1 l1.length c1) := ag n0 0
 have jk : W0.cell? ⟨w.heap.size, 1, none⟩ = some (.bool m1) := ag n0 1
 have jy : W0.cell? ⟨w.heap.size, 2, none⟩ = some (.slice A2 l2.length c2) := ag n0 2
 have ky : W0.cell? ⟨w.heap.size, 3, none⟩ = some (.bool m2) := ag n0 3
 have q0 : w.heap.size < W0.heap.size := by omega
 have jq : W0.cell? ⟨w.heap.size + 1, 0, none⟩ = some (.slice A3 l3.length c3) := ag n1 0
 have jo : W0.cell? ⟨w.heap.size + 1, 1, none⟩ = some (.bool m3) := ag n1 1
 have lh : W0.cell? ⟨w.heap.size + 1, 2, none⟩ = some (.slice A4 l4.length c4) := ag n1 2
 have lv : W0.cell? ⟨w.heap.size + 1, 3, none⟩ = some (.bool m4) := ag n1 3
 have q1 : w.heap.size + 1 < W0.heap.size := by omega
 have qw : W0.cell? ⟨w.heap.size + 1 + 1, 0, none⟩ = some (.slice none 0 0) := ag n2 0
 have qo : W0.cell? ⟨w.heap.size + 1 + 1, 1, none⟩ = some (.bool false) := ag n2 1
 have qm : W0.cell? ⟨w.heap.size + 1 + 1, 2, none⟩ = some (.slice none 0 0) := ag n2 2
 have qj : W0.cell? ⟨w.heap.size + 1 + 1, 3, none⟩ = some (.bool false) := ag n2 3
 have q2 : w.heap.size + 1 + 1 < W0.heap.size := by omega
 have uj := ah n2 0
 have ui := ah n2 1
 have uh := ah n2 2
 have ug := ah n2 3
 have NR := Lib.hid n2
 clear hsz n0 n1 n2
 replace H1 := hide ((aa H1).below hw0)
 replace H3 := hide ((aa H3).below hw0)
 go_upto_region 1 with fail
 go_cut [5, 6] (fun Me Ra wx => ∃ b5 b6 : Nat, Me = .pointer (some ⟨b5, 0, none⟩) ∧ Ra = .pointer (some ⟨b6, 0, none⟩) ∧ xx wx b5 b1 ∧ xx wx b6 b3 ∧ Below W0.heap.size W0 wx ∧ W0.heap.size ≤ b5 ∧ W0.heap.size ≤ b6)
 case first =>
  have KEEP := hide (show ∀ X, Below W0.heap.size W0 X → X.cell? ⟨w.heap.size, 0, none⟩ = some (.slice A1 l1.length c1) ∧ X.cell? ⟨w.heap.size, 1, none⟩ = some (.bool m1) ∧ X.cell? ⟨w.heap.size, 2, none⟩ = some (.slice A2 l2.length c2) ∧ X.cell? ⟨w.heap.size, 3, none⟩ = some (.bool m2) ∧ X.cell? ⟨w.heap.size + 1, 0, none⟩ = some (.slice A3 l3.length c3) ∧ X.cell? ⟨w.heap.size + 1, 1, none⟩ = some (.bool m3) ∧ X.cell? ⟨w.heap.size + 1, 2, none⟩ = some (.slice A4 l4.length c4) ∧ X.cell? ⟨w.heap.size + 1, 3, none⟩ = some (.bool m4) from fun X hB => ⟨ai hB q0 jl, ai hB q0 jk, ai hB q0 jy, ai hB q0 ky, ai hB q1 jq, ai hB q1 jo, ai hB q1 lh, ai hB q1 lv⟩)
  go_region_held3 (fun w' => w'.cell? ⟨w.heap.size, 0, none⟩ = some (.slice A1 l1.length c1) ∧ w'.cell? ⟨w.heap.size, 1, none⟩ = some (.bool m1) ∧ w'.cell? ⟨w.heap.size, 2, none⟩ = some (.slice A2 l2.length c2) ∧ w'.cell? ⟨w.heap.size, 3, none⟩ = some (.bool m2) ∧ w'.cell? ⟨w.heap.size + 1, 0, none⟩ = some (.slice A3 l3.length c3) ∧ w'.cell? ⟨w.heap.size + 1, 1, none⟩ = some (.bool m3) ∧ w'.cell? ⟨w.heap.size + 1, 2, none⟩ = some (.slice A4 l4.length c4) ∧ w'.cell? ⟨w.heap.size + 1, 3, none⟩ = some (.bool m4)) (exact (aa KEEP) _ (by (repeat (first | with_reducible exact Below.refl _ _ | with_reducible assumption | with_reducible refine Below.drew ?_ | with_reducible refine je ?_ _ | (with_reducible refine Eg ?_ ?_ _ _; rotate_left; (first | omega | (simp <;> omega))))))) (first | (go_at_call_of 95 (Value.agg #[.slice A1 l1.length c1, .bool m1, .slice A2 l2.length c2, .bool m2]); refine ((aa HD1) _ (au hw0 bel)).mono ?_; rintro e w' ⟨A5, c5, l5, m5, rfl, kz, hb5⟩; have hbw := ay (w := W0) bel hb5; have hsw := hbw.size; obtain ⟨hc, hfz⟩ := az hbw; (try ((first | have zn : eu W0 w' _ := eu.below (eu.new bel rfl) hb5 | have zn : eu W0 w' _ := eu.below (eu.drew (eu.new bel rfl)) hb5); (try simp only [World.size_alloc] at zn); (try dsimp only [World.drew] at zn); (try simp only [World.size_alloc] at zn); obtain ⟨⟨ahr, ahq⟩, ⟨ahp, aho⟩, ⟨ahn, ahm⟩, ⟨ahl, ahk⟩, ahj, Yu⟩ := eu.facts zn)); (try ((first | have zm : eu W0 w' _ := eu.below (eu.alloc (eu.new bel rfl)) hb5 | have zm : eu W0 w' _ := eu.below (eu.drew (eu.alloc (eu.new bel rfl))) hb5); (try simp only [World.size_alloc] at zm); (try dsimp only [World.drew] at zm); (try simp only [World.size_alloc] at zm); obtain ⟨⟨ahi, ahh⟩, ⟨ahg, ahf⟩, ⟨ahe, ahd⟩, ⟨ahc, ahb⟩, aha, Yr⟩ := eu.facts zm))) | (go_at_call_of 95 (Value.agg #[.slice A3 l3.length c3, .bool m3, .slice A4 l4.length c4, .bool m4]); refine ((aa HD3) _ (au hw0 bel)).mono ?_; rintro e w' ⟨A6, c6, l6, m6, rfl, og, hb6⟩; have kz := bg.below (bg.below kz bel) hb6; have hbw := ay (w := W0) bel hb6; have hsw := hbw.size; obtain ⟨hc, hfz⟩ := az hbw; (try ((first | have Bt : eu W0 w' _ := eu.below (eu.new bel rfl) hb6 | have Bt : eu W0 w' _ := eu.below (eu.drew (eu.new bel rfl)) hb6); (try simp only [World.size_alloc] at Bt); (try dsimp only [World.drew] at Bt); (try simp only [World.size_alloc] at Bt); obtain ⟨⟨acp, aco⟩, ⟨acn, acm⟩, ⟨ack, acj⟩, ⟨aci, ach⟩, acg, Vh⟩ := eu.facts Bt)); (try ((first | have Bo : eu W0 w' _ := eu.below (eu.alloc (eu.new bel rfl)) hb6 | have Bo : eu W0 w' _ := eu.below (eu.drew (eu.alloc (eu.new bel rfl))) hb6); (try simp only [World.size_alloc] at Bo); (try dsimp only [World.drew] at Bo); (try simp only [World.size_alloc] at Bo); obtain ⟨⟨acf, ace⟩, ⟨acd, acb⟩, ⟨aca, abz⟩, ⟨aby, abx⟩, abw, Vg⟩ := eu.facts Bo)); (try ((first | have Cb : eu W0 w' _ := eu.below zn hb6 | have Cb : eu W0 w' _ := eu.below (eu.alloc zn) hb6 | have Cb : eu W0 w' _ := eu.below (eu.alloc (eu.alloc zn)) hb6); (try simp only [World.size_alloc] at Cb); (try dsimp only [World.drew] at Cb); (try simp only [World.size_alloc] at Cb); obtain ⟨⟨agz, agy⟩, ⟨agx, agw⟩, ⟨agv, agu⟩, ⟨agt, ags⟩, agr, Yq⟩ := eu.facts Cb)); (try ((first | have Ca : eu W0 w' _ := eu.below zm hb6 | have Ca : eu W0 w' _ := eu.below (eu.alloc zm) hb6 | have Ca : eu W0 w' _ := eu.below (eu.alloc (eu.alloc zm)) hb6); (try simp only [World.size_alloc] at Ca); (try dsimp only [World.drew] at Ca); (try simp only [World.size_alloc] at Ca); obtain ⟨⟨agq, agp⟩, ⟨agn, agm⟩, ⟨agl, agk⟩, ⟨agj, agi⟩, agh, Yp⟩ := eu.facts Ca))))
  all_goals (go_wp2_with fail; go_meet; refine ⟨_, _, rfl, rfl, ?_⟩; first | with_reducible exact zz ⟨by assumption, by assumption, by first | assumption | omega⟩ kz og hbw | with_reducible exact zz (Ig.Sq (by assumption) rfl) kz.alloc og.alloc (je hbw _) | with_reducible exact zz (Ig.Sr (by assumption) rfl) kz.alloc og.alloc (je hbw _) | with_reducible exact Le kz og hbw rfl rfl | with_reducible exact Np kz og hbw rfl rfl | with_reducible exact Nn (by assumption) kz og hbw rfl)
 case rest =>
  revert hcut
  generalize wc = W1
  intro hcut
  obtain ⟨b5, b6, rfl, rfl, B5, B6, hbx, Hd, Jz⟩ := hcut
  obtain ⟨hc, hfz⟩ := az hbx
  replace jl := (hc _ _ q0).trans jl
  replace jk := (hc _ _ q0).trans jk
  replace jy := (hc _ _ q0).trans jy
  replace ky := (hc _ _ q0).trans ky
  replace q0 := Nat.lt_of_lt_of_le q0 hbx.size
  replace jq := (hc _ _ q1).trans jq
  replace jo := (hc _ _ q1).trans jo
  replace lh := (hc _ _ q1).trans lh
  replace lv := (hc _ _ q1).trans lv
  replace q1 := Nat.lt_of_lt_of_le q1 hbx.size
  replace Hd : w.heap.size + 1 + 1 < b5 := Nat.lt_of_lt_of_le q2 Hd
  replace Jz : w.heap.size + 1 + 1 < b6 := Nat.lt_of_lt_of_le q2 Jz
  replace qw := (hc _ _ q2).trans qw
  replace uj := (hfz _ _ q2).trans uj
  replace qo := (hc _ _ q2).trans qo
  replace ui := (hfz _ _ q2).trans ui
  replace qm := (hc _ _ q2).trans qm
  replace uh := (hfz _ _ q2).trans uh
  replace qj := (hc _ _ q2).trans qj
  replace ug := (hfz _ _ q2).trans ug
  replace NR := Lib.hid ((hbx.block _ q2).trans NR.out)
  replace q2 := Nat.lt_of_lt_of_le q2 hbx.size
  replace hw0 := au hw0 hbx
  replace H1 := hide ((aa H1).below hbx)
  replace H3 := hide ((aa H3).below hbx)
  obtain ⟨A5, c5, l5, m5, n5, H5⟩ := B5
  have tu : W1.cell? ⟨b5, 0, none⟩ = some (.slice A5 l5.length c5) := ag n5 0
  have tq : W1.cell? ⟨b5, 1, none⟩ = some (.bool m5) := ag n5 1
  have qi := lt_of_block n5
  replace H5 := hide H5
  clear n5
  obtain ⟨A6, c6, l6, m6, n6, H6⟩ := B6
  have sw : W1.cell? ⟨b6, 0, none⟩ = some (.slice A6 l6.length c6) := ag n6 0
  have su : W1.cell? ⟨b6, 1, none⟩ = some (.bool m6) := ag n6 1
  have qh := lt_of_block n6
  replace H6 := hide H6
  clear n6
  clear hbx hc hfz
  go_wp2_with fail
  refine ((aa Gf) A5 c5 l5 m5 _ hw0 (aa H5)).mono ?_
  rintro e W2 ⟨rfl, hbx⟩
  obtain ⟨hc, hfz⟩ := az hbx
  replace jl := (hc _ _ q0).trans jl
  replace jk := (hc _ _ q0).trans jk
  replace jy := (hc _ _ q0).trans jy
  replace ky := (hc _ _ q0).trans ky
  replace q0 := Nat.lt_of_lt_of_le q0 hbx.size
  replace jq := (hc _ _ q1).trans jq
  replace jo := (hc _ _ q1).trans jo
  replace lh := (hc _ _ q1).trans lh
  replace lv := (hc _ _ q1).trans lv
  replace q1 := Nat.lt_of_lt_of_le q1 hbx.size
  replace tu := (hc _ _ qi).trans tu
  replace tq := (hc _ _ qi).trans tq
  replace qi := Nat.lt_of_lt_of_le qi hbx.size
  replace sw := (hc _ _ qh).trans sw
  replace su := (hc _ _ qh).trans su
  replace qh := Nat.lt_of_lt_of_le qh hbx.size
  replace qw := (hc _ _ q2).trans qw
  replace uj := (hfz _ _ q2).trans uj
  replace qo := (hc _ _ q2).trans qo
  replace ui := (hfz _ _ q2).trans ui
  replace qm := (hc _ _ q2).trans qm
  replace uh := (hfz _ _ q2).trans uh
  replace qj := (hc _ _ q2).trans qj
  replace ug := (hfz _ _ q2).trans ug
  replace NR := Lib.hid ((hbx.block _ q2).trans NR.out)
  replace q2 := Nat.lt_of_lt_of_le q2 hbx.size
  replace hw0 := au hw0 hbx
  replace H1 := hide ((aa H1).below hbx)
  replace H3 := hide ((aa H3).below hbx)
  replace H5 := hide ((aa H5).below hbx)
  replace H6 := hide ((aa H6).below hbx)
  clear hbx hc hfz
  go_wp2_with fail
  refine ((aa HO3) A6 c6 l6 m6 _ hw0 (aa H6)).mono ?_
  rintro e W3 ⟨rfl, hbx⟩
  obtain ⟨hc, hfz⟩ := az hbx
  replace jl := (hc _ _ q0).trans jl
  replace jk := (hc _ _ q0).trans jk
  replace jy := (hc _ _ q0).trans jy
  replace ky := (hc _ _ q0).trans ky
  replace q0 := Nat.lt_of_lt_of_le q0 hbx.size
  replace jq := (hc _ _ q1).trans jq
  replace jo := (hc _ _ q1).trans jo
  replace lh := (hc _ _ q1).trans lh
  replace lv := (hc _ _ q1).trans lv
  replace q1 := Nat.lt_of_lt_of_le q1 hbx.size
  replace tu := (hc _ _ qi).trans tu
  replace tq := (hc _ _ qi).trans tq
  replace qi := Nat.lt_of_lt_of_le qi hbx.size
  replace sw := (hc _ _ qh).trans sw
  replace su := (hc _ _ qh).trans su
  replace qh := Nat.lt_of_lt_of_le qh hbx.size
  replace qw := (hc _ _ q2).trans qw
  replace uj := (hfz _ _ q2).trans uj
  replace qo := (hc _ _ q2).trans qo
  replace ui := (hfz _ _ q2).trans ui
  replace qm := (hc _ _ q2).trans qm
  replace uh := (hfz _ _ q2).trans uh
  replace qj := (hc _ _ q2).trans qj
  replace ug := (hfz _ _ q2).trans ug
  replace NR := Lib.hid ((hbx.block _ q2).trans NR.out)
  replace q2 := Nat.lt_of_lt_of_le q2 hbx.size
  replace hw0 := au hw0 hbx
  replace H1 := hide ((aa H1).below hbx)
  replace H3 := hide ((aa H3).below hbx)
  replace H5 := hide ((aa H5).below hbx)
  replace H6 := hide ((aa H6).below hbx)
  clear hbx hc hfz
  go_upto_region 4 with fail
  have KEEP := hide (show ∀ X, Below W3.heap.size W3 X → X.cell? ⟨w.heap.size, 0, none⟩ = some (.slice A1 l1.length c1) ∧ X.cell? ⟨w.heap.size, 1, none⟩ = some (.bool m1) ∧ X.cell? ⟨w.heap.size, 2, none⟩ = some (.slice A2 l2.length c2) ∧ X.cell? ⟨w.heap.size, 3, none⟩ = some (.bool m2) ∧ X.cell? ⟨w.heap.size + 1, 0, none⟩ = some (.slice A3 l3.length c3) ∧ X.cell? ⟨w.heap.size + 1, 1, none⟩ = some (.bool m3) ∧ X.cell? ⟨w.heap.size + 1, 2, none⟩ = some (.slice A4 l4.length c4) ∧ X.cell? ⟨w.heap.size + 1, 3, none⟩ = some (.bool m4) ∧ X.cell? ⟨b5, 0, none⟩ = some (.slice A5 l5.length c5) ∧ X.cell? ⟨b5, 1, none⟩ = some (.bool m5) ∧ X.cell? ⟨b6, 0, none⟩ = some (.slice A6 l6.length c6) ∧ X.cell? ⟨b6, 1, none⟩ = some (.bool m6) from fun X hB => ⟨ai hB q0 jl, ai hB q0 jk, ai hB q0 jy, ai hB q0 ky, ai hB q1 jq, ai hB q1 jo, ai hB q1 lh, ai hB q1 lv, ai hB qi tu, ai hB qi tq, ai hB qh sw, ai hB qh su⟩)
  go_region_held3 (fun w' => w'.cell? ⟨w.heap.size, 0, none⟩ = some (.slice A1 l1.length c1) ∧ w'.cell? ⟨w.heap.size, 1, none⟩ = some (.bool m1) ∧ w'.cell? ⟨w.heap.size, 2, none⟩ = some (.slice A2 l2.length c2) ∧ w'.cell? ⟨w.heap.size, 3, none⟩ = some (.bool m2) ∧ w'.cell? ⟨w.heap.size + 1, 0, none⟩ = some (.slice A3 l3.length c3) ∧ w'.cell? ⟨w.heap.size + 1, 1, none⟩ = some (.bool m3) ∧ w'.cell? ⟨w.heap.size + 1, 2, none⟩ = some (.slice A4 l4.length c4) ∧ w'.cell? ⟨w.heap.size + 1, 3, none⟩ = some (.bool m4) ∧ w'.cell? ⟨b5, 0, none⟩ = some (.slice A5 l5.length c5) ∧ w'.cell? ⟨b5, 1, none⟩ = some (.bool m5) ∧ w'.cell? ⟨b6, 0, none⟩ = some (.slice A6 l6.length c6) ∧ w'.cell? ⟨b6, 1, none⟩ = some (.bool m6)) (first | with_reducible exact ⟨(fu _ _ _ _ _ _ om).trans (ai hbw q0 jl), (fu _ _ _ _ _ _ om).trans (ai hbw q0 jk), (fu _ _ _ _ _ _ om).trans (ai hbw q0 jy), (fu _ _ _ _ _ _ om).trans (ai hbw q0 ky), (fu _ _ _ _ _ _ om).trans (ai hbw q1 jq), (fu _ _ _ _ _ _ om).trans (ai hbw q1 jo), (fu _ _ _ _ _ _ om).trans (ai hbw q1 lh), (fu _ _ _ _ _ _ om).trans (ai hbw q1 lv), (fu _ _ _ _ _ _ om).trans (ai hbw qi tu), (fu _ _ _ _ _ _ om).trans (ai hbw qi tq), (fu _ _ _ _ _ _ om).trans (ai hbw qh sw), (fu _ _ _ _ _ _ om).trans (ai hbw qh su)⟩ | with_reducible exact (aa KEEP) _ bel) (first | (go_at_call_of 98 (Value.agg #[.slice A1 l1.length c1, .bool m1]); refine ((aa HN) A1 c1 l1 m1 A3 c3 l3 m3 _ (au hw0 bel) (bg.below (aa H1) bel) (bg.below (aa H3) bel)).mono ?_; rintro e w' ⟨Ae, c10, l10, m10, rfl, zt, Cq⟩; have hbw := ay (w := W3) bel Cq; have hsw := hbw.size; obtain ⟨hc, hfz⟩ := az hbw) | (go_at_call_of 98 (Value.agg #[.slice A5 l5.length c5, .bool m5]); refine ((aa HM) A5 c5 l5 m5 A6 c6 l6 m6 _ (au hw0 bel) (bg.below (aa H5) bel) (bg.below (aa H6) bel)).mono ?_; rintro e w' ⟨Fv, c11, Fq, m11, rfl, Ec, Dx⟩; have zt := bg.below (bg.below zt bel) Dx; have hbw := ay (w := W3) bel Dx; have hsw := hbw.size; obtain ⟨hc, hfz⟩ := az hbw) | (go_at_call_of 92 (Value.agg #[.slice Ae l10.length c10, .bool m10]); refine ((aa HR) Ae c10 l10 m10 Fv c11 Fq m11 _ (au hw0 bel) (bg.below zt bel) (bg.below Ec bel)).mono ?_; rintro e w' ⟨Lc, c12, Ky, m12, Rz, c13, Rk, m13, rfl, Gq, Oo, Fh⟩; have zt := bg.below (bg.below zt bel) Fh; have Ec := bg.below (bg.below Ec bel) Fh; have hbw := ay (w := W3) bel Fh; have hsw := hbw.size; obtain ⟨hc, hfz⟩ := az hbw))
  all_goals
   have hblk : w'.heap[w.heap.size + 1 + 1]? = some (.cells #[.slice none 0 0, .bool false, .slice none 0 0, .bool false] 52 (0, 0)) := (hbw.block _ q2).trans NR.out
   have jd := Lib.hid hblk
   have gp : Below w.heap.size w w' := au hw0 hbw
   have hfi := (Gq)
   have hfj := (Oo)
   clear hblk
   go_wp2_with fail
   exact bodyPost_ret (v := (Value.agg #[.slice Lc Ky.length c12, .bool m12, .slice Rz Rk.length c13, .bool m13])) (by simp [results, Tryz.results45, go_sem, hc, qw, qo, qm, qj, q2]) rfl
    ⟨Lc, c12, Ky, m12, Rz, c13, Rk, m13, rfl, hfi.upto jd.out (qy _ _ _ _ _ _ _ _) (ig _ _ _ _ _ _), hfj.upto jd.out (qy _ _ _ _ _ _ _ _) (ig _ _ _ _ _ _), gp.grown (ig _ _ _ _ _ _) gp.size (fun k hk => by injection hk with hk; omega)⟩

end Go.Proofs.YtpjgoogeokbaaaaGreatDoor
namespace Go.Proofs.YtpjgoogeokbaaaaGreatDoor
open Go.RowKit

set_option maxHeartbeats 16000000 in
theorem atu (A1 : Option Addr) (c1 : Nat) (l1 : List Nat) (m1 : Bool) (A2 : Option Addr) (c2 : Nat) (l2 : List Nat) (m2 : Bool) (A3 : Option Addr) (c3 : Nat) (l3 : List Nat) (m3 : Bool) (A4 : Option Addr) (c4 : Nat) (l4 : List Nat) (m4 : Bool) (z1 b1 z3 b3 n d : Int) (p q : Rat) (w : World) (f1 : bg w A1 c1 l1 m1 z1) (f3 : bg w A3 c3 l3 m3 z3)
  (hd1 : ∀ W, Below w.heap.size w W → Calls Tryz.prog 95 #[(Value.agg #[.slice A1 l1.length c1, .bool m1, .slice A2 l2.length c2, .bool m2])] W fun e w' => uq W b1 e w') (hd3 : ∀ W, Below w.heap.size w W → Calls Tryz.prog 95 #[(Value.agg #[.slice A3 l3.length c3, .bool m3, .slice A4 l4.length c4, .bool m4])] W fun e w' => uq W b3 e w') (hn : Gz w 98 z1 b3 n) (hm : Gz w 98 b1 z3 d) (hr : adx w 92 n d q) :
  Calls Tryz.prog 47 #[(Value.agg #[.slice A1 l1.length c1, .bool m1, .slice A2 l2.length c2, .bool m2]), (Value.agg #[.slice A3 l3.length c3, .bool m3, .slice A4 l4.length c4, .bool m4])] w fun e w' => QR w q e w' := by
 have H1 := hide f1
 have H3 := hide f3
 clear f1 f3
 have HD1 := hide hd1
 have HD3 := hide hd3
 have HN := hide hn
 have HM := hide hm
 have HR := hide hr
 clear hd1 hd3 hn hm hr
 go_enter Tryz.func47, Tryz.ntmps47
 go_upto_region 1 with fail
 obtain ⟨n0, n1, n2, hsz, hw0⟩ := ll w (.cells #[.slice A1 l1.length c1, .bool m1, .slice A2 l2.length c2, .bool m2] 52) (.cells #[.slice A3 l3.length c3, .bool m3, .slice A4 l4.length c4, .bool m4] 52) (.cells #[.slice none 0 0, .bool false, .slice none 0 0, .bool false] 52)
 generalize (((w.alloc (.cells #[.slice A1 l1.length c1, .bool m1, .slice A2 l2.length c2, .bool m2] 52)).alloc (.cells #[.slice A3 l3.length c3, .bool m3, .slice A4 l4.length c4, .bool m4] 52)).alloc (.cells #[.slice none 0 0, .bool false, .slice none 0 0, .bool false] 52)) = W0 at *
 have jl : W0.cell? ⟨w.heap.size, 0, none⟩ = some (.slice A1 l1.length c1) := ag n0 0
 have jk : W0.cell? ⟨w.heap.size, 1, none⟩ = some (.bool m1) := ag n0 1
 have jy : W0.cell? ⟨w.heap.size, 2, none⟩ = some (.slice A2 l2.length c2) := ag n0 2
 have ky : W0.cell? ⟨w.heap.size, 3, none⟩ = some (.bool m2) := ag n0 3
 have q0 : w.heap.size < W0.heap.size := by omega
 have jq : W0.cell? ⟨w.heap.size + 1, 0, none⟩ = some (.slice A3 l3.length c3) := ag n1 0
 have jo : W0.cell? ⟨w.heap.size + 1, 1, none⟩ = some (.bool m3) := ag n1 1
 have lh : W0.cell? ⟨w.heap.size + 1, 2, none⟩ = some (.slice A4 l4.length c4) := ag n1 2
 have lv : W0.cell? ⟨w.heap.size + 1, 3, none⟩ = some (.bool m4) := ag n1 3
 have q1 : w.heap.size + 1 < W0.heap.size := by omega
 have qw : W0.cell? ⟨w.heap.size + 1 + 1, 0, none⟩ = some (.slice none 0 0) := ag n2 0
 have qo : W0.cell? ⟨w.heap.size + 1 + 1, 1, none⟩ = some (.bool false) := ag n2 1
 have qm : W0.cell? ⟨w.heap.size + 1 + 1, 2, none⟩ = some (.slice none 0 0) := ag n2 2
 have qj : W0.cell? ⟨w.heap.size + 1 + 1, 3, none⟩ = some (.bool false) := ag n2 3
 have q2 : w.heap.size + 1 + 1 < W0.heap.size := by omega
 have uj := ah n2 0
 have ui := ah n2 1
 have uh := ah n2 2
 have ug := ah n2 3
 have NR := Lib.hid n2
 clear hsz n0 n1 n2
 replace H1 := hide ((aa H1).below hw0)
 replace H3 := hide ((aa H3).below hw0)
 go_upto_region 1 with fail
 have KEEP := hide (show ∀ X, Below W0.heap.size W0 X → X.cell? ⟨w.heap.size, 0, none⟩ = some (.slice A1 l1.length c1) ∧ X.cell? ⟨w.heap.size, 1, none⟩ = some (.bool m1) ∧ X.cell? ⟨w.heap.size, 2, none⟩ = some (.slice A2 l2.length c2) ∧ X.cell? ⟨w.heap.size, 3, none⟩ = some (.bool m2) ∧ X.cell? ⟨w.heap.size + 1, 0, none⟩ = some (.slice A3 l3.length c3) ∧ X.cell? ⟨w.heap.size + 1, 1, none⟩ = some (.bool m3) ∧ X.cell? ⟨w.heap.size + 1, 2, none⟩ = some (.slice A4 l4.length c4) ∧ X.cell? ⟨w.heap.size + 1, 3, none⟩ = some (.bool m4) from fun X hB => ⟨ai hB q0 jl, ai hB q0 jk, ai hB q0 jy, ai hB q0 ky, ai hB q1 jq, ai hB q1 jo, ai hB q1 lh, ai hB q1 lv⟩)
 go_region_held3 (fun w' => w'.cell? ⟨w.heap.size, 0, none⟩ = some (.slice A1 l1.length c1) ∧ w'.cell? ⟨w.heap.size, 1, none⟩ = some (.bool m1) ∧ w'.cell? ⟨w.heap.size, 2, none⟩ = some (.slice A2 l2.length c2) ∧ w'.cell? ⟨w.heap.size, 3, none⟩ = some (.bool m2) ∧ w'.cell? ⟨w.heap.size + 1, 0, none⟩ = some (.slice A3 l3.length c3) ∧ w'.cell? ⟨w.heap.size + 1, 1, none⟩ = some (.bool m3) ∧ w'.cell? ⟨w.heap.size + 1, 2, none⟩ = some (.slice A4 l4.length c4) ∧ w'.cell? ⟨w.heap.size + 1, 3, none⟩ = some (.bool m4)) (first | with_reducible exact ⟨(fu _ _ _ _ _ _ om).trans (ai hbw q0 jl), (fu _ _ _ _ _ _ om).trans (ai hbw q0 jk), (fu _ _ _ _ _ _ om).trans (ai hbw q0 jy), (fu _ _ _ _ _ _ om).trans (ai hbw q0 ky), (fu _ _ _ _ _ _ om).trans (ai hbw q1 jq), (fu _ _ _ _ _ _ om).trans (ai hbw q1 jo), (fu _ _ _ _ _ _ om).trans (ai hbw q1 lh), (fu _ _ _ _ _ _ om).trans (ai hbw q1 lv)⟩ | with_reducible exact (aa KEEP) _ bel) (first | (go_at_call_of 95 (Value.agg #[.slice A3 l3.length c3, .bool m3, .slice A4 l4.length c4, .bool m4]); refine ((aa HD3) _ (au hw0 bel)).mono ?_; rintro e w' ⟨A5, c5, l5, m5, rfl, kz, hb5⟩; have hbw := ay (w := W0) bel hb5; have hsw := hbw.size; obtain ⟨hc, hfz⟩ := az hbw) | (go_at_call_of 98 (Value.agg #[.slice A1 l1.length c1, .bool m1]); refine ((aa HN) A1 c1 l1 m1 A5 c5 l5 m5 _ (au hw0 bel) (bg.below (aa H1) bel) (bg.below kz bel)).mono ?_; rintro e w' ⟨A7, c7, l7, m7, rfl, Au, yf⟩; have kz := bg.below (bg.below kz bel) yf; have hbw := ay (w := W0) bel yf; have hsw := hbw.size; obtain ⟨hc, hfz⟩ := az hbw) | (go_at_call_of 95 (Value.agg #[.slice A1 l1.length c1, .bool m1, .slice A2 l2.length c2, .bool m2]); refine ((aa HD1) _ (au hw0 bel)).mono ?_; rintro e w' ⟨A6, c6, l6, m6, rfl, og, hb6⟩; have kz := bg.below (bg.below kz bel) hb6; have Au := bg.below (bg.below Au bel) hb6; have hbw := ay (w := W0) bel hb6; have hsw := hbw.size; obtain ⟨hc, hfz⟩ := az hbw) | (go_at_call_of 98 (Value.agg #[.slice A6 l6.length c6, .bool m6]); refine ((aa HM) A6 c6 l6 m6 A3 c3 l3 m3 _ (au hw0 bel) (bg.below og bel) (bg.below (aa H3) bel)).mono ?_; rintro e w' ⟨A8, c8, l8, m8, rfl, wh, La⟩; have kz := bg.below (bg.below kz bel) La; have Au := bg.below (bg.below Au bel) La; have og := bg.below (bg.below og bel) La; have hbw := ay (w := W0) bel La; have hsw := hbw.size; obtain ⟨hc, hfz⟩ := az hbw) | (go_at_call_of 92 (Value.agg #[.slice A7 l7.length c7, .bool m7]); refine ((aa HR) A7 c7 l7 m7 A8 c8 l8 m8 _ (au hw0 bel) (bg.below Au bel) (bg.below wh bel)).mono ?_; rintro e w' ⟨A9, c9, l9, m9, Ae, c10, l10, m10, rfl, En, zt, gp⟩; have kz := bg.below (bg.below kz bel) gp; have Au := bg.below (bg.below Au bel) gp; have og := bg.below (bg.below og bel) gp; have wh := bg.below (bg.below wh bel) gp; have hbw := ay (w := W0) bel gp; have hsw := hbw.size; obtain ⟨hc, hfz⟩ := az hbw))
 all_goals
  have hblk : w'.heap[w.heap.size + 1 + 1]? = some (.cells #[.slice none 0 0, .bool false, .slice none 0 0, .bool false] 52 (0, 0)) := (hbw.block _ q2).trans NR.out
  have jd := Lib.hid hblk
  have gp : Below w.heap.size w w' := au hw0 hbw
  have hfi := (En)
  have hfj := (zt)
  clear hblk
  go_wp2_with fail
  exact bodyPost_ret (v := (Value.agg #[.slice A9 l9.length c9, .bool m9, .slice Ae l10.length c10, .bool m10])) (by simp [results, Tryz.results47, go_sem, hc, qw, qo, qm, qj, q2]) rfl
   ⟨A9, c9, l9, m9, Ae, c10, l10, m10, rfl, hfi.upto jd.out (qy _ _ _ _ _ _ _ _) (ig _ _ _ _ _ _), hfj.upto jd.out (qy _ _ _ _ _ _ _ _) (ig _ _ _ _ _ _), gp.grown (ig _ _ _ _ _ _) gp.size (fun k hk => by injection hk with hk; omega)⟩

end Go.Proofs.YtpjgoogeokbaaaaGreatDoor
namespace Go.Proofs.YtpjgoogeokbaaaaGreatDoor
open Go.RowKit

theorem aeh (K : Nat) (A1 : Option Addr) (c1 : Nat) (l1 : List Nat) (m1 : Bool) (A2 : Option Addr) (c2 : Nat) (l2 : List Nat) (m2 : Bool) (A3 : Option Addr) (c3 : Nat) (l3 : List Nat) (m3 : Bool) (A4 : Option Addr) (c4 : Nat) (l4 : List Nat) (m4 : Bool) (x y : Rat) (w : World) (h1 : QV w A1 c1 l1 m1 A2 c2 l2 m2 x) (h2 : QV w A3 c3 l3 m3 A4 c4 l4 m4 y) (sx : Wd.xy di K x) (sy : Wd.xy di K y) (hK : 4 * K + 4 ≤ 35184372088832) :
  Calls Tryz.prog 45 #[.agg #[.slice A1 l1.length c1, .bool m1, .slice A2 l2.length c2, .bool m2], .agg #[.slice A3 l3.length c3, .bool m3, .slice A4 l4.length c4, .bool m4]] w fun e w' => QR w (x * y) e w' := by
 have hd1 := fun W (hW : Below w.heap.size w W) => Dm A1 c1 l1 m1 A2 c2 l2 m2 x W (h1.below hW)
 have hd3 := fun W (hW : Below w.heap.size w W) => Dm A3 c3 l3 m3 A4 c4 l4 m4 y W (h2.below hW)
 have hx := x.den_nz; have hy := y.den_nz
 have an := Oa (w := w) sx.1 sy.1 om rfl
 have am := Oa (w := w) sx.2 sy.2 om rfl
 have ar := Xk (w := w) (sx.1.mul sy.1) (sx.2.mul sy.2) (Int.mul_ne_zero om om) om (Wd.aoy x y)
 by_cases e1 : (x.den : Int) = 1
 ·
  by_cases e2 : (y.den : Int) = 1
  ·
   exact bgj A1 c1 l1 m1 A2 c2 l2 m2 A3 c3 l3 m3 A4 c4 l4 m4 x.num (x.den : Int) y.num (y.den : Int) _ (x * y) w h1.num h2.num hd1 hd3 (Lt (decide_eq_true e1).symm) (Lt (decide_eq_true e2).symm) an (Wd.bbt e1 e2).1 (Wd.bbt e1 e2).2
  ·
   exact bgk A1 c1 l1 m1 A2 c2 l2 m2 A3 c3 l3 m3 A4 c4 l4 m4 x.num (x.den : Int) y.num (y.den : Int) _ _ (x * y) w h1.num h2.num hd1 hd3 (Lt (decide_eq_true e1).symm) (Lt (decide_eq_false e2).symm) an am ar
 ·
  exact bic A1 c1 l1 m1 A2 c2 l2 m2 A3 c3 l3 m3 A4 c4 l4 m4 x.num (x.den : Int) y.num (y.den : Int) _ _ (x * y) w h1.num h2.num hd1 hd3 (Lt (decide_eq_false e1).symm) an am ar
theorem aei (K : Nat) (A1 : Option Addr) (c1 : Nat) (l1 : List Nat) (m1 : Bool) (A2 : Option Addr) (c2 : Nat) (l2 : List Nat) (m2 : Bool) (A3 : Option Addr) (c3 : Nat) (l3 : List Nat) (m3 : Bool) (A4 : Option Addr) (c4 : Nat) (l4 : List Nat) (m4 : Bool) (x y : Rat) (w : World) (h1 : QV w A1 c1 l1 m1 A2 c2 l2 m2 x) (h2 : QV w A3 c3 l3 m3 A4 c4 l4 m4 y) (sx : Wd.xy di K x) (sy : Wd.xy di K y) (hK : 4 * K + 4 ≤ 35184372088832) (h0 : y.num ≠ 0) :
  Calls Tryz.prog 47 #[.agg #[.slice A1 l1.length c1, .bool m1, .slice A2 l2.length c2, .bool m2], .agg #[.slice A3 l3.length c3, .bool m3, .slice A4 l4.length c4, .bool m4]] w fun e w' => QR w (x / y) e w' := by
 have hx := x.den_nz
 exact atu A1 c1 l1 m1 A2 c2 l2 m2 A3 c3 l3 m3 A4 c4 l4 m4 x.num (x.den : Int) y.num (y.den : Int) _ _ x (x / y) w h1.num h2.num
  (fun W hW => Dm A1 c1 l1 m1 A2 c2 l2 m2 x W (h1.below hW)) (fun W hW => Dm A3 c3 l3 m3 A4 c4 l4 m4 y W (h2.below hW))
  (Oa sx.1 sy.2 om rfl) (Oa sx.2 sy.1 om rfl) (Xk (sx.1.mul sy.2) (sx.2.mul sy.1) (Int.mul_ne_zero om h0) om (Wd.bpb x y))
end Go.Proofs.YtpjgoogeokbaaaaGreatDoor
namespace Go.Proofs.YtpjgoogeokbaaaaGreatDoor
open Go.RowKit

set_option maxHeartbeats 2000000 in
theorem aof (A1 : Option Addr) (c1 : Nat) (l1 : List Nat) (m1 : Bool) (A2 : Option Addr) (c2 : Nat) (l2 : List Nat) (m2 : Bool) (q : Rat) (w : World) (h : QV w A1 c1 l1 m1 A2 c2 l2 m2 q) :
  Calls Tryz.prog 116 #[(Value.agg #[.slice A1 l1.length c1, .bool m1, .slice A2 l2.length c2, .bool m2])] w fun e w' => e = .returned (.int .i64 (gm q.num)) ∧ Below w.heap.size w w' := by
 have hz := h.num.nat.Gm
 have hs := h.num.sign
 have HI := hide (fun W => Si A1 c1 l1.length m1 W)
 obtain ⟨n0, hsz, hw0⟩ := Db w (.cells #[.slice A1 l1.length c1, .bool m1, .slice A2 l2.length c2, .bool m2] 52)
 by_cases h0 : l1.length = 0
 ·
  have e : gm q.num = 0 := by
   have h1 := hz.2 h0
   have h2 : q.num = 0 := by omega
   rw [h2]; rfl
  rw [e]
  rw [decide_eq_true h0] at HI
  clear h hz hs e h0
  go_enter Tryz.func116, Tryz.ntmps116
  go_wp2_with fail
  refine ((aa HI) _).mono ?_
  rintro e w' ⟨rfl, hb⟩
  have gp := au hw0 hb
  clear hb hsz n0
  go_wp2_with fail
  all_goals first | go_ret | skip
  exact ⟨rfl, gp⟩
 ·
  have hn0 : ¬ q.num = 0 := fun h1 => h0 (hz.1 (by rw [h1]; rfl))
  have e : gm q.num = if m1 = true then -1 else 1 := by
   rw [hs]
   by_cases a : q.num < 0
   ·
    simp [gm, a]
   ·
    have : 0 < q.num := by omega
    simp only [gm, a, decide_false]
    simp <;> omega
  rw [e]
  rw [decide_eq_false h0] at HI
  clear h hz hs e h0 hn0
  cases m1
  all_goals
   go_enter Tryz.func116, Tryz.ntmps116
   go_wp2_with fail
   generalize w.alloc _ = W0 at *
   have k1 : W0.cell? ⟨w.heap.size, 1, none⟩ = some (.bool _) := ag n0 1
   have q0 := lt_of_block n0
   clear n0 hsz
   refine ((aa HI) _).mono ?_
   rintro e w' ⟨rfl, hb⟩
   obtain ⟨hc, hfz⟩ := az hb
   replace k1 := (hc _ _ q0).trans k1
   have gp := au hw0 hb
   clear hb hc hfz
   go_wp2_with fail
   all_goals first | go_ret | skip
   exact ⟨rfl, gp⟩

end Go.Proofs.YtpjgoogeokbaaaaGreatDoor
namespace Go.Proofs.YtpjgoogeokbaaaaGreatDoor
open Go.RowKit

set_option maxHeartbeats 2000000 in
theorem Xf (n : Int) (q : Rat) (w : World) (b1 : -9223372036854775808 ≤ n) (b2 : n ≤ 9223372036854775807) (hn : n = q.num) (hd : (1 : Int) = (q.den : Int)) :
  Calls Tryz.prog 72 #[.int .i64 n] w fun e w' => QR w q e w' := by
 have Gf := hide (fun W => (Kh n W b1 b2).mono (fun e w' h => h.1))
 have Pf := hide Nu
 have HN := Lib.hid hn; have HD := Lib.hid hd
 clear b1 b2 hn hd
 go_enter Tryz.func72, Tryz.ntmps72
 go_wp2_with fail
 obtain ⟨n0, hsz, hw0⟩ := Db w (.cells #[.slice none 0 0, .bool false, .slice none 0 0, .bool false] 52)
 generalize (w.alloc (.cells #[.slice none 0 0, .bool false, .slice none 0 0, .bool false] 52)) = W0 at *
 have p0 : W0.cell? ⟨w.heap.size, 0, none⟩ = some (.slice none 0 0) := ag n0 0
 have p1 : W0.cell? ⟨w.heap.size, 1, none⟩ = some (.bool false) := ag n0 1
 have p2 : W0.cell? ⟨w.heap.size, 2, none⟩ = some (.slice none 0 0) := ag n0 2
 have p3 : W0.cell? ⟨w.heap.size, 3, none⟩ = some (.bool false) := ag n0 3
 have v0 := ah n0 0; have v1 := ah n0 1; have v2 := ah n0 2; have v3 := ah n0 3
 have q0 := lt_of_block n0
 have NR := Lib.hid n0
 clear n0 hsz
 refine ((aa Gf) _).mono ?_
 rintro e W1 ⟨A1, c1, l1, m1, rfl, f1, hb1⟩
 have F1 := hide f1; have HB1 := hide hb1
 clear f1 hb1
 go_wp2_with fail
 refine ((aa Pf) _).mono ?_
 rintro e W2 ⟨A2, c2, l2, m2, rfl, f2, hb2⟩
 have F1' := hide ((aa F1).below hb2)
 have hb2' := au (aa HB1) hb2
 obtain ⟨hc, hfz⟩ := az hb2'
 have hblk := (hb2'.block _ q0).trans NR.out
 have jd := Lib.hid hblk
 have F2 := hide f2; have gp := au hw0 hb2'
 have HB9 := hide gp
 clear f2 hb2 hb2' hblk gp
 go_wp2_with fail
 exact bodyPost_ret (v := .agg #[.slice A1 l1.length c1, .bool m1, .slice A2 l2.length c2, .bool m2]) (by simp [results, Tryz.results72, go_sem, hc, p0, p1, p2, p3, q0]) rfl
  ⟨A1, c1, l1, m1, A2, c2, l2, m2, rfl, HN.out ▸ (aa F1').upto jd.out (qy _ _ _ _ _ _ _ _) (ig _ _ _ _ _ _), HD.out ▸ (aa F2).upto jd.out (qy _ _ _ _ _ _ _ _) (ig _ _ _ _ _ _), (aa HB9).grown (ig _ _ _ _ _ _) (aa HB9).size (fun k hk => by injection hk with hk; omega)⟩

end Go.Proofs.YtpjgoogeokbaaaaGreatDoor
