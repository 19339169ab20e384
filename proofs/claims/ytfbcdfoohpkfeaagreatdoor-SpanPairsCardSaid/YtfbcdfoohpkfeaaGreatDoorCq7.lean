/- Texts beneath a law of layer 1. -/
import Derived.Test.YtfbcdfoohpkfeaaGreatDoorCq6
set_option maxRecDepth 100000
namespace Go.Proofs.YtfbcdfoohpkfeaaGreatDoor
open Go.RowKit

set_option maxHeartbeats 16000000 in
theorem aod (s1 : Int) (fu : Bool) (A1 : Option Addr) (c1 : Nat) (l1 : List Nat) (s2 : Int) (fw : Bool) (A2 : Option Addr) (c2 : Nat) (l2 : List Nat) (s3 : Int) (uq : Bool) (A3 : Option Addr) (c3 : Nat) (l3 : List Nat) (s4 : Int) (uk : Bool) (A4 : Option Addr) (c4 : Nat) (l4 : List Nat) (z1 z2 z3 z4 g h a1 b1 r1 a2 b2 r2 : Int) (w : World) (f1 : ig w s1 fu A1 c1 l1 z1) (f2 : ig w s2 fw A2 c2 l2 z2) (f3 : ig w s3 uq A3 c3 l3 z3) (f4 : ig w s4 uk A4 c4 l4 z4)
  (hg : Ec w 143 z1 z4 g) (hh : Ec w 143 z3 z2 h) (ha : Ec w 144 z1 g a1) (hb : Ec w 144 z3 h b1) (hr1 : Ec w 135 a1 b1 r1) (hc : Ec w 144 z2 h a2) (hd : Ec w 144 z4 g b2) (hr2 : Ec w 135 a2 b2 r2) :
  Calls Tryz.prog 111 #[(Value.agg #[.int .i64 s1, .bool fu, .slice A1 l1.length c1, .int .i64 s2, .bool fw, .slice A2 l2.length c2]), (Value.agg #[.int .i64 s3, .bool uq, .slice A3 l3.length c3, .int .i64 s4, .bool uk, .slice A4 l4.length c4])] w fun e w' => Ia w r1 r2 e w' := by
 have H1 := hide f1
 have H2 := hide f2
 have H3 := hide f3
 have H4 := hide f4
 clear f1 f2 f3 f4
 have HG := hide hg
 have HH := hide hh
 have HA := hide ha
 have HB := hide hb
 have HR1 := hide hr1
 have HC := hide hc
 have HD := hide hd
 have HR2 := hide hr2
 clear hg hh ha hb hr1 hc hd hr2
 go_enter Tryz.func111, Tryz.ntmps111
 go_upto_region 1 with fail
 obtain ⟨n0, n1, n2, hsz, hw0⟩ := qg w (.cells #[.int .i64 s1, .bool fu, .slice A1 l1.length c1, .int .i64 s2, .bool fw, .slice A2 l2.length c2] 74) (.cells #[.int .i64 s3, .bool uq, .slice A3 l3.length c3, .int .i64 s4, .bool uk, .slice A4 l4.length c4] 74) (.cells #[.int .i64 0, .bool false, .slice none 0 0, .int .i64 0, .bool false, .slice none 0 0] 74)
 generalize (((w.alloc (.cells #[.int .i64 s1, .bool fu, .slice A1 l1.length c1, .int .i64 s2, .bool fw, .slice A2 l2.length c2] 74)).alloc (.cells #[.int .i64 s3, .bool uq, .slice A3 l3.length c3, .int .i64 s4, .bool uk, .slice A4 l4.length c4] 74)).alloc (.cells #[.int .i64 0, .bool false, .slice none 0 0, .int .i64 0, .bool false, .slice none 0 0] 74)) = W0 at *
 have oz : W0.cell? ⟨w.heap.size, 0, none⟩ = some (.int .i64 s1) := ae n0 0
 have ou : W0.cell? ⟨w.heap.size, 1, none⟩ = some (.bool fu) := ae n0 1
 have qh : W0.cell? ⟨w.heap.size, 2, none⟩ = some (.slice A1 l1.length c1) := ae n0 2
 have qz : W0.cell? ⟨w.heap.size, 3, none⟩ = some (.int .i64 s2) := ae n0 3
 have zf : W0.cell? ⟨w.heap.size, 4, none⟩ = some (.bool fw) := ae n0 4
 have ze : W0.cell? ⟨w.heap.size, 5, none⟩ = some (.slice A2 l2.length c2) := ae n0 5
 have q0 : w.heap.size < W0.heap.size := by omega
 have qb : W0.cell? ⟨w.heap.size + 1, 0, none⟩ = some (.int .i64 s3) := ae n1 0
 have qa : W0.cell? ⟨w.heap.size + 1, 1, none⟩ = some (.bool uq) := ae n1 1
 have rz : W0.cell? ⟨w.heap.size + 1, 2, none⟩ = some (.slice A3 l3.length c3) := ae n1 2
 have uj : W0.cell? ⟨w.heap.size + 1, 3, none⟩ = some (.int .i64 s4) := ae n1 3
 have Bp : W0.cell? ⟨w.heap.size + 1, 4, none⟩ = some (.bool uk) := ae n1 4
 have Bo : W0.cell? ⟨w.heap.size + 1, 5, none⟩ = some (.slice A4 l4.length c4) := ae n1 5
 have q1 : w.heap.size + 1 < W0.heap.size := by omega
 have za : W0.cell? ⟨w.heap.size + 1 + 1, 0, none⟩ = some (.int .i64 0) := ae n2 0
 have yz : W0.cell? ⟨w.heap.size + 1 + 1, 1, none⟩ = some (.bool false) := ae n2 1
 have yx : W0.cell? ⟨w.heap.size + 1 + 1, 2, none⟩ = some (.slice none 0 0) := ae n2 2
 have yw : W0.cell? ⟨w.heap.size + 1 + 1, 3, none⟩ = some (.int .i64 0) := ae n2 3
 have Ey : W0.cell? ⟨w.heap.size + 1 + 1, 4, none⟩ = some (.bool false) := ae n2 4
 have Ex : W0.cell? ⟨w.heap.size + 1 + 1, 5, none⟩ = some (.slice none 0 0) := ae n2 5
 have q2 : w.heap.size + 1 + 1 < W0.heap.size := by omega
 have Ae := bz n2 0
 have Ad := bz n2 1
 have Ac := bz n2 2
 have zz := bz n2 3
 have Gw := bz n2 4
 have Gv := bz n2 5
 have NR := Lib.hid n2
 clear hsz n0 n1 n2
 replace H1 := hide ((aa H1).below hw0)
 replace H2 := hide ((aa H2).below hw0)
 replace H3 := hide ((aa H3).below hw0)
 replace H4 := hide ((aa H4).below hw0)
 go_upto_region 1 with fail
 go_cut [5, 6] (fun Qv Yo wx => ∃ b5 b6 : Nat, Qv = .pointer (some ⟨b5, 0, none⟩) ∧ Yo = .pointer (some ⟨b6, 0, none⟩) ∧ Bq wx b5 g ∧ Bq wx b6 h ∧ Below W0.heap.size W0 wx ∧ W0.heap.size ≤ b5 ∧ W0.heap.size ≤ b6)
 case first =>
  have KEEP := hide (show ∀ X, Below W0.heap.size W0 X → X.cell? ⟨w.heap.size, 0, none⟩ = some (.int .i64 s1) ∧ X.cell? ⟨w.heap.size, 1, none⟩ = some (.bool fu) ∧ X.cell? ⟨w.heap.size, 2, none⟩ = some (.slice A1 l1.length c1) ∧ X.cell? ⟨w.heap.size, 3, none⟩ = some (.int .i64 s2) ∧ X.cell? ⟨w.heap.size, 4, none⟩ = some (.bool fw) ∧ X.cell? ⟨w.heap.size, 5, none⟩ = some (.slice A2 l2.length c2) ∧ X.cell? ⟨w.heap.size + 1, 0, none⟩ = some (.int .i64 s3) ∧ X.cell? ⟨w.heap.size + 1, 1, none⟩ = some (.bool uq) ∧ X.cell? ⟨w.heap.size + 1, 2, none⟩ = some (.slice A3 l3.length c3) ∧ X.cell? ⟨w.heap.size + 1, 3, none⟩ = some (.int .i64 s4) ∧ X.cell? ⟨w.heap.size + 1, 4, none⟩ = some (.bool uk) ∧ X.cell? ⟨w.heap.size + 1, 5, none⟩ = some (.slice A4 l4.length c4) from fun X hB => ⟨au hB q0 oz, au hB q0 ou, au hB q0 qh, au hB q0 qz, au hB q0 zf, au hB q0 ze, au hB q1 qb, au hB q1 qa, au hB q1 rz, au hB q1 uj, au hB q1 Bp, au hB q1 Bo⟩)
  go_region_held3 (fun w' => w'.cell? ⟨w.heap.size, 0, none⟩ = some (.int .i64 s1) ∧ w'.cell? ⟨w.heap.size, 1, none⟩ = some (.bool fu) ∧ w'.cell? ⟨w.heap.size, 2, none⟩ = some (.slice A1 l1.length c1) ∧ w'.cell? ⟨w.heap.size, 3, none⟩ = some (.int .i64 s2) ∧ w'.cell? ⟨w.heap.size, 4, none⟩ = some (.bool fw) ∧ w'.cell? ⟨w.heap.size, 5, none⟩ = some (.slice A2 l2.length c2) ∧ w'.cell? ⟨w.heap.size + 1, 0, none⟩ = some (.int .i64 s3) ∧ w'.cell? ⟨w.heap.size + 1, 1, none⟩ = some (.bool uq) ∧ w'.cell? ⟨w.heap.size + 1, 2, none⟩ = some (.slice A3 l3.length c3) ∧ w'.cell? ⟨w.heap.size + 1, 3, none⟩ = some (.int .i64 s4) ∧ w'.cell? ⟨w.heap.size + 1, 4, none⟩ = some (.bool uk) ∧ w'.cell? ⟨w.heap.size + 1, 5, none⟩ = some (.slice A4 l4.length c4)) (exact (aa KEEP) _ (by (repeat (first | with_reducible exact Below.refl _ _ | with_reducible assumption | with_reducible refine Below.drew ?_ | with_reducible refine jk ?_ _ | (with_reducible refine Jm ?_ ?_ _ _; rotate_left; (first | omega | (simp <;> omega))))))) (first | (go_at_call_of 143 (Value.agg #[.int .i64 s1, .bool fu, .slice A1 l1.length c1]); refine ((aa HG) s1 fu A1 c1 l1 s4 uk A4 c4 l4 _ (ek hw0 bel) (ig.below (aa H1) bel) (ig.below (aa H4) bel)).mono ?_; rintro e w' ⟨s5, yf, A5, c5, l5, rfl, tq, hb5⟩; have hbw := fo (w := W0) bel hb5; have hsw := hbw.size; obtain ⟨hc, hfz⟩ := gp hbw; (try ((first | have Cy : Fr W0 w' _ := Fr.below (Fr.new bel rfl) hb5 | have Cy : Fr W0 w' _ := Fr.below (Fr.drew (Fr.new bel rfl)) hb5); (try simp only [World.size_alloc] at Cy); (try dsimp only [World.drew] at Cy); (try simp only [World.size_alloc] at Cy); obtain ⟨⟨asv, asu, ast⟩, ⟨ass, asr, asq⟩, ⟨aso, asn, asl⟩, ⟨akl, bqo, bqn⟩, bqm, bql⟩ := Fr.facts Cy)); (try ((first | have Cx : Fr W0 w' _ := Fr.below (Fr.alloc (Fr.new bel rfl)) hb5 | have Cx : Fr W0 w' _ := Fr.below (Fr.drew (Fr.alloc (Fr.new bel rfl))) hb5); (try simp only [World.size_alloc] at Cx); (try dsimp only [World.drew] at Cx); (try simp only [World.size_alloc] at Cx); obtain ⟨⟨asj, asi, ash⟩, ⟨asg, asf, ase⟩, ⟨asc, asb, asa⟩, ⟨akk, bqk, bqj⟩, bqi, bqh⟩ := Fr.facts Cx))) | (go_at_call_of 143 (Value.agg #[.int .i64 s3, .bool uq, .slice A3 l3.length c3]); refine ((aa HH) s3 uq A3 c3 l3 s2 fw A2 c2 l2 _ (ek hw0 bel) (ig.below (aa H3) bel) (ig.below (aa H2) bel)).mono ?_; rintro e w' ⟨s6, Bw, A6, c6, l6, rfl, xm, hb6⟩; have tq := ig.below (ig.below tq bel) hb6; have hbw := fo (w := W0) bel hb6; have hsw := hbw.size; obtain ⟨hc, hfz⟩ := gp hbw; (try ((first | have Dn : Fr W0 w' _ := Fr.below (Fr.new bel rfl) hb6 | have Dn : Fr W0 w' _ := Fr.below (Fr.drew (Fr.new bel rfl)) hb6); (try simp only [World.size_alloc] at Dn); (try dsimp only [World.drew] at Dn); (try simp only [World.size_alloc] at Dn); obtain ⟨⟨akj, aki, akh⟩, ⟨akg, akf, ake⟩, ⟨akd, akc, akb⟩, ⟨adr, bfh, bfg⟩, bff, bfe⟩ := Fr.facts Dn)); (try ((first | have Dm : Fr W0 w' _ := Fr.below (Fr.alloc (Fr.new bel rfl)) hb6 | have Dm : Fr W0 w' _ := Fr.below (Fr.drew (Fr.alloc (Fr.new bel rfl))) hb6); (try simp only [World.size_alloc] at Dm); (try dsimp only [World.drew] at Dm); (try simp only [World.size_alloc] at Dm); obtain ⟨⟨aka, ajz, ajy⟩, ⟨ajx, ajw, ajv⟩, ⟨aju, ajt, ajs⟩, ⟨adq, bfd, bfc⟩, bfb, bfa⟩ := Fr.facts Dm)); (try ((first | have Fh : Fr W0 w' _ := Fr.below Cy hb6 | have Fh : Fr W0 w' _ := Fr.below (Fr.alloc Cy) hb6 | have Fh : Fr W0 w' _ := Fr.below (Fr.alloc (Fr.alloc Cy)) hb6); (try simp only [World.size_alloc] at Fh); (try dsimp only [World.drew] at Fh); (try simp only [World.size_alloc] at Fh); obtain ⟨⟨arz, ary, arx⟩, ⟨arw, arv, aru⟩, ⟨art, ars, arq⟩, ⟨ajr, bqg, bqf⟩, bqe, bqd⟩ := Fr.facts Fh)); (try ((first | have Fg : Fr W0 w' _ := Fr.below Cx hb6 | have Fg : Fr W0 w' _ := Fr.below (Fr.alloc Cx) hb6 | have Fg : Fr W0 w' _ := Fr.below (Fr.alloc (Fr.alloc Cx)) hb6); (try simp only [World.size_alloc] at Fg); (try dsimp only [World.drew] at Fg); (try simp only [World.size_alloc] at Fg); obtain ⟨⟨arp, aro, arn⟩, ⟨arl, ark, arj⟩, ⟨ari, arh, arf⟩, ⟨ajq, bqc, bqb⟩, bqa, bpz⟩ := Fr.facts Fg))))
  all_goals (go_wp2_with fail; go_meet; refine ⟨_, _, rfl, rfl, ?_⟩; first | with_reducible exact Nt ⟨by assumption, by assumption, by first | assumption | omega⟩ tq xm hbw | with_reducible exact Nt (Ko.Xe (by assumption) rfl) tq.alloc xm.alloc (jk hbw _) | with_reducible exact Nt (Ko.Xf (by assumption) rfl) tq.alloc xm.alloc (jk hbw _) | with_reducible exact aes tq xm hbw rfl rfl | with_reducible exact aol tq xm hbw rfl rfl | with_reducible exact aok (by assumption) tq xm hbw rfl)
 case rest =>
  revert hcut
  generalize wc = W1
  intro hcut
  obtain ⟨b5, b6, rfl, rfl, B5, B6, hbx, Km, Pq⟩ := hcut
  obtain ⟨hc, hfz⟩ := gp hbx
  replace oz := (hc _ _ q0).trans oz
  replace ou := (hc _ _ q0).trans ou
  replace qh := (hc _ _ q0).trans qh
  replace qz := (hc _ _ q0).trans qz
  replace zf := (hc _ _ q0).trans zf
  replace ze := (hc _ _ q0).trans ze
  replace q0 := Nat.lt_of_lt_of_le q0 hbx.size
  replace qb := (hc _ _ q1).trans qb
  replace qa := (hc _ _ q1).trans qa
  replace rz := (hc _ _ q1).trans rz
  replace uj := (hc _ _ q1).trans uj
  replace Bp := (hc _ _ q1).trans Bp
  replace Bo := (hc _ _ q1).trans Bo
  replace q1 := Nat.lt_of_lt_of_le q1 hbx.size
  replace Km : w.heap.size + 1 + 1 < b5 := Nat.lt_of_lt_of_le q2 Km
  replace Pq : w.heap.size + 1 + 1 < b6 := Nat.lt_of_lt_of_le q2 Pq
  replace za := (hc _ _ q2).trans za
  replace Ae := (hfz _ _ q2).trans Ae
  replace yz := (hc _ _ q2).trans yz
  replace Ad := (hfz _ _ q2).trans Ad
  replace yx := (hc _ _ q2).trans yx
  replace Ac := (hfz _ _ q2).trans Ac
  replace yw := (hc _ _ q2).trans yw
  replace zz := (hfz _ _ q2).trans zz
  replace Ey := (hc _ _ q2).trans Ey
  replace Gw := (hfz _ _ q2).trans Gw
  replace Ex := (hc _ _ q2).trans Ex
  replace Gv := (hfz _ _ q2).trans Gv
  replace NR := Lib.hid ((hbx.block _ q2).trans NR.out)
  replace q2 := Nat.lt_of_lt_of_le q2 hbx.size
  replace hw0 := ek hw0 hbx
  replace H1 := hide ((aa H1).below hbx)
  replace H2 := hide ((aa H2).below hbx)
  replace H3 := hide ((aa H3).below hbx)
  replace H4 := hide ((aa H4).below hbx)
  obtain ⟨s5, yf, A5, c5, l5, n5, H5⟩ := B5
  have Ai : W1.cell? ⟨b5, 0, none⟩ = some (.int .i64 s5) := ae n5 0
  have Ah : W1.cell? ⟨b5, 1, none⟩ = some (.bool yf) := ae n5 1
  have Ls : W1.cell? ⟨b5, 2, none⟩ = some (.slice A5 l5.length c5) := ae n5 2
  have yh := lt_of_block n5
  replace H5 := hide H5
  clear n5
  obtain ⟨s6, Bw, A6, c6, l6, n6, H6⟩ := B6
  have Ag : W1.cell? ⟨b6, 0, none⟩ = some (.int .i64 s6) := ae n6 0
  have Af : W1.cell? ⟨b6, 1, none⟩ = some (.bool Bw) := ae n6 1
  have Lr : W1.cell? ⟨b6, 2, none⟩ = some (.slice A6 l6.length c6) := ae n6 2
  have yg := lt_of_block n6
  replace H6 := hide H6
  clear n6
  clear hbx hc hfz
  go_upto_region 2 with fail
  have KEEP := hide (show ∀ X, Below W1.heap.size W1 X → X.cell? ⟨w.heap.size, 0, none⟩ = some (.int .i64 s1) ∧ X.cell? ⟨w.heap.size, 1, none⟩ = some (.bool fu) ∧ X.cell? ⟨w.heap.size, 2, none⟩ = some (.slice A1 l1.length c1) ∧ X.cell? ⟨w.heap.size, 3, none⟩ = some (.int .i64 s2) ∧ X.cell? ⟨w.heap.size, 4, none⟩ = some (.bool fw) ∧ X.cell? ⟨w.heap.size, 5, none⟩ = some (.slice A2 l2.length c2) ∧ X.cell? ⟨w.heap.size + 1, 0, none⟩ = some (.int .i64 s3) ∧ X.cell? ⟨w.heap.size + 1, 1, none⟩ = some (.bool uq) ∧ X.cell? ⟨w.heap.size + 1, 2, none⟩ = some (.slice A3 l3.length c3) ∧ X.cell? ⟨w.heap.size + 1, 3, none⟩ = some (.int .i64 s4) ∧ X.cell? ⟨w.heap.size + 1, 4, none⟩ = some (.bool uk) ∧ X.cell? ⟨w.heap.size + 1, 5, none⟩ = some (.slice A4 l4.length c4) ∧ X.cell? ⟨b5, 0, none⟩ = some (.int .i64 s5) ∧ X.cell? ⟨b5, 1, none⟩ = some (.bool yf) ∧ X.cell? ⟨b5, 2, none⟩ = some (.slice A5 l5.length c5) ∧ X.cell? ⟨b6, 0, none⟩ = some (.int .i64 s6) ∧ X.cell? ⟨b6, 1, none⟩ = some (.bool Bw) ∧ X.cell? ⟨b6, 2, none⟩ = some (.slice A6 l6.length c6) from fun X hB => ⟨au hB q0 oz, au hB q0 ou, au hB q0 qh, au hB q0 qz, au hB q0 zf, au hB q0 ze, au hB q1 qb, au hB q1 qa, au hB q1 rz, au hB q1 uj, au hB q1 Bp, au hB q1 Bo, au hB yh Ai, au hB yh Ah, au hB yh Ls, au hB yg Ag, au hB yg Af, au hB yg Lr⟩)
  go_region_held3 (fun w' => w'.cell? ⟨w.heap.size, 0, none⟩ = some (.int .i64 s1) ∧ w'.cell? ⟨w.heap.size, 1, none⟩ = some (.bool fu) ∧ w'.cell? ⟨w.heap.size, 2, none⟩ = some (.slice A1 l1.length c1) ∧ w'.cell? ⟨w.heap.size, 3, none⟩ = some (.int .i64 s2) ∧ w'.cell? ⟨w.heap.size, 4, none⟩ = some (.bool fw) ∧ w'.cell? ⟨w.heap.size, 5, none⟩ = some (.slice A2 l2.length c2) ∧ w'.cell? ⟨w.heap.size + 1, 0, none⟩ = some (.int .i64 s3) ∧ w'.cell? ⟨w.heap.size + 1, 1, none⟩ = some (.bool uq) ∧ w'.cell? ⟨w.heap.size + 1, 2, none⟩ = some (.slice A3 l3.length c3) ∧ w'.cell? ⟨w.heap.size + 1, 3, none⟩ = some (.int .i64 s4) ∧ w'.cell? ⟨w.heap.size + 1, 4, none⟩ = some (.bool uk) ∧ w'.cell? ⟨w.heap.size + 1, 5, none⟩ = some (.slice A4 l4.length c4) ∧ w'.cell? ⟨b5, 0, none⟩ = some (.int .i64 s5) ∧ w'.cell? ⟨b5, 1, none⟩ = some (.bool yf) ∧ w'.cell? ⟨b5, 2, none⟩ = some (.slice A5 l5.length c5) ∧ w'.cell? ⟨b6, 0, none⟩ = some (.int .i64 s6) ∧ w'.cell? ⟨b6, 1, none⟩ = some (.bool Bw) ∧ w'.cell? ⟨b6, 2, none⟩ = some (.slice A6 l6.length c6)) (first | with_reducible exact ⟨(jd _ _ _ _ _ _ _ _ om).trans (au hbw q0 oz), (jd _ _ _ _ _ _ _ _ om).trans (au hbw q0 ou), (jd _ _ _ _ _ _ _ _ om).trans (au hbw q0 qh), (jd _ _ _ _ _ _ _ _ om).trans (au hbw q0 qz), (jd _ _ _ _ _ _ _ _ om).trans (au hbw q0 zf), (jd _ _ _ _ _ _ _ _ om).trans (au hbw q0 ze), (jd _ _ _ _ _ _ _ _ om).trans (au hbw q1 qb), (jd _ _ _ _ _ _ _ _ om).trans (au hbw q1 qa), (jd _ _ _ _ _ _ _ _ om).trans (au hbw q1 rz), (jd _ _ _ _ _ _ _ _ om).trans (au hbw q1 uj), (jd _ _ _ _ _ _ _ _ om).trans (au hbw q1 Bp), (jd _ _ _ _ _ _ _ _ om).trans (au hbw q1 Bo), (jd _ _ _ _ _ _ _ _ om).trans (au hbw yh Ai), (jd _ _ _ _ _ _ _ _ om).trans (au hbw yh Ah), (jd _ _ _ _ _ _ _ _ om).trans (au hbw yh Ls), (jd _ _ _ _ _ _ _ _ om).trans (au hbw yg Ag), (jd _ _ _ _ _ _ _ _ om).trans (au hbw yg Af), (jd _ _ _ _ _ _ _ _ om).trans (au hbw yg Lr)⟩ | with_reducible exact (aa KEEP) _ bel) (first | (go_at_call_of 144 (Value.agg #[.int .i64 s1, .bool fu, .slice A1 l1.length c1]); refine ((aa HA) s1 fu A1 c1 l1 s5 yf A5 c5 l5 _ (ek hw0 bel) (ig.below (aa H1) bel) (ig.below (aa H5) bel)).mono ?_; rintro e w' ⟨s7, Gh, A7, c7, l7, rfl, Fu, Eg⟩; have hbw := fo (w := W1) bel Eg; have hsw := hbw.size; obtain ⟨hc, hfz⟩ := gp hbw) | (go_at_call_of 144 (Value.agg #[.int .i64 s3, .bool uq, .slice A3 l3.length c3]); refine ((aa HB) s3 uq A3 c3 l3 s6 Bw A6 c6 l6 _ (ek hw0 bel) (ig.below (aa H3) bel) (ig.below (aa H6) bel)).mono ?_; rintro e w' ⟨s8, Ky, A8, c8, l8, rfl, Ep, Ud⟩; have Fu := ig.below (ig.below Fu bel) Ud; have hbw := fo (w := W1) bel Ud; have hsw := hbw.size; obtain ⟨hc, hfz⟩ := gp hbw) | (go_at_call_of 135 (Value.agg #[.int .i64 s7, .bool Gh, .slice A7 l7.length c7]); refine ((aa HR1) s7 Gh A7 c7 l7 s8 Ky A8 c8 l8 _ (ek hw0 bel) (ig.below Fu bel) (ig.below Ep bel)).mono ?_; rintro e w' ⟨s9, Qp, A9, c9, l9, rfl, Om, ky⟩; have Fu := ig.below (ig.below Fu bel) ky; have Ep := ig.below (ig.below Ep bel) ky; have hbw := fo (w := W1) bel ky; have hsw := hbw.size; obtain ⟨hc, hfz⟩ := gp hbw) | (go_at_call_of 144 (Value.agg #[.int .i64 s2, .bool fw, .slice A2 l2.length c2]); refine ((aa HC) s2 fw A2 c2 l2 s6 Bw A6 c6 l6 _ (ek hw0 bel) (ig.below (aa H2) bel) (ig.below (aa H6) bel)).mono ?_; rintro e w' ⟨s10, Lp, Es, c10, l10, rfl, Eh, Ei⟩; have Fu := ig.below (ig.below Fu bel) Ei; have Ep := ig.below (ig.below Ep bel) Ei; have Om := ig.below (ig.below Om bel) Ei; have hbw := fo (w := W1) bel Ei; have hsw := hbw.size; obtain ⟨hc, hfz⟩ := gp hbw) | (go_at_call_of 144 (Value.agg #[.int .i64 s4, .bool uk, .slice A4 l4.length c4]); refine ((aa HD) s4 uk A4 c4 l4 s5 yf A5 c5 l5 _ (ek hw0 bel) (ig.below (aa H4) bel) (ig.below (aa H5) bel)).mono ?_; rintro e w' ⟨s11, Pt, Ih, c11, Ib, rfl, Ka, Ld⟩; have Fu := ig.below (ig.below Fu bel) Ld; have Ep := ig.below (ig.below Ep bel) Ld; have Om := ig.below (ig.below Om bel) Ld; have Eh := ig.below (ig.below Eh bel) Ld; have hbw := fo (w := W1) bel Ld; have hsw := hbw.size; obtain ⟨hc, hfz⟩ := gp hbw) | (go_at_call_of 135 (Value.agg #[.int .i64 s10, .bool Lp, .slice Es l10.length c10]); refine ((aa HR2) s10 Lp Es c10 l10 s11 Pt Ih c11 Ib _ (ek hw0 bel) (ig.below Eh bel) (ig.below Ka bel)).mono ?_; rintro e w' ⟨s12, Yx, Vr, c12, Us, rfl, Oo, Ij⟩; have Fu := ig.below (ig.below Fu bel) Ij; have Ep := ig.below (ig.below Ep bel) Ij; have Om := ig.below (ig.below Om bel) Ij; have Eh := ig.below (ig.below Eh bel) Ij; have Ka := ig.below (ig.below Ka bel) Ij; have hbw := fo (w := W1) bel Ij; have hsw := hbw.size; obtain ⟨hc, hfz⟩ := gp hbw))
  have hblk : w'.heap[w.heap.size + 1 + 1]? = some (.cells #[.int .i64 0, .bool false, .slice none 0 0, .int .i64 0, .bool false, .slice none 0 0] 74 (0, 0)) := (hbw.block _ q2).trans NR.out
  have mo := Lib.hid hblk
  have ky : Below w.heap.size w w' := ek hw0 hbw
  clear hblk
  go_wp2_with fail
  exact bodyPost_ret (v := (Value.agg #[.int .i64 s9, .bool Qp, .slice A9 l9.length c9, .int .i64 s12, .bool Yx, .slice Vr Us.length c12])) (by simp [results, Tryz.results111, go_sem, hc, za, yz, yx, yw, Ey, Ex, q2]) rfl
   ⟨s9, Qp, A9, c9, l9, s12, Yx, Vr, c12, Us, rfl, (Om).upto mo.out (Ao _ _ _ _ _ _ _ _ _ _) (qy _ _ _ _ _ _ _ _), (Oo).upto mo.out (Ao _ _ _ _ _ _ _ _ _ _) (qy _ _ _ _ _ _ _ _), ky.grown (qy _ _ _ _ _ _ _ _) ky.size (fun k hk => by injection hk with hk; omega)⟩

end Go.Proofs.YtfbcdfoohpkfeaaGreatDoor
namespace Go.Proofs.YtfbcdfoohpkfeaaGreatDoor
open Go.RowKit

set_option maxHeartbeats 8000000 in
theorem atq (s1 : Int) (fu : Bool) (A1 : Option Addr) (c1 : Nat) (l1 : List Nat) (z1 : Int) (s2 : Int) (fw : Bool) (A2 : Option Addr) (c2 : Nat) (l2 : List Nat) (z2 : Int) (w : World) (h1 : ig w s1 fu A1 c1 l1 z1) (h2 : ig w s2 fw A2 c2 l2 z2) :
  Calls Tryz.prog 134 #[(Value.agg #[.int .i64 s1, .bool fu, .slice A1 l1.length c1, .int .i64 s2, .bool fw, .slice A2 l2.length c2])] w fun e w' => Ia w (-z1) z2 e w' := by
 have H1 := hide h1
 have H2 := hide h2
 clear h1 h2
 go_enter Tryz.func134, Tryz.ntmps134
 go_wp2_with fail
 obtain ⟨n0, n1, hsz, hw0⟩ := xk w (.cells #[.int .i64 s1, .bool fu, .slice A1 l1.length c1, .int .i64 s2, .bool fw, .slice A2 l2.length c2] 74) (.cells #[.int .i64 0, .bool false, .slice none 0 0, .int .i64 0, .bool false, .slice none 0 0] 74)
 generalize ((w.alloc (.cells #[.int .i64 s1, .bool fu, .slice A1 l1.length c1, .int .i64 s2, .bool fw, .slice A2 l2.length c2] 74)).alloc (.cells #[.int .i64 0, .bool false, .slice none 0 0, .int .i64 0, .bool false, .slice none 0 0] 74)) = W0 at *
 have oz : W0.cell? ⟨w.heap.size, 0, none⟩ = some (.int .i64 s1) := ae n0 0
 have ou : W0.cell? ⟨w.heap.size, 1, none⟩ = some (.bool fu) := ae n0 1
 have qh : W0.cell? ⟨w.heap.size, 2, none⟩ = some (.slice A1 l1.length c1) := ae n0 2
 have qz : W0.cell? ⟨w.heap.size, 3, none⟩ = some (.int .i64 s2) := ae n0 3
 have zf : W0.cell? ⟨w.heap.size, 4, none⟩ = some (.bool fw) := ae n0 4
 have ze : W0.cell? ⟨w.heap.size, 5, none⟩ = some (.slice A2 l2.length c2) := ae n0 5
 have q0 : w.heap.size < W0.heap.size := by omega
 have qb : W0.cell? ⟨w.heap.size + 1, 0, none⟩ = some (.int .i64 0) := ae n1 0
 have qa : W0.cell? ⟨w.heap.size + 1, 1, none⟩ = some (.bool false) := ae n1 1
 have rz : W0.cell? ⟨w.heap.size + 1, 2, none⟩ = some (.slice none 0 0) := ae n1 2
 have uj : W0.cell? ⟨w.heap.size + 1, 3, none⟩ = some (.int .i64 0) := ae n1 3
 have Bp : W0.cell? ⟨w.heap.size + 1, 4, none⟩ = some (.bool false) := ae n1 4
 have Bo : W0.cell? ⟨w.heap.size + 1, 5, none⟩ = some (.slice none 0 0) := ae n1 5
 have q1 : w.heap.size + 1 < W0.heap.size := by omega
 have Ms := bz n1 0
 have Mr := bz n1 1
 have agl := bz n1 2
 have agk := bz n1 3
 have avp := bz n1 4
 have avo := bz n1 5
 have NR := Lib.hid n1
 clear n0 n1
 go_region_held3 (fun w' => w'.cell? ⟨w.heap.size, 0, none⟩ = some (.int .i64 s1) ∧ w'.cell? ⟨w.heap.size, 1, none⟩ = some (.bool fu) ∧ w'.cell? ⟨w.heap.size, 2, none⟩ = some (.slice A1 l1.length c1) ∧ w'.cell? ⟨w.heap.size, 3, none⟩ = some (.int .i64 s2) ∧ w'.cell? ⟨w.heap.size, 4, none⟩ = some (.bool fw) ∧ w'.cell? ⟨w.heap.size, 5, none⟩ = some (.slice A2 l2.length c2)) ((first | with_reducible exact ⟨(hc _ _ q0).trans oz, (hc _ _ q0).trans ou, (hc _ _ q0).trans qh, (hc _ _ q0).trans qz, (hc _ _ q0).trans zf, (hc _ _ q0).trans ze⟩ | with_reducible exact ⟨oz, ou, qh, qz, zf, ze⟩ | with_reducible exact ⟨(jd _ _ _ _ _ _ _ _ om).trans ((hc _ _ q0).trans oz), (jd _ _ _ _ _ _ _ _ om).trans ((hc _ _ q0).trans ou), (jd _ _ _ _ _ _ _ _ om).trans ((hc _ _ q0).trans qh), (jd _ _ _ _ _ _ _ _ om).trans ((hc _ _ q0).trans qz), (jd _ _ _ _ _ _ _ _ om).trans ((hc _ _ q0).trans zf), (jd _ _ _ _ _ _ _ _ om).trans ((hc _ _ q0).trans ze)⟩ | exact ⟨(hc _ _ q0).trans oz, (hc _ _ q0).trans ou, (hc _ _ q0).trans qh, (hc _ _ q0).trans qz, (hc _ _ q0).trans zf, (hc _ _ q0).trans ze⟩ | exact ⟨oz, ou, qh, qz, zf, ze⟩ | exact ⟨(jd _ _ _ _ _ _ _ _ om).trans ((hc _ _ q0).trans oz), (jd _ _ _ _ _ _ _ _ om).trans ((hc _ _ q0).trans ou), (jd _ _ _ _ _ _ _ _ om).trans ((hc _ _ q0).trans qh), (jd _ _ _ _ _ _ _ _ om).trans ((hc _ _ q0).trans qz), (jd _ _ _ _ _ _ _ _ om).trans ((hc _ _ q0).trans zf), (jd _ _ _ _ _ _ _ _ om).trans ((hc _ _ q0).trans ze)⟩)) (first | (go_at_call_of 147 (Value.agg #[.int .i64 s1, .bool fu, .slice A1 l1.length c1]); refine (Rb s1 fu A1 c1 l1 z1 _ (by exact (aa H1).below (ek hw0 bem))).mono ?_; rintro e w' ⟨s5, yf, A5, c5, l5, rfl, tq, hb⟩; have hbw := fo (w := W0) bem hb; obtain ⟨hc, hfz⟩ := gp hbw))
 have hblk : w'.heap[w.heap.size + 1]? = some (.cells #[.int .i64 0, .bool false, .slice none 0 0, .int .i64 0, .bool false, .slice none 0 0] 74 (0, 0)) := (hbw.block _ q1).trans NR.out
 have mo := Lib.hid hblk
 have ky : Below w.heap.size w w' := ek hw0 hbw
 clear hblk
 go_wp2_with fail
 exact bodyPost_ret (v := (Value.agg #[.int .i64 s5, .bool yf, .slice A5 l5.length c5, .int .i64 s2, .bool fw, .slice A2 l2.length c2])) (by simp [results, Tryz.results134, go_sem, hc, qb, qa, rz, uj, Bp, Bo, q1]) rfl
  ⟨s5, yf, A5, c5, l5, s2, fw, A2, c2, l2, rfl, (tq).upto mo.out (Ao _ _ _ _ _ _ _ _ _ _) (qy _ _ _ _ _ _ _ _), ((aa H2).below (ek hw0 hbw)).upto mo.out (Ao _ _ _ _ _ _ _ _ _ _) (qy _ _ _ _ _ _ _ _), ky.grown (qy _ _ _ _ _ _ _ _) ky.size (fun k hk => by injection hk with hk; omega)⟩

end Go.Proofs.YtfbcdfoohpkfeaaGreatDoor
namespace Go.Proofs.YtfbcdfoohpkfeaaGreatDoor
open Go.RowKit

set_option maxHeartbeats 8000000 in
theorem att (s1 : Int) (fu : Bool) (A1 : Option Addr) (c1 : Nat) (l1 : List Nat) (z1 : Int) (s2 : Int) (fw : Bool) (A2 : Option Addr) (c2 : Nat) (l2 : List Nat) (z2 : Int) (w : World) (h1 : ig w s1 fu A1 c1 l1 z1) (h2 : ig w s2 fw A2 c2 l2 z2) (hz : z1 < 0) :
  Calls Tryz.prog 79 #[(Value.agg #[.int .i64 s1, .bool fu, .slice A1 l1.length c1, .int .i64 s2, .bool fw, .slice A2 l2.length c2])] w fun e w' => Ia w (-z2) (-z1) e w' := by
 have hs : decide (ja z1 < 0) = true := decide_eq_true (by rw [Jj]; exact hz)
 obtain ⟨o1, ho1⟩ : ∃ o, o = ja z1 := ⟨_, rfl⟩
 have HS : Hid (∀ W, Below w.heap.size w W → Calls Tryz.prog 146 #[(Value.agg #[.int .i64 s1, .bool fu, .slice A1 l1.length c1])] W fun e w' => e = .returned (.int .i64 o1) ∧ Below W.heap.size W w') := by rw [ho1]; exact fun W hW => Bd s1 fu A1 c1 l1 z1 W (h1.below hW)
 rw [← ho1] at hs
 clear ho1 hz
 have H1 := hide h1
 have H2 := hide h2
 clear h1 h2
 go_enter Tryz.func79, Tryz.ntmps79
 go_wp2_with fail
 obtain ⟨n0, n1, hsz, hw0⟩ := xk w (.cells #[.int .i64 s1, .bool fu, .slice A1 l1.length c1, .int .i64 s2, .bool fw, .slice A2 l2.length c2] 74) (.cells #[.int .i64 0, .bool false, .slice none 0 0, .int .i64 0, .bool false, .slice none 0 0] 74)
 generalize ((w.alloc (.cells #[.int .i64 s1, .bool fu, .slice A1 l1.length c1, .int .i64 s2, .bool fw, .slice A2 l2.length c2] 74)).alloc (.cells #[.int .i64 0, .bool false, .slice none 0 0, .int .i64 0, .bool false, .slice none 0 0] 74)) = W0 at *
 have oz : W0.cell? ⟨w.heap.size, 0, none⟩ = some (.int .i64 s1) := ae n0 0
 have ou : W0.cell? ⟨w.heap.size, 1, none⟩ = some (.bool fu) := ae n0 1
 have qh : W0.cell? ⟨w.heap.size, 2, none⟩ = some (.slice A1 l1.length c1) := ae n0 2
 have qz : W0.cell? ⟨w.heap.size, 3, none⟩ = some (.int .i64 s2) := ae n0 3
 have zf : W0.cell? ⟨w.heap.size, 4, none⟩ = some (.bool fw) := ae n0 4
 have ze : W0.cell? ⟨w.heap.size, 5, none⟩ = some (.slice A2 l2.length c2) := ae n0 5
 have q0 : w.heap.size < W0.heap.size := by omega
 have qb : W0.cell? ⟨w.heap.size + 1, 0, none⟩ = some (.int .i64 0) := ae n1 0
 have qa : W0.cell? ⟨w.heap.size + 1, 1, none⟩ = some (.bool false) := ae n1 1
 have rz : W0.cell? ⟨w.heap.size + 1, 2, none⟩ = some (.slice none 0 0) := ae n1 2
 have uj : W0.cell? ⟨w.heap.size + 1, 3, none⟩ = some (.int .i64 0) := ae n1 3
 have Bp : W0.cell? ⟨w.heap.size + 1, 4, none⟩ = some (.bool false) := ae n1 4
 have Bo : W0.cell? ⟨w.heap.size + 1, 5, none⟩ = some (.slice none 0 0) := ae n1 5
 have q1 : w.heap.size + 1 < W0.heap.size := by omega
 have Ms := bz n1 0
 have Mr := bz n1 1
 have agl := bz n1 2
 have agk := bz n1 3
 have avp := bz n1 4
 have avo := bz n1 5
 have NR := Lib.hid n1
 clear n0 n1
 refine ((aa HS) _ (ek hw0 bem)).mono ?_
 rintro e w' ⟨rfl, hb⟩
 have hbw := fo (w := W0) bem hb; obtain ⟨hc, hfz⟩ := gp hbw
 go_wp2_with fail
 go_region_held3 (fun w' => w'.cell? ⟨w.heap.size, 0, none⟩ = some (.int .i64 s1) ∧ w'.cell? ⟨w.heap.size, 1, none⟩ = some (.bool fu) ∧ w'.cell? ⟨w.heap.size, 2, none⟩ = some (.slice A1 l1.length c1) ∧ w'.cell? ⟨w.heap.size, 3, none⟩ = some (.int .i64 s2) ∧ w'.cell? ⟨w.heap.size, 4, none⟩ = some (.bool fw) ∧ w'.cell? ⟨w.heap.size, 5, none⟩ = some (.slice A2 l2.length c2)) ((first | with_reducible exact ⟨(hc _ _ q0).trans oz, (hc _ _ q0).trans ou, (hc _ _ q0).trans qh, (hc _ _ q0).trans qz, (hc _ _ q0).trans zf, (hc _ _ q0).trans ze⟩ | with_reducible exact ⟨oz, ou, qh, qz, zf, ze⟩ | with_reducible exact ⟨(jd _ _ _ _ _ _ _ _ om).trans ((hc _ _ q0).trans oz), (jd _ _ _ _ _ _ _ _ om).trans ((hc _ _ q0).trans ou), (jd _ _ _ _ _ _ _ _ om).trans ((hc _ _ q0).trans qh), (jd _ _ _ _ _ _ _ _ om).trans ((hc _ _ q0).trans qz), (jd _ _ _ _ _ _ _ _ om).trans ((hc _ _ q0).trans zf), (jd _ _ _ _ _ _ _ _ om).trans ((hc _ _ q0).trans ze)⟩ | exact ⟨(hc _ _ q0).trans oz, (hc _ _ q0).trans ou, (hc _ _ q0).trans qh, (hc _ _ q0).trans qz, (hc _ _ q0).trans zf, (hc _ _ q0).trans ze⟩ | exact ⟨oz, ou, qh, qz, zf, ze⟩ | exact ⟨(jd _ _ _ _ _ _ _ _ om).trans ((hc _ _ q0).trans oz), (jd _ _ _ _ _ _ _ _ om).trans ((hc _ _ q0).trans ou), (jd _ _ _ _ _ _ _ _ om).trans ((hc _ _ q0).trans qh), (jd _ _ _ _ _ _ _ _ om).trans ((hc _ _ q0).trans qz), (jd _ _ _ _ _ _ _ _ om).trans ((hc _ _ q0).trans zf), (jd _ _ _ _ _ _ _ _ om).trans ((hc _ _ q0).trans ze)⟩)) (first | (go_at_call_of 147 (Value.agg #[.int .i64 s2, .bool fw, .slice A2 l2.length c2]); refine (Rb s2 fw A2 c2 l2 z2 _ (by exact (aa H2).below (ek hw0 bem))).mono ?_; rintro e w' ⟨s5, yf, A5, c5, l5, rfl, tq, hb⟩; have hbw := fo (w := W0) bem hb; obtain ⟨hc, hfz⟩ := gp hbw) | (go_at_call_of 147 (Value.agg #[.int .i64 s1, .bool fu, .slice A1 l1.length c1]); refine (Rb s1 fu A1 c1 l1 z1 _ (by exact (aa H1).below (ek hw0 bem))).mono ?_; rintro e w' ⟨s6, Bw, A6, c6, l6, rfl, xm, hb⟩; have tq := tq.below hb; have hbw := fo (w := W0) bem hb; obtain ⟨hc, hfz⟩ := gp hbw))
 have hblk : w'.heap[w.heap.size + 1]? = some (.cells #[.int .i64 0, .bool false, .slice none 0 0, .int .i64 0, .bool false, .slice none 0 0] 74 (0, 0)) := (hbw.block _ q1).trans NR.out
 have mo := Lib.hid hblk
 have ky : Below w.heap.size w w' := ek hw0 hbw
 clear hblk
 go_wp2_with fail
 exact bodyPost_ret (v := (Value.agg #[.int .i64 s5, .bool yf, .slice A5 l5.length c5, .int .i64 s6, .bool Bw, .slice A6 l6.length c6])) (by simp [results, Tryz.results79, go_sem, hc, qb, qa, rz, uj, Bp, Bo, q1]) rfl
  ⟨s5, yf, A5, c5, l5, s6, Bw, A6, c6, l6, rfl, (tq).upto mo.out (Ao _ _ _ _ _ _ _ _ _ _) (qy _ _ _ _ _ _ _ _), (xm).upto mo.out (Ao _ _ _ _ _ _ _ _ _ _) (qy _ _ _ _ _ _ _ _), ky.grown (qy _ _ _ _ _ _ _ _) ky.size (fun k hk => by injection hk with hk; omega)⟩
set_option maxHeartbeats 8000000 in
theorem atr (s1 : Int) (fu : Bool) (A1 : Option Addr) (c1 : Nat) (l1 : List Nat) (z1 : Int) (s2 : Int) (fw : Bool) (A2 : Option Addr) (c2 : Nat) (l2 : List Nat) (z2 : Int) (w : World) (h1 : ig w s1 fu A1 c1 l1 z1) (h2 : ig w s2 fw A2 c2 l2 z2) (hz : ¬ z1 < 0) :
  Calls Tryz.prog 79 #[(Value.agg #[.int .i64 s1, .bool fu, .slice A1 l1.length c1, .int .i64 s2, .bool fw, .slice A2 l2.length c2])] w fun e w' => Ia w z2 z1 e w' := by
 have hs : decide (ja z1 < 0) = false := decide_eq_false (by rw [Jj]; exact hz)
 obtain ⟨o1, ho1⟩ : ∃ o, o = ja z1 := ⟨_, rfl⟩
 have HS : Hid (∀ W, Below w.heap.size w W → Calls Tryz.prog 146 #[(Value.agg #[.int .i64 s1, .bool fu, .slice A1 l1.length c1])] W fun e w' => e = .returned (.int .i64 o1) ∧ Below W.heap.size W w') := by rw [ho1]; exact fun W hW => Bd s1 fu A1 c1 l1 z1 W (h1.below hW)
 rw [← ho1] at hs
 clear ho1 hz
 have H1 := hide h1
 have H2 := hide h2
 clear h1 h2
 go_enter Tryz.func79, Tryz.ntmps79
 go_wp2_with fail
 obtain ⟨n0, n1, hsz, hw0⟩ := xk w (.cells #[.int .i64 s1, .bool fu, .slice A1 l1.length c1, .int .i64 s2, .bool fw, .slice A2 l2.length c2] 74) (.cells #[.int .i64 0, .bool false, .slice none 0 0, .int .i64 0, .bool false, .slice none 0 0] 74)
 generalize ((w.alloc (.cells #[.int .i64 s1, .bool fu, .slice A1 l1.length c1, .int .i64 s2, .bool fw, .slice A2 l2.length c2] 74)).alloc (.cells #[.int .i64 0, .bool false, .slice none 0 0, .int .i64 0, .bool false, .slice none 0 0] 74)) = W0 at *
 have oz : W0.cell? ⟨w.heap.size, 0, none⟩ = some (.int .i64 s1) := ae n0 0
 have ou : W0.cell? ⟨w.heap.size, 1, none⟩ = some (.bool fu) := ae n0 1
 have qh : W0.cell? ⟨w.heap.size, 2, none⟩ = some (.slice A1 l1.length c1) := ae n0 2
 have qz : W0.cell? ⟨w.heap.size, 3, none⟩ = some (.int .i64 s2) := ae n0 3
 have zf : W0.cell? ⟨w.heap.size, 4, none⟩ = some (.bool fw) := ae n0 4
 have ze : W0.cell? ⟨w.heap.size, 5, none⟩ = some (.slice A2 l2.length c2) := ae n0 5
 have q0 : w.heap.size < W0.heap.size := by omega
 have qb : W0.cell? ⟨w.heap.size + 1, 0, none⟩ = some (.int .i64 0) := ae n1 0
 have qa : W0.cell? ⟨w.heap.size + 1, 1, none⟩ = some (.bool false) := ae n1 1
 have rz : W0.cell? ⟨w.heap.size + 1, 2, none⟩ = some (.slice none 0 0) := ae n1 2
 have uj : W0.cell? ⟨w.heap.size + 1, 3, none⟩ = some (.int .i64 0) := ae n1 3
 have Bp : W0.cell? ⟨w.heap.size + 1, 4, none⟩ = some (.bool false) := ae n1 4
 have Bo : W0.cell? ⟨w.heap.size + 1, 5, none⟩ = some (.slice none 0 0) := ae n1 5
 have q1 : w.heap.size + 1 < W0.heap.size := by omega
 have Ms := bz n1 0
 have Mr := bz n1 1
 have agl := bz n1 2
 have agk := bz n1 3
 have avp := bz n1 4
 have avo := bz n1 5
 have NR := Lib.hid n1
 clear n0 n1
 refine ((aa HS) _ (ek hw0 bem)).mono ?_
 rintro e w' ⟨rfl, hb⟩
 have hbw := fo (w := W0) bem hb; obtain ⟨hc, hfz⟩ := gp hbw
 have hblk : w'.heap[w.heap.size + 1]? = some (.cells #[.int .i64 0, .bool false, .slice none 0 0, .int .i64 0, .bool false, .slice none 0 0] 74 (0, 0)) := (hbw.block _ q1).trans NR.out
 have mo := Lib.hid hblk
 have ky : Below w.heap.size w w' := ek hw0 hbw
 clear hblk
 go_wp2_with fail
 exact bodyPost_ret (v := (Value.agg #[.int .i64 s2, .bool fw, .slice A2 l2.length c2, .int .i64 s1, .bool fu, .slice A1 l1.length c1])) (by simp [results, Tryz.results79, go_sem, hc, qb, qa, rz, uj, Bp, Bo, q1]) rfl
  ⟨s2, fw, A2, c2, l2, s1, fu, A1, c1, l1, rfl, ((aa H2).below (ek hw0 hbw)).upto mo.out (Ao _ _ _ _ _ _ _ _ _ _) (qy _ _ _ _ _ _ _ _), ((aa H1).below (ek hw0 hbw)).upto mo.out (Ao _ _ _ _ _ _ _ _ _ _) (qy _ _ _ _ _ _ _ _), ky.grown (qy _ _ _ _ _ _ _ _) ky.size (fun k hk => by injection hk with hk; omega)⟩

end Go.Proofs.YtfbcdfoohpkfeaaGreatDoor
namespace Go.Proofs.YtfbcdfoohpkfeaaGreatDoor
open Go.RowKit

def Xz (w : World) (F : Nat) (x q : Rat) : Prop := ∀ (s1 : Int) (fu : Bool) (A1 : Option Addr) (c1 : Nat) (l1 : List Nat) (s2 : Int) (fw : Bool) (A2 : Option Addr) (c2 : Nat) (l2 : List Nat) (W : World), Below w.heap.size w W → ig W s1 fu A1 c1 l1 x.num → ig W s2 fw A2 c2 l2 (x.den : Int) → Calls Tryz.prog F #[(Value.agg #[.int .i64 s1, .bool fu, .slice A1 l1.length c1, .int .i64 s2, .bool fw, .slice A2 l2.length c2])] W fun e w' => Ia W q.num (q.den : Int) e w'
def Oy (w : World) (F : Nat) (x y q : Rat) : Prop := ∀ (s1 : Int) (fu : Bool) (A1 : Option Addr) (c1 : Nat) (l1 : List Nat) (s2 : Int) (fw : Bool) (A2 : Option Addr) (c2 : Nat) (l2 : List Nat) (s3 : Int) (uq : Bool) (A3 : Option Addr) (c3 : Nat) (l3 : List Nat) (s4 : Int) (uk : Bool) (A4 : Option Addr) (c4 : Nat) (l4 : List Nat) (W : World), Below w.heap.size w W → ig W s1 fu A1 c1 l1 x.num → ig W s2 fw A2 c2 l2 (x.den : Int) → ig W s3 uq A3 c3 l3 y.num → ig W s4 uk A4 c4 l4 (y.den : Int) → Calls Tryz.prog F #[(Value.agg #[.int .i64 s1, .bool fu, .slice A1 l1.length c1, .int .i64 s2, .bool fw, .slice A2 l2.length c2]), (Value.agg #[.int .i64 s3, .bool uq, .slice A3 l3.length c3, .int .i64 s4, .bool uk, .slice A4 l4.length c4])] W fun e w' => Ia W q.num (q.den : Int) e w'
theorem Xz.mono {w w' : World} {F : Nat} {x q : Rat} (h : Xz w F x q) (hb : Below w.heap.size w w') : Xz w' F x q := fun _ _ _ _ _ _ _ _ _ _ W hW => h _ _ _ _ _ _ _ _ _ _ W (ek hb hW)
theorem Oy.mono {w w' : World} {F : Nat} {x y q : Rat} (h : Oy w F x y q) (hb : Below w.heap.size w w') : Oy w' F x y q := fun _ _ _ _ _ _ _ _ _ _ _ _ _ _ _ _ _ _ _ _ W hW => h _ _ _ _ _ _ _ _ _ _ _ _ _ _ _ _ _ _ _ _ W (ek hb hW)

def Dc (K : Nat) (q : Rat) : Prop := Wd.Sz gy K q.num ∧ Wd.Sz gy K (q.den : Int)
theorem Dc.mono {K L : Nat} {q : Rat} (h : Dc K q) (hk : K ≤ L) : Dc L q := ⟨h.1.mono wu hk, h.2.mono wu hk⟩
theorem Dc.neg {K : Nat} {q : Rat} (h : Dc K q) : Dc K (-q) := ⟨by rw [Rat.neg_num]; exact h.1.neg, by rw [Rat.neg_den]; exact h.2⟩

theorem azd (w : World) (x : Rat) : Xz w 134 x (-x) := fun s1 fu A1 c1 l1 s2 fw A2 c2 l2 W _ f1 f2 => by
 rw [Rat.neg_num, Rat.neg_den]
 exact atq s1 fu A1 c1 l1 _ s2 fw A2 c2 l2 _ W f1 f2
theorem aze (w : World) (x : Rat) (h : x.num ≠ 0) : Xz w 79 x (x⁻¹) := fun s1 fu A1 c1 l1 s2 fw A2 c2 l2 W _ f1 f2 => by
 have hp := Wd.acm x h
 by_cases hn : x.num < 0
 ·
  rw [(hp.1 hn).1, (hp.1 hn).2]
  exact att s1 fu A1 c1 l1 _ s2 fw A2 c2 l2 _ W f1 f2 hn
 ·
  rw [(hp.2 hn).1, (hp.2 hn).2]
  exact atr s1 fu A1 c1 l1 _ s2 fw A2 c2 l2 _ W f1 f2 hn
theorem Dc.inv {K : Nat} {q : Rat} (h : Dc K q) (h0 : q.num ≠ 0) : Dc K (q⁻¹) := by
 have hp := Wd.acm q h0
 by_cases hn : q.num < 0
 ·
  exact ⟨by rw [(hp.1 hn).1]; exact h.2.neg, by rw [(hp.1 hn).2]; exact h.1.neg⟩
 ·
  exact ⟨by rw [(hp.2 hn).1]; exact h.2, by rw [(hp.2 hn).2]; exact h.1⟩

theorem azf {w : World} {K : Nat} (hT : xg w) (x y : Rat) (hx : Dc K x) (hy : Dc K y) (hK : K + K + 1 ≤ lim) : Oy w 78 x y (x + y) ∧ Dc (K + K + 1) (x + y) := by
 have dx : (x.den : Int) ≠ 0 := by have := x.den_pos; omega
 have dy : (y.den : Int) ≠ 0 := by have := y.den_pos; omega
 obtain ⟨g, hg⟩ : ∃ g, g = x.den.gcd y.den := ⟨_, rfl⟩
 obtain ⟨xd, hxd⟩ : ∃ z, z = (x.den : Int).tdiv g := ⟨_, rfl⟩
 obtain ⟨yd, Zo⟩ : ∃ z, z = (y.den : Int).tdiv g := ⟨_, rfl⟩
 obtain ⟨m1, hm1⟩ : ∃ z, z = x.num * yd := ⟨_, rfl⟩
 obtain ⟨m2, hm2⟩ : ∃ z, z = y.num * xd := ⟨_, rfl⟩
 obtain ⟨n, hn⟩ : ∃ z, z = m1 + m2 := ⟨_, rfl⟩
 obtain ⟨h, hh⟩ : ∃ h, h = g.gcd n.natAbs := ⟨_, rfl⟩
 obtain ⟨e1, he1⟩ : ∃ z, z = (y.den : Int).tdiv h := ⟨_, rfl⟩
 have hp := Wd.adp x y g h n hg (by rw [hn, hm1, hm2, hxd, Zo]) hh
 have g0 : 0 < g := by rw [hg]; exact Nat.gcd_pos_of_pos_left _ x.den_pos
 have h0 : 0 < h := by rw [hh]; exact Nat.gcd_pos_of_pos_left _ g0
 have sg : Wd.Sz gy K (g : Int) := by
  have := hx.2.gcd_left (b := (y.den : Int)) dx
  simpa [hg] using this
 have sh : Wd.Sz gy K (h : Int) := by
  have := sg.gcd_left (b := n) om
  simpa [hh] using this
 have sxd : Wd.Sz gy K xd := by rw [hxd]; exact hx.2.tdiv _
 have syd : Wd.Sz gy K yd := by rw [Zo]; exact hy.2.tdiv _
 have sm1 : Wd.Sz gy (K + K) m1 := by rw [hm1]; exact hx.1.mul syd
 have sm2 : Wd.Sz gy (K + K) m2 := by rw [hm2]; exact hy.1.mul sxd
 have sn : Wd.Sz gy (K + K + 1) n := by rw [hn]; exact sm1.add wu sm2
 have se1 : Wd.Sz gy K e1 := by rw [he1]; exact hy.2.tdiv _
 have B := wu
 have up : ∀ z, Wd.Sz gy K z → Wd.Sz gy (K + K + 1) z := fun z hz => hz.mono B om
 refine ⟨?_, ⟨by rw [hp.1]; exact sn.tdiv _, by rw [hp.2]; exact ((hx.2.tdiv _).mul (hy.2.tdiv _)).mono B om⟩⟩
 rw [Oy, hp.1, hp.2]
 exact fun s1 fu A1 c1 l1 s2 fw A2 c2 l2 s3 uq A3 c3 l3 s4 uk A4 c4 l4 W hW f1 f2 f3 f4 => aoh s1 fu A1 c1 l1 s2 fw A2 c2 l2 s3 uq A3 c3 l3 s4 uk A4 c4 l4 x.num (x.den : Int) y.num (y.den : Int) (g : Int) xd yd m1 m2 n (h : Int) _ e1 _ W f1 f2 f3 f4
  (Ra (hT.below hW) (up _ hx.2) (up _ hy.2) hK (by simp [hg])) (Fp (up _ hx.2) (up _ sg) hK om hxd) (Fp (up _ hy.2) (up _ sg) hK om Zo)
  (Mc (up _ hx.1) (up _ syd) hK hm1) (Mc (up _ hy.1) (up _ sxd) hK hm2) (aoq (sm1.mono B om) (sm2.mono B om) hK hn)
  (Ra (hT.below hW) (up _ sg) sn hK (by simp [hh])) (Fp sn (up _ sh) hK om rfl) (Fp (up _ hy.2) (up _ sh) hK om he1) (Mc (up _ sxd) (up _ se1) hK (by rw [hxd, he1]))

theorem aau {w : World} {K : Nat} (hT : xg w) (x y : Rat) (hx : Dc K x) (hy : Dc K y) (hK : K + K + 1 ≤ lim) : Oy w 111 x y (x * y) ∧ Dc (K + K) (x * y) := by
 have dx : (x.den : Int) ≠ 0 := by have := x.den_pos; omega
 have dy : (y.den : Int) ≠ 0 := by have := y.den_pos; omega
 obtain ⟨g, hg⟩ : ∃ g, g = x.num.natAbs.gcd y.den := ⟨_, rfl⟩
 obtain ⟨h, hh⟩ : ∃ h, h = y.num.natAbs.gcd x.den := ⟨_, rfl⟩
 obtain ⟨a1, ha1⟩ : ∃ z, z = x.num.tdiv g := ⟨_, rfl⟩
 obtain ⟨b1, hb1⟩ : ∃ z, z = y.num.tdiv h := ⟨_, rfl⟩
 obtain ⟨a2, ha2⟩ : ∃ z, z = (x.den : Int).tdiv h := ⟨_, rfl⟩
 obtain ⟨b2, hb2⟩ : ∃ z, z = (y.den : Int).tdiv g := ⟨_, rfl⟩
 have hp := Wd.adl x y g h hg hh
 have g0 : 0 < g := by rw [hg]; exact Nat.gcd_pos_of_pos_right _ y.den_pos
 have h0 : 0 < h := by rw [hh]; exact Nat.gcd_pos_of_pos_right _ x.den_pos
 have sg : Wd.Sz gy K (g : Int) := by
  have := hy.2.gcd_right (a := x.num) dy
  simpa [hg] using this
 have sh : Wd.Sz gy K (h : Int) := by
  have := hx.2.gcd_right (a := y.num) dx
  simpa [hh] using this
 have sa1 : Wd.Sz gy K a1 := by rw [ha1]; exact hx.1.tdiv _
 have sb1 : Wd.Sz gy K b1 := by rw [hb1]; exact hy.1.tdiv _
 have sa2 : Wd.Sz gy K a2 := by rw [ha2]; exact hx.2.tdiv _
 have sb2 : Wd.Sz gy K b2 := by rw [hb2]; exact hy.2.tdiv _
 have hK1 : K ≤ lim := by omega
 refine ⟨?_, ⟨by rw [hp.1, ← ha1, ← hb1]; exact sa1.mul sb1, by rw [hp.2, ← ha2, ← hb2]; exact sa2.mul sb2⟩⟩
 rw [Oy, hp.1, hp.2]
 exact fun s1 fu A1 c1 l1 s2 fw A2 c2 l2 s3 uq A3 c3 l3 s4 uk A4 c4 l4 W hW f1 f2 f3 f4 => aod s1 fu A1 c1 l1 s2 fw A2 c2 l2 s3 uq A3 c3 l3 s4 uk A4 c4 l4 x.num (x.den : Int) y.num (y.den : Int) (g : Int) (h : Int) a1 b1 _ a2 b2 _ W f1 f2 f3 f4
  (Ra (hT.below hW) hx.1 hy.2 hK1 (by simp [hg])) (Ra (hT.below hW) hy.1 hx.2 hK1 (by simp [hh])) (Fp hx.1 sg hK1 om ha1) (Fp hy.1 sh hK1 om hb1)
  (Mc sa1 sb1 hK1 (by rw [ha1, hb1])) (Fp hx.2 sh hK1 om ha2) (Fp hy.2 sg hK1 om hb2) (Mc sa2 sb2 hK1 (by rw [ha2, hb2]))

end Go.Proofs.YtfbcdfoohpkfeaaGreatDoor
namespace Go.Proofs.YtfbcdfoohpkfeaaGreatDoor
open Go.RowKit

def jb : World → World → Prop := fun w w' => Below w.heap.size w w'
theorem jb.drew (w : World) : jb w w.drew := (Below.refl _ _).drew
theorem Gu {P : Program} {F : Nat} {fn : Func} (h : P.funcs[F]? = some fn) (hn : (!(fn.name == "runtime.NumGoroutine") && fn.body.isSome) = true) (vs : Array Value) (w : World) : (callFunc F vs).run P w = .ok (.enter F vs) w := by
 simp only [Bool.and_eq_true, Bool.not_eq_true', beq_eq_false_iff_ne] at hn
 have h2 : ¬ fn.body = none := by intro e; rw [e] at hn; exact absurd hn.2 (by simp)
 unfold callFunc
 simp [go_sem, h]
 rw [if_neg hn.1, if_neg h2]
theorem Nz {P : Program} {F : Nat} (hF : ∀ (vs : Array Value) (w : World), (callFunc F vs).run P w = .ok (.enter F vs) w) {a : Act} {w : World} {d : Option Tmp} {xs : Array Operand} {ats : Array TypeId} {ty : TypeId} {pos : String} {af : Array Edge} {gd : Option (Nat × Bool)} :
  (execOp a.eval { dst := d, op := .call { callee := .value (.func F), args := xs, argTypes := ats }, type := ty, pos := pos, after := af, guard := gd }).run P w = .ok (.enter F (xs.map a.eval)) w := by
 have h := hF (#[] ++ xs.map a.eval ++ #[]) w
 rw [Array.empty_append, Array.append_empty] at h
 rw [← h]
 simp only [execOp, resolve, Act.eval, Deferred.ofValue, invoke]
 simp only [pure_bind, Array.empty_append, Array.append_empty]
theorem ayu {P : Program} {a : Act} {w : World} {d : Option Tmp} {x : Operand} {i : Nat} {ty : TypeId} {pos : String} {af : Array Edge} {gd : Option (Nat × Bool)} {vs : Array Value} {u : Value} (h : a.eval x = .tuple vs) (hu : vs[i]? = some u) :
  (execOp a.eval { dst := d, op := .extract x i, type := ty, pos := pos, after := af, guard := gd }).run P w = .ok (.value u) w := by
 simp only [execOp, h]
 simp [go_sem, hu]
theorem uh {P : Program} {o : Oper} {a : Act} {w w' : World} {v : Value} {K : Act → World → Prop} {Q : Exit → Act → World → Prop} (h : (execOp a.eval o).run P w = .ok (.value v) w') (hK : K (a.put o.dst v) w') : o.wp P a w K Q := by
 unfold Oper.wp; rw [h]; exact hK
theorem Ja {P : Program} {o : Oper} {a : Act} {w w' : World} {F : Nat} {vs : Array Value} {K : Act → World → Prop} {Q : Exit → Act → World → Prop} (h : (execOp a.eval o).run P w = .ok (.enter F vs) w') (hK : Calls P F vs w' (fun e w'' => ∃ v, e = .returned v ∧ K (a.put o.dst v) w'')) : o.wp P a w K Q := by
 unfold Oper.wp; rw [h]
 refine hK.mono ?_
 rintro e w'' ⟨v, rfl, h⟩; exact h
theorem ayn {P : Program} {Q : Exit → Act → World → Prop} {l : List Oper} {n : Nat} {T : Nat → World → Value → Prop} {G : World → Prop} {al : List Nat} {a0 : Act} {k F d : Nat} {fn : Func}  {ats : Array TypeId} {ty : TypeId} {pos : String} {af : Array Edge} {gd : Option (Nat × Bool)}
  (hF : P.funcs[F]? = some fn) (hn : (!(fn.name == "runtime.NumGoroutine") && fn.body.isSome) = true) (hal : al.contains k = false) (Io : ∀ W W', G W → jb W W' → G W') 
  (hc : ∀ (W : World) , G W → Calls P F #[] W fun e w' => ∃ u, e = .returned u ∧ jb W w' ∧ T k w' u) :
  Rg.Step P Q l n T G jb al a0 k { dst := some d, op := .call { callee := .value (.func F), args := #[], argTypes := ats }, type := ty, pos := pos, after := af, guard := gd } := by
 intro a w hG hO hN
 refine Ja (Nz (Gu hF hn)) ?_
 simp only [List.map_toArray, List.map_cons, List.map_nil]
 refine (hc w  hG ).mono ?_
 rintro e w' ⟨u, rfl, hb, ht⟩
 exact ⟨u, rfl, u, rfl, Io _ _ hG hb, hb, ht, fun h => by rw [hal] at h; cases h⟩
theorem ku {P : Program} {Q : Exit → Act → World → Prop} {l : List Oper} {n : Nat} {T : Nat → World → Value → Prop} {G : World → Prop} {al : List Nat} {a0 : Act} {k F d : Nat} {fn : Func} {x1 : Operand} {A1 : World → Value → Prop} {ats : Array TypeId} {ty : TypeId} {pos : String} {af : Array Edge} {gd : Option (Nat × Bool)}
  (hF : P.funcs[F]? = some fn) (hn : (!(fn.name == "runtime.NumGoroutine") && fn.body.isSome) = true) (hal : al.contains k = false) (Io : ∀ W W', G W → jb W W' → G W') (h1 : Rg.ni l n T a0 k x1 A1)
  (hc : ∀ (W : World) (v1 : Value), G W → A1 W v1 → Calls P F #[v1] W fun e w' => ∃ u, e = .returned u ∧ jb W w' ∧ T k w' u) :
  Rg.Step P Q l n T G jb al a0 k { dst := some d, op := .call { callee := .value (.func F), args := #[x1], argTypes := ats }, type := ty, pos := pos, after := af, guard := gd } := by
 intro a w hG hO hN
 refine Ja (Nz (Gu hF hn)) ?_
 simp only [List.map_toArray, List.map_cons, List.map_nil]
 refine (hc w (a.eval x1) hG (h1 a w hO hN)).mono ?_
 rintro e w' ⟨u, rfl, hb, ht⟩
 exact ⟨u, rfl, u, rfl, Io _ _ hG hb, hb, ht, fun h => by rw [hal] at h; cases h⟩
theorem ll {P : Program} {Q : Exit → Act → World → Prop} {l : List Oper} {n : Nat} {T : Nat → World → Value → Prop} {G : World → Prop} {al : List Nat} {a0 : Act} {k F d : Nat} {fn : Func} {x1 x2 : Operand} {A1 A2 : World → Value → Prop} {ats : Array TypeId} {ty : TypeId} {pos : String} {af : Array Edge} {gd : Option (Nat × Bool)}
  (hF : P.funcs[F]? = some fn) (hn : (!(fn.name == "runtime.NumGoroutine") && fn.body.isSome) = true) (hal : al.contains k = false) (Io : ∀ W W', G W → jb W W' → G W') (h1 : Rg.ni l n T a0 k x1 A1) (h2 : Rg.ni l n T a0 k x2 A2)
  (hc : ∀ (W : World) (v1 v2 : Value), G W → A1 W v1 → A2 W v2 → Calls P F #[v1, v2] W fun e w' => ∃ u, e = .returned u ∧ jb W w' ∧ T k w' u) :
  Rg.Step P Q l n T G jb al a0 k { dst := some d, op := .call { callee := .value (.func F), args := #[x1, x2], argTypes := ats }, type := ty, pos := pos, after := af, guard := gd } := by
 intro a w hG hO hN
 refine Ja (Nz (Gu hF hn)) ?_
 simp only [List.map_toArray, List.map_cons, List.map_nil]
 refine (hc w (a.eval x1) (a.eval x2) hG (h1 a w hO hN) (h2 a w hO hN)).mono ?_
 rintro e w' ⟨u, rfl, hb, ht⟩
 exact ⟨u, rfl, u, rfl, Io _ _ hG hb, hb, ht, fun h => by rw [hal] at h; cases h⟩
theorem aym {P : Program} {Q : Exit → Act → World → Prop} {l : List Oper} {n : Nat} {T : Nat → World → Value → Prop} {G : World → Prop} {al : List Nat} {a0 : Act} {k F d : Nat} {fn : Func} {x1 x2 x3 : Operand} {A1 A2 A3 : World → Value → Prop} {ats : Array TypeId} {ty : TypeId} {pos : String} {af : Array Edge} {gd : Option (Nat × Bool)}
  (hF : P.funcs[F]? = some fn) (hn : (!(fn.name == "runtime.NumGoroutine") && fn.body.isSome) = true) (hal : al.contains k = false) (Io : ∀ W W', G W → jb W W' → G W') (h1 : Rg.ni l n T a0 k x1 A1) (h2 : Rg.ni l n T a0 k x2 A2) (h3 : Rg.ni l n T a0 k x3 A3)
  (hc : ∀ (W : World) (v1 v2 v3 : Value), G W → A1 W v1 → A2 W v2 → A3 W v3 → Calls P F #[v1, v2, v3] W fun e w' => ∃ u, e = .returned u ∧ jb W w' ∧ T k w' u) :
  Rg.Step P Q l n T G jb al a0 k { dst := some d, op := .call { callee := .value (.func F), args := #[x1, x2, x3], argTypes := ats }, type := ty, pos := pos, after := af, guard := gd } := by
 intro a w hG hO hN
 refine Ja (Nz (Gu hF hn)) ?_
 simp only [List.map_toArray, List.map_cons, List.map_nil]
 refine (hc w (a.eval x1) (a.eval x2) (a.eval x3) hG (h1 a w hO hN) (h2 a w hO hN) (h3 a w hO hN)).mono ?_
 rintro e w' ⟨u, rfl, hb, ht⟩
 exact ⟨u, rfl, u, rfl, Io _ _ hG hb, hb, ht, fun h => by rw [hal] at h; cases h⟩
theorem ayl {P : Program} {Q : Exit → Act → World → Prop} {l : List Oper} {n : Nat} {T : Nat → World → Value → Prop} {G : World → Prop} {al : List Nat} {a0 : Act} {k F d : Nat} {fn : Func} {x1 x2 x3 x4 : Operand} {A1 A2 A3 A4 : World → Value → Prop} {ats : Array TypeId} {ty : TypeId} {pos : String} {af : Array Edge} {gd : Option (Nat × Bool)}
  (hF : P.funcs[F]? = some fn) (hn : (!(fn.name == "runtime.NumGoroutine") && fn.body.isSome) = true) (hal : al.contains k = false) (Io : ∀ W W', G W → jb W W' → G W') (h1 : Rg.ni l n T a0 k x1 A1) (h2 : Rg.ni l n T a0 k x2 A2) (h3 : Rg.ni l n T a0 k x3 A3) (h4 : Rg.ni l n T a0 k x4 A4)
  (hc : ∀ (W : World) (v1 v2 v3 v4 : Value), G W → A1 W v1 → A2 W v2 → A3 W v3 → A4 W v4 → Calls P F #[v1, v2, v3, v4] W fun e w' => ∃ u, e = .returned u ∧ jb W w' ∧ T k w' u) :
  Rg.Step P Q l n T G jb al a0 k { dst := some d, op := .call { callee := .value (.func F), args := #[x1, x2, x3, x4], argTypes := ats }, type := ty, pos := pos, after := af, guard := gd } := by
 intro a w hG hO hN
 refine Ja (Nz (Gu hF hn)) ?_
 simp only [List.map_toArray, List.map_cons, List.map_nil]
 refine (hc w (a.eval x1) (a.eval x2) (a.eval x3) (a.eval x4) hG (h1 a w hO hN) (h2 a w hO hN) (h3 a w hO hN) (h4 a w hO hN)).mono ?_
 rintro e w' ⟨u, rfl, hb, ht⟩
 exact ⟨u, rfl, u, rfl, Io _ _ hG hb, hb, ht, fun h => by rw [hal] at h; cases h⟩
theorem il {P : Program} {Q : Exit → Act → World → Prop} {l : List Oper} {n : Nat} {T : Nat → World → Value → Prop} {G : World → Prop} {al : List Nat} {a0 : Act} {k d : Nat} {x : Operand} {ty : TypeId} {pos : String} {af : Array Edge} {gd : Option (Nat × Bool)}
  (hal : al.contains k = false) (hx : Rg.ni l n T a0 k x (T k)) : Rg.Step P Q l n T G jb al a0 k { dst := some d, op := .move x, type := ty, pos := pos, after := af, guard := gd } := by
 intro a w hG hO hN
 exact uh (v := a.eval x) (w' := w) rfl ⟨_, rfl, hG, Below.refl _ _, hx a w hO hN, fun h => by rw [hal] at h; cases h⟩
theorem ma {P : Program} {Q : Exit → Act → World → Prop} {l : List Oper} {n : Nat} {T : Nat → World → Value → Prop} {G : World → Prop} {al : List Nat} {a0 : Act} {k d : Nat} {x : Operand} {ty : TypeId} {pos : String} {af : Array Edge} {gd : Option (Nat × Bool)}
  (hal : al.contains k = false) (hx : Rg.ni l n T a0 k x (T k)) : Rg.Step P Q l n T G jb al a0 k { dst := some d, op := .assign x, type := ty, pos := pos, after := af, guard := gd } := by
 intro a w hG hO hN
 exact uh (v := a.eval x) (w' := w) rfl ⟨_, rfl, hG, Below.refl _ _, hx a w hO hN, fun h => by rw [hal] at h; cases h⟩
theorem bfk {P : Program} {Q : Exit → Act → World → Prop} {l : List Oper} {n : Nat} {T : Nat → World → Value → Prop} {G : World → Prop} {al : List Nat} {a0 : Act} {k d i : Nat} {x : Operand} {A : World → Value → Prop} {ty : TypeId} {pos : String} {af : Array Edge} {gd : Option (Nat × Bool)}
  (hal : al.contains k = false) (hx : Rg.ni l n T a0 k x A) (hi : ∀ W v, A W v → ∃ vs, v = .tuple vs ∧ ∃ u, vs[i]? = some u ∧ T k W u) : Rg.Step P Q l n T G jb al a0 k { dst := some d, op := .extract x i, type := ty, pos := pos, after := af, guard := gd } := by
 intro a w hG hO hN
 obtain ⟨vs, h1, u, h2, h3⟩ := hi _ _ (hx a w hO hN)
 exact uh (ayu h1 h2) ⟨_, rfl, hG, Below.refl _ _, h3, fun h => by rw [hal] at h; cases h⟩
theorem aeq {P : Program} {a : Act} {w : World} {d : Option Tmp} {c x y : Operand} {b : Bool} {ty : TypeId} {pos : String} {af : Array Edge} {gd : Option (Nat × Bool)} (h : a.eval c = .bool b) :
  (execOp a.eval { dst := d, op := .pick c x y, type := ty, pos := pos, after := af, guard := gd }).run P w = .ok (.value (if b then a.eval x else a.eval y)) w := by
 simp only [execOp, h]
 cases b <;> simp [go_sem]
theorem xw {P : Program} {Q : Exit → Act → World → Prop} {l : List Oper} {n : Nat} {T : Nat → World → Value → Prop} {G : World → Prop} {al : List Nat} {a0 : Act} {k d : Nat} {c x y : Operand} {ty : TypeId} {pos : String} {af : Array Edge} {gd : Option (Nat × Bool)}
  (hal : al.contains k = false) (hc : Rg.ni l n T a0 k c (Rg.cz (.bool true))) (hx : Rg.ni l n T a0 k x (T k)) : Rg.Step P Q l n T G jb al a0 k { dst := some d, op := .pick c x y, type := ty, pos := pos, after := af, guard := gd } := by
 intro a w hG hO hN
 exact uh (aeq (hc a w hO hN)) ⟨_, rfl, hG, Below.refl _ _, hx a w hO hN, fun h => by rw [hal] at h; cases h⟩
theorem zk {P : Program} {Q : Exit → Act → World → Prop} {l : List Oper} {n : Nat} {T : Nat → World → Value → Prop} {G : World → Prop} {al : List Nat} {a0 : Act} {k d : Nat} {c x y : Operand} {ty : TypeId} {pos : String} {af : Array Edge} {gd : Option (Nat × Bool)}
  (hal : al.contains k = false) (hc : Rg.ni l n T a0 k c (Rg.cz (.bool false))) (hy : Rg.ni l n T a0 k y (T k)) : Rg.Step P Q l n T G jb al a0 k { dst := some d, op := .pick c x y, type := ty, pos := pos, after := af, guard := gd } := by
 intro a w hG hO hN
 exact uh (aeq (hc a w hO hN)) ⟨_, rfl, hG, Below.refl _ _, hy a w hO hN, fun h => by rw [hal] at h; cases h⟩
theorem ayo {P : Program} {a : Act} {w : World} {d : Option Tmp} {x : Operand} {b : Bool} {tb ty : TypeId} {pos : String} {af : Array Edge} {gd : Option (Nat × Bool)} (h : a.eval x = .bool b) :
  (execOp a.eval { dst := d, op := .unOp .not tb x, type := ty, pos := pos, after := af, guard := gd }).run P w = .ok (.value (.bool (!b))) w := by
 simp only [execOp, h]
 simp [go_sem]
theorem Bj {P : Program} {Q : Exit → Act → World → Prop} {l : List Oper} {n : Nat} {T : Nat → World → Value → Prop} {G : World → Prop} {al : List Nat} {a0 : Act} {k d : Nat} {x : Operand} {b c : Bool} {tb ty : TypeId} {pos : String} {af : Array Edge} {gd : Option (Nat × Bool)}
  (hal : al.contains k = false) (hx : Rg.ni l n T a0 k x (Rg.cz (.bool b))) (hT : T k = Rg.cz (.bool c)) (hb : (!b) = c) : Rg.Step P Q l n T G jb al a0 k { dst := some d, op := .unOp .not tb x, type := ty, pos := pos, after := af, guard := gd } := by
 intro a w hG hO hN
 exact uh (ayo (hx a w hO hN)) ⟨_, rfl, hG, Below.refl _ _, by rw [hT, ← hb]; rfl, fun h => by rw [hal] at h; cases h⟩
theorem ayq {ρ : Operand → Value} {w : World} {d : Option Tmp} {x y : Operand} {o z : Int} {ty : TypeId} {pos : String} {af : Array Edge} {gd : Option (Nat × Bool)} (h : ρ x = .int .i64 o) (h' : ρ y = .int .i64 z) :
  (execOp ρ { dst := d, op := .binOp .leq 3 x y 3, type := ty, pos := pos, after := af, guard := gd }).run Tryz.prog w = .ok (.value (.bool (decide (o ≤ z)))) w := by
 simp only [execOp, h, h']
 simp [go_sem, Tryz.underlying3]
theorem Gg {Q : Exit → Act → World → Prop} {l : List Oper} {n : Nat} {T : Nat → World → Value → Prop} {G : World → Prop} {al : List Nat} {a0 : Act} {k d : Nat} {x y : Operand} {o z : Int} {ty : TypeId} {pos : String} {af : Array Edge} {gd : Option (Nat × Bool)} {b : Bool}
  (hal : al.contains k = false) (hx : Rg.ni l n T a0 k x (Rg.cz (.int .i64 o))) (hy : Rg.ni l n T a0 k y (Rg.cz (.int .i64 z))) (hT : T k = Rg.cz (.bool b)) (hb : (decide (o ≤ z)) = b) : Rg.Step Tryz.prog Q l n T G jb al a0 k { dst := some d, op := .binOp .leq 3 x y 3, type := ty, pos := pos, after := af, guard := gd } := by
 intro a w hG hO hN
 exact uh (P := Tryz.prog) (ayq (hx a w hO hN) (hy a w hO hN)) ⟨_, rfl, hG, Below.refl _ _, by rw [hT, hb]; rfl, fun h => by rw [hal] at h; cases h⟩
theorem ayp {ρ : Operand → Value} {w : World} {d : Option Tmp} {x y : Operand} {o z : Int} {ty : TypeId} {pos : String} {af : Array Edge} {gd : Option (Nat × Bool)} (h : ρ x = .int .i64 o) (h' : ρ y = .int .i64 z) :
  (execOp ρ { dst := d, op := .binOp .lss 3 x y 3, type := ty, pos := pos, after := af, guard := gd }).run Tryz.prog w = .ok (.value (.bool (decide (o < z)))) w := by
 simp only [execOp, h, h']
 simp [go_sem, Tryz.underlying3]
theorem Em {Q : Exit → Act → World → Prop} {l : List Oper} {n : Nat} {T : Nat → World → Value → Prop} {G : World → Prop} {al : List Nat} {a0 : Act} {k d : Nat} {x y : Operand} {o z : Int} {ty : TypeId} {pos : String} {af : Array Edge} {gd : Option (Nat × Bool)} {b : Bool}
  (hal : al.contains k = false) (hx : Rg.ni l n T a0 k x (Rg.cz (.int .i64 o))) (hy : Rg.ni l n T a0 k y (Rg.cz (.int .i64 z))) (hT : T k = Rg.cz (.bool b)) (hb : (decide (o < z)) = b) : Rg.Step Tryz.prog Q l n T G jb al a0 k { dst := some d, op := .binOp .lss 3 x y 3, type := ty, pos := pos, after := af, guard := gd } := by
 intro a w hG hO hN
 exact uh (P := Tryz.prog) (ayp (hx a w hO hN) (hy a w hO hN)) ⟨_, rfl, hG, Below.refl _ _, by rw [hT, hb]; rfl, fun h => by rw [hal] at h; cases h⟩
theorem ays {ρ : Operand → Value} {w : World} {d : Option Tmp} {x y : Operand} {o z : Int} {ty : TypeId} {pos : String} {af : Array Edge} {gd : Option (Nat × Bool)} (h : ρ x = .int .i64 o) (h' : ρ y = .int .i64 z) :
  (execOp ρ { dst := d, op := .binOp .gtr 3 x y 3, type := ty, pos := pos, after := af, guard := gd }).run Tryz.prog w = .ok (.value (.bool (decide (z < o)))) w := by
 simp only [execOp, h, h']
 simp [go_sem, Tryz.underlying3]
theorem Fb {Q : Exit → Act → World → Prop} {l : List Oper} {n : Nat} {T : Nat → World → Value → Prop} {G : World → Prop} {al : List Nat} {a0 : Act} {k d : Nat} {x y : Operand} {o z : Int} {ty : TypeId} {pos : String} {af : Array Edge} {gd : Option (Nat × Bool)} {b : Bool}
  (hal : al.contains k = false) (hx : Rg.ni l n T a0 k x (Rg.cz (.int .i64 o))) (hy : Rg.ni l n T a0 k y (Rg.cz (.int .i64 z))) (hT : T k = Rg.cz (.bool b)) (hb : (decide (z < o)) = b) : Rg.Step Tryz.prog Q l n T G jb al a0 k { dst := some d, op := .binOp .gtr 3 x y 3, type := ty, pos := pos, after := af, guard := gd } := by
 intro a w hG hO hN
 exact uh (P := Tryz.prog) (ays (hx a w hO hN) (hy a w hO hN)) ⟨_, rfl, hG, Below.refl _ _, by rw [hT, hb]; rfl, fun h => by rw [hal] at h; cases h⟩
theorem ayt {ρ : Operand → Value} {w : World} {d : Option Tmp} {x y : Operand} {o z : Int} {ty : TypeId} {pos : String} {af : Array Edge} {gd : Option (Nat × Bool)} (h : ρ x = .int .i64 o) (h' : ρ y = .int .i64 z) :
  (execOp ρ { dst := d, op := .binOp .geq 3 x y 3, type := ty, pos := pos, after := af, guard := gd }).run Tryz.prog w = .ok (.value (.bool (decide (z ≤ o)))) w := by
 simp only [execOp, h, h']
 simp [go_sem, Tryz.underlying3]
theorem awr {Q : Exit → Act → World → Prop} {l : List Oper} {n : Nat} {T : Nat → World → Value → Prop} {G : World → Prop} {al : List Nat} {a0 : Act} {k d : Nat} {x y : Operand} {o z : Int} {ty : TypeId} {pos : String} {af : Array Edge} {gd : Option (Nat × Bool)} {b : Bool}
  (hal : al.contains k = false) (hx : Rg.ni l n T a0 k x (Rg.cz (.int .i64 o))) (hy : Rg.ni l n T a0 k y (Rg.cz (.int .i64 z))) (hT : T k = Rg.cz (.bool b)) (hb : (decide (z ≤ o)) = b) : Rg.Step Tryz.prog Q l n T G jb al a0 k { dst := some d, op := .binOp .geq 3 x y 3, type := ty, pos := pos, after := af, guard := gd } := by
 intro a w hG hO hN
 exact uh (P := Tryz.prog) (ayt (hx a w hO hN) (hy a w hO hN)) ⟨_, rfl, hG, Below.refl _ _, by rw [hT, hb]; rfl, fun h => by rw [hal] at h; cases h⟩
theorem awp {P : Program} {Q : Exit → Act → World → Prop} {l : List Oper} {n : Nat} {T : Nat → World → Value → Prop} {G : World → Prop} {al : List Nat} {a0 : Act} {k B : Nat} {o : Oper} {N : Nat → World → Value → Prop} (hnew : ∀ (a : Act) (w : World), ∃ X : World, jb w X ∧ (B ≤ w.heap.size → N B X (.pointer (some ⟨w.heap.size, 0, none⟩))) ∧ (execOp a.eval o).run P w = .ok (.value (.pointer (some ⟨w.heap.size, 0, none⟩))) X)
  (Io : ∀ W W', G W → jb W W' → G W') (hB : ∀ W, G W → B ≤ W.heap.size) (hT : T k = N B) (hlt : ∀ j W u, al.contains j = true → T j W u → ∃ b, u = .pointer (some ⟨b, 0, none⟩) ∧ b < W.heap.size) :
  Rg.Step P Q l n T G jb al a0 k o := by
 intro a w hG hO hN
 obtain ⟨X, hb, hbx, hr⟩ := hnew a w
 have hT2 : T k X (.pointer (some ⟨w.heap.size, 0, none⟩)) := by rw [hT]; exact hbx (hB w hG)
 have hG2 := Io _ _ hG hb
 have hne : al.contains k = true → ∀ j u, al.contains j = true → T j w u → u ≠ .pointer (some ⟨w.heap.size, 0, none⟩) := fun _ j u hj ht he => by
  obtain ⟨b, h1, h2⟩ := hlt j w u hj ht
  rw [h1] at he
  have h3 : b = w.heap.size := by first | (simp at he; done) | (simp at he; exact he)
  omega
 exact uh hr ⟨_, rfl, hG2, hb, hT2, hne⟩
def nk (T : World → Value → Prop) (w : World) (e : Ending) (w' : World) : Prop := ∃ u, e = .returned u ∧ jb w w' ∧ T w' u
end Go.Proofs.YtfbcdfoohpkfeaaGreatDoor
namespace Go.Proofs.YtfbcdfoohpkfeaaGreatDoor
open Go.RowKit

set_option maxHeartbeats 8000000 in
theorem aoc (s1 : Int) (fu : Bool) (A1 : Option Addr) (c1 : Nat) (l1 : List Nat) (z1 : Int) (s2 : Int) (fw : Bool) (A2 : Option Addr) (c2 : Nat) (l2 : List Nat) (z2 : Int) (w : World) (h1 : ig w s1 fu A1 c1 l1 z1) (h2 : ig w s2 fw A2 c2 l2 z2) (a1 : ¬ l1.length = 0) :
  Calls Tryz.prog 59 #[(Value.agg #[.int .i64 s1, .bool fu, .slice A1 l1.length c1, .int .i64 s2, .bool fw, .slice A2 l2.length c2])] w fun e w' => e = .returned (.tuple #[.agg #[.int .i64 0, .int .i64 0], .int .i64 3]) ∧ Below w.heap.size w w' := by
 have uo := hide (fun W => Cg s1 fu A1 c1 l1.length W)
 have HS2 := hide (fun W => Cg s2 fw A2 c2 l2.length W)
 rw [decide_eq_false a1] at uo
 obtain ⟨B2, hB2⟩ : ∃ b, b = decide (l2.length = 0) := ⟨_, rfl⟩
 rw [← hB2] at HS2
 clear hB2
 clear a1 h1 h2
 go_enter Tryz.func59, Tryz.ntmps59
 go_wp2_with fail
 obtain ⟨n0, n1, hsz, hw0⟩ := xk w (.cells #[.int .i64 s1, .bool fu, .slice A1 l1.length c1, .int .i64 s2, .bool fw, .slice A2 l2.length c2] 74) (.cells #[.int .i64 0, .int .i64 0] 23)
 generalize ((w.alloc (.cells #[.int .i64 s1, .bool fu, .slice A1 l1.length c1, .int .i64 s2, .bool fw, .slice A2 l2.length c2] 74)).alloc (.cells #[.int .i64 0, .int .i64 0] 23)) = W0 at *
 have oz : W0.cell? ⟨w.heap.size, 0, none⟩ = some (.int .i64 s1) := ae n0 0
 have ou : W0.cell? ⟨w.heap.size, 1, none⟩ = some (.bool fu) := ae n0 1
 have qh : W0.cell? ⟨w.heap.size, 2, none⟩ = some (.slice A1 l1.length c1) := ae n0 2
 have qz : W0.cell? ⟨w.heap.size, 3, none⟩ = some (.int .i64 s2) := ae n0 3
 have zf : W0.cell? ⟨w.heap.size, 4, none⟩ = some (.bool fw) := ae n0 4
 have ze : W0.cell? ⟨w.heap.size, 5, none⟩ = some (.slice A2 l2.length c2) := ae n0 5
 have q0 : w.heap.size < W0.heap.size := by omega
 have qb : W0.cell? ⟨w.heap.size + 1, 0, none⟩ = some (.int .i64 0) := ae n1 0
 have qa : W0.cell? ⟨w.heap.size + 1, 1, none⟩ = some (.int .i64 0) := ae n1 1
 have q1 : w.heap.size + 1 < W0.heap.size := by omega
 have Ms := bz n1 0
 have Mr := bz n1 1
 have NR := Lib.hid n1
 clear n0 n1
 refine ((aa uo) _).mono ?_
 rintro e w3 ⟨rfl, hb⟩
 have hbw := fo (w := W0) bem hb
 obtain ⟨hc, hfz⟩ := gp hbw
 go_wp2_with fail
 refine ((aa HS2) _).mono ?_
 rintro e w4 ⟨rfl, hb⟩
 have hbw := fo (w := W0) bem hb
 obtain ⟨hc, hfz⟩ := gp hbw
 have ky : Below w.heap.size w w4 := ek hw0 hbw
 go_wp2_with fail
 exact bodyPost_ret (v := .tuple #[.agg #[.int .i64 0, .int .i64 0], .int .i64 3]) (by simp [results, Tryz.results59, go_sem, hc, qb, qa, q1]) rfl
  ⟨rfl, ky.grown (oh _ _ _ _) ky.size (fun k hk => by injection hk with hk; omega)⟩
set_option maxHeartbeats 8000000 in
theorem aob (s1 : Int) (fu : Bool) (A1 : Option Addr) (c1 : Nat) (l1 : List Nat) (z1 : Int) (s2 : Int) (fw : Bool) (A2 : Option Addr) (c2 : Nat) (l2 : List Nat) (z2 : Int) (w : World) (h1 : ig w s1 fu A1 c1 l1 z1) (h2 : ig w s2 fw A2 c2 l2 z2) (a1 : l1.length = 0) (a2 : ¬ l2.length = 0) :
  Calls Tryz.prog 59 #[(Value.agg #[.int .i64 s1, .bool fu, .slice A1 l1.length c1, .int .i64 s2, .bool fw, .slice A2 l2.length c2])] w fun e w' => e = .returned (.tuple #[.agg #[.int .i64 0, .int .i64 0], .int .i64 3]) ∧ Below w.heap.size w w' := by
 have uo := hide (fun W => Cg s1 fu A1 c1 l1.length W)
 have HS2 := hide (fun W => Cg s2 fw A2 c2 l2.length W)
 rw [decide_eq_true a1] at uo
 rw [decide_eq_false a2] at HS2
 clear a1 a2 h1 h2
 go_enter Tryz.func59, Tryz.ntmps59
 go_wp2_with fail
 obtain ⟨n0, n1, hsz, hw0⟩ := xk w (.cells #[.int .i64 s1, .bool fu, .slice A1 l1.length c1, .int .i64 s2, .bool fw, .slice A2 l2.length c2] 74) (.cells #[.int .i64 0, .int .i64 0] 23)
 generalize ((w.alloc (.cells #[.int .i64 s1, .bool fu, .slice A1 l1.length c1, .int .i64 s2, .bool fw, .slice A2 l2.length c2] 74)).alloc (.cells #[.int .i64 0, .int .i64 0] 23)) = W0 at *
 have oz : W0.cell? ⟨w.heap.size, 0, none⟩ = some (.int .i64 s1) := ae n0 0
 have ou : W0.cell? ⟨w.heap.size, 1, none⟩ = some (.bool fu) := ae n0 1
 have qh : W0.cell? ⟨w.heap.size, 2, none⟩ = some (.slice A1 l1.length c1) := ae n0 2
 have qz : W0.cell? ⟨w.heap.size, 3, none⟩ = some (.int .i64 s2) := ae n0 3
 have zf : W0.cell? ⟨w.heap.size, 4, none⟩ = some (.bool fw) := ae n0 4
 have ze : W0.cell? ⟨w.heap.size, 5, none⟩ = some (.slice A2 l2.length c2) := ae n0 5
 have q0 : w.heap.size < W0.heap.size := by omega
 have qb : W0.cell? ⟨w.heap.size + 1, 0, none⟩ = some (.int .i64 0) := ae n1 0
 have qa : W0.cell? ⟨w.heap.size + 1, 1, none⟩ = some (.int .i64 0) := ae n1 1
 have q1 : w.heap.size + 1 < W0.heap.size := by omega
 have Ms := bz n1 0
 have Mr := bz n1 1
 have NR := Lib.hid n1
 clear n0 n1
 refine ((aa uo) _).mono ?_
 rintro e w3 ⟨rfl, hb⟩
 have hbw := fo (w := W0) bem hb
 obtain ⟨hc, hfz⟩ := gp hbw
 go_wp2_with fail
 refine ((aa HS2) _).mono ?_
 rintro e w4 ⟨rfl, hb⟩
 have hbw := fo (w := W0) bem hb
 obtain ⟨hc, hfz⟩ := gp hbw
 have ky : Below w.heap.size w w4 := ek hw0 hbw
 go_wp2_with fail
 exact bodyPost_ret (v := .tuple #[.agg #[.int .i64 0, .int .i64 0], .int .i64 3]) (by simp [results, Tryz.results59, go_sem, hc, qb, qa, q1]) rfl
  ⟨rfl, ky.grown (oh _ _ _ _) ky.size (fun k hk => by injection hk with hk; omega)⟩
set_option maxHeartbeats 8000000 in
theorem ayw (s1 : Int) (fu : Bool) (A1 : Option Addr) (c1 : Nat) (l1 : List Nat) (z1 : Int) (s2 : Int) (fw : Bool) (A2 : Option Addr) (c2 : Nat) (l2 : List Nat) (z2 : Int) (w : World) (h1 : ig w s1 fu A1 c1 l1 z1) (h2 : ig w s2 fw A2 c2 l2 z2) (a1 : l1.length = 0) (a2 : l2.length = 0) (g1 : s1 < -1000000000000) :
  Calls Tryz.prog 59 #[(Value.agg #[.int .i64 s1, .bool fu, .slice A1 l1.length c1, .int .i64 s2, .bool fw, .slice A2 l2.length c2])] w fun e w' => e = .returned (.tuple #[.agg #[.int .i64 0, .int .i64 0], .int .i64 3]) ∧ Below w.heap.size w w' := by
 have uo := hide (fun W => Cg s1 fu A1 c1 l1.length W)
 have HS2 := hide (fun W => Cg s2 fw A2 c2 l2.length W)
 rw [decide_eq_true a1] at uo
 rw [decide_eq_true a2] at HS2
 have d1 : decide (s1 < -1000000000000) = true := decide_eq_true om
 clear a1 a2 h1 h2 g1
 go_enter Tryz.func59, Tryz.ntmps59
 go_wp2_with fail
 obtain ⟨n0, n1, hsz, hw0⟩ := xk w (.cells #[.int .i64 s1, .bool fu, .slice A1 l1.length c1, .int .i64 s2, .bool fw, .slice A2 l2.length c2] 74) (.cells #[.int .i64 0, .int .i64 0] 23)
 generalize ((w.alloc (.cells #[.int .i64 s1, .bool fu, .slice A1 l1.length c1, .int .i64 s2, .bool fw, .slice A2 l2.length c2] 74)).alloc (.cells #[.int .i64 0, .int .i64 0] 23)) = W0 at *
 have oz : W0.cell? ⟨w.heap.size, 0, none⟩ = some (.int .i64 s1) := ae n0 0
 have ou : W0.cell? ⟨w.heap.size, 1, none⟩ = some (.bool fu) := ae n0 1
 have qh : W0.cell? ⟨w.heap.size, 2, none⟩ = some (.slice A1 l1.length c1) := ae n0 2
 have qz : W0.cell? ⟨w.heap.size, 3, none⟩ = some (.int .i64 s2) := ae n0 3
 have zf : W0.cell? ⟨w.heap.size, 4, none⟩ = some (.bool fw) := ae n0 4
 have ze : W0.cell? ⟨w.heap.size, 5, none⟩ = some (.slice A2 l2.length c2) := ae n0 5
 have q0 : w.heap.size < W0.heap.size := by omega
 have qb : W0.cell? ⟨w.heap.size + 1, 0, none⟩ = some (.int .i64 0) := ae n1 0
 have qa : W0.cell? ⟨w.heap.size + 1, 1, none⟩ = some (.int .i64 0) := ae n1 1
 have q1 : w.heap.size + 1 < W0.heap.size := by omega
 have Ms := bz n1 0
 have Mr := bz n1 1
 have NR := Lib.hid n1
 clear n0 n1
 refine ((aa uo) _).mono ?_
 rintro e w3 ⟨rfl, hb⟩
 have hbw := fo (w := W0) bem hb
 obtain ⟨hc, hfz⟩ := gp hbw
 go_wp2_with fail
 refine ((aa HS2) _).mono ?_
 rintro e w4 ⟨rfl, hb⟩
 have hbw := fo (w := W0) bem hb
 obtain ⟨hc, hfz⟩ := gp hbw
 have ky : Below w.heap.size w w4 := ek hw0 hbw
 go_wp2_with fail
 exact bodyPost_ret (v := .tuple #[.agg #[.int .i64 0, .int .i64 0], .int .i64 3]) (by simp [results, Tryz.results59, go_sem, hc, qb, qa, q1]) rfl
  ⟨rfl, ky.grown (oh _ _ _ _) ky.size (fun k hk => by injection hk with hk; omega)⟩
set_option maxHeartbeats 8000000 in
theorem ayx (s1 : Int) (fu : Bool) (A1 : Option Addr) (c1 : Nat) (l1 : List Nat) (z1 : Int) (s2 : Int) (fw : Bool) (A2 : Option Addr) (c2 : Nat) (l2 : List Nat) (z2 : Int) (w : World) (h1 : ig w s1 fu A1 c1 l1 z1) (h2 : ig w s2 fw A2 c2 l2 z2) (a1 : l1.length = 0) (a2 : l2.length = 0) (g1 : 1000000000000 < s1) :
  Calls Tryz.prog 59 #[(Value.agg #[.int .i64 s1, .bool fu, .slice A1 l1.length c1, .int .i64 s2, .bool fw, .slice A2 l2.length c2])] w fun e w' => e = .returned (.tuple #[.agg #[.int .i64 0, .int .i64 0], .int .i64 3]) ∧ Below w.heap.size w w' := by
 have uo := hide (fun W => Cg s1 fu A1 c1 l1.length W)
 have HS2 := hide (fun W => Cg s2 fw A2 c2 l2.length W)
 rw [decide_eq_true a1] at uo
 rw [decide_eq_true a2] at HS2
 have d1 : decide (s1 < -1000000000000) = false := decide_eq_false om
 have d2 : decide (1000000000000 < s1) = true := decide_eq_true om
 clear a1 a2 h1 h2 g1
 go_enter Tryz.func59, Tryz.ntmps59
 go_wp2_with fail
 obtain ⟨n0, n1, hsz, hw0⟩ := xk w (.cells #[.int .i64 s1, .bool fu, .slice A1 l1.length c1, .int .i64 s2, .bool fw, .slice A2 l2.length c2] 74) (.cells #[.int .i64 0, .int .i64 0] 23)
 generalize ((w.alloc (.cells #[.int .i64 s1, .bool fu, .slice A1 l1.length c1, .int .i64 s2, .bool fw, .slice A2 l2.length c2] 74)).alloc (.cells #[.int .i64 0, .int .i64 0] 23)) = W0 at *
 have oz : W0.cell? ⟨w.heap.size, 0, none⟩ = some (.int .i64 s1) := ae n0 0
 have ou : W0.cell? ⟨w.heap.size, 1, none⟩ = some (.bool fu) := ae n0 1
 have qh : W0.cell? ⟨w.heap.size, 2, none⟩ = some (.slice A1 l1.length c1) := ae n0 2
 have qz : W0.cell? ⟨w.heap.size, 3, none⟩ = some (.int .i64 s2) := ae n0 3
 have zf : W0.cell? ⟨w.heap.size, 4, none⟩ = some (.bool fw) := ae n0 4
 have ze : W0.cell? ⟨w.heap.size, 5, none⟩ = some (.slice A2 l2.length c2) := ae n0 5
 have q0 : w.heap.size < W0.heap.size := by omega
 have qb : W0.cell? ⟨w.heap.size + 1, 0, none⟩ = some (.int .i64 0) := ae n1 0
 have qa : W0.cell? ⟨w.heap.size + 1, 1, none⟩ = some (.int .i64 0) := ae n1 1
 have q1 : w.heap.size + 1 < W0.heap.size := by omega
 have Ms := bz n1 0
 have Mr := bz n1 1
 have NR := Lib.hid n1
 clear n0 n1
 refine ((aa uo) _).mono ?_
 rintro e w3 ⟨rfl, hb⟩
 have hbw := fo (w := W0) bem hb
 obtain ⟨hc, hfz⟩ := gp hbw
 go_wp2_with fail
 refine ((aa HS2) _).mono ?_
 rintro e w4 ⟨rfl, hb⟩
 have hbw := fo (w := W0) bem hb
 obtain ⟨hc, hfz⟩ := gp hbw
 have ky : Below w.heap.size w w4 := ek hw0 hbw
 go_wp2_with fail
 exact bodyPost_ret (v := .tuple #[.agg #[.int .i64 0, .int .i64 0], .int .i64 3]) (by simp [results, Tryz.results59, go_sem, hc, qb, qa, q1]) rfl
  ⟨rfl, ky.grown (oh _ _ _ _) ky.size (fun k hk => by injection hk with hk; omega)⟩
set_option maxHeartbeats 8000000 in
theorem ato (s1 : Int) (fu : Bool) (A1 : Option Addr) (c1 : Nat) (l1 : List Nat) (z1 : Int) (s2 : Int) (fw : Bool) (A2 : Option Addr) (c2 : Nat) (l2 : List Nat) (z2 : Int) (w : World) (h1 : ig w s1 fu A1 c1 l1 z1) (h2 : ig w s2 fw A2 c2 l2 z2) (a1 : l1.length = 0) (a2 : l2.length = 0) (g1 : ¬ s1 < -1000000000000) (g2 : ¬ 1000000000000 < s1) (g3 : 1000000000000 < s2) :
  Calls Tryz.prog 59 #[(Value.agg #[.int .i64 s1, .bool fu, .slice A1 l1.length c1, .int .i64 s2, .bool fw, .slice A2 l2.length c2])] w fun e w' => e = .returned (.tuple #[.agg #[.int .i64 0, .int .i64 0], .int .i64 3]) ∧ Below w.heap.size w w' := by
 have uo := hide (fun W => Cg s1 fu A1 c1 l1.length W)
 have HS2 := hide (fun W => Cg s2 fw A2 c2 l2.length W)
 rw [decide_eq_true a1] at uo
 rw [decide_eq_true a2] at HS2
 have d1 : decide (s1 < -1000000000000) = false := decide_eq_false om
 have d2 : decide (1000000000000 < s1) = false := decide_eq_false om
 have d3 : decide (1000000000000 < s2) = true := decide_eq_true om
 clear a1 a2 h1 h2 g1 g2 g3
 go_enter Tryz.func59, Tryz.ntmps59
 go_wp2_with fail
 obtain ⟨n0, n1, hsz, hw0⟩ := xk w (.cells #[.int .i64 s1, .bool fu, .slice A1 l1.length c1, .int .i64 s2, .bool fw, .slice A2 l2.length c2] 74) (.cells #[.int .i64 0, .int .i64 0] 23)
 generalize ((w.alloc (.cells #[.int .i64 s1, .bool fu, .slice A1 l1.length c1, .int .i64 s2, .bool fw, .slice A2 l2.length c2] 74)).alloc (.cells #[.int .i64 0, .int .i64 0] 23)) = W0 at *
 have oz : W0.cell? ⟨w.heap.size, 0, none⟩ = some (.int .i64 s1) := ae n0 0
 have ou : W0.cell? ⟨w.heap.size, 1, none⟩ = some (.bool fu) := ae n0 1
 have qh : W0.cell? ⟨w.heap.size, 2, none⟩ = some (.slice A1 l1.length c1) := ae n0 2
 have qz : W0.cell? ⟨w.heap.size, 3, none⟩ = some (.int .i64 s2) := ae n0 3
 have zf : W0.cell? ⟨w.heap.size, 4, none⟩ = some (.bool fw) := ae n0 4
 have ze : W0.cell? ⟨w.heap.size, 5, none⟩ = some (.slice A2 l2.length c2) := ae n0 5
 have q0 : w.heap.size < W0.heap.size := by omega
 have qb : W0.cell? ⟨w.heap.size + 1, 0, none⟩ = some (.int .i64 0) := ae n1 0
 have qa : W0.cell? ⟨w.heap.size + 1, 1, none⟩ = some (.int .i64 0) := ae n1 1
 have q1 : w.heap.size + 1 < W0.heap.size := by omega
 have Ms := bz n1 0
 have Mr := bz n1 1
 have NR := Lib.hid n1
 clear n0 n1
 refine ((aa uo) _).mono ?_
 rintro e w3 ⟨rfl, hb⟩
 have hbw := fo (w := W0) bem hb
 obtain ⟨hc, hfz⟩ := gp hbw
 go_wp2_with fail
 refine ((aa HS2) _).mono ?_
 rintro e w4 ⟨rfl, hb⟩
 have hbw := fo (w := W0) bem hb
 obtain ⟨hc, hfz⟩ := gp hbw
 have ky : Below w.heap.size w w4 := ek hw0 hbw
 go_wp2_with fail
 exact bodyPost_ret (v := .tuple #[.agg #[.int .i64 0, .int .i64 0], .int .i64 3]) (by simp [results, Tryz.results59, go_sem, hc, qb, qa, q1]) rfl
  ⟨rfl, ky.grown (oh _ _ _ _) ky.size (fun k hk => by injection hk with hk; omega)⟩
set_option maxHeartbeats 8000000 in
theorem ayv (s1 : Int) (fu : Bool) (A1 : Option Addr) (c1 : Nat) (l1 : List Nat) (z1 : Int) (s2 : Int) (fw : Bool) (A2 : Option Addr) (c2 : Nat) (l2 : List Nat) (z2 : Int) (w : World) (h1 : ig w s1 fu A1 c1 l1 z1) (h2 : ig w s2 fw A2 c2 l2 z2) (a1 : l1.length = 0) (a2 : l2.length = 0) (g1 : ¬ s1 < -1000000000000) (g2 : ¬ 1000000000000 < s1) (g3 : ¬ 1000000000000 < s2) :
  Calls Tryz.prog 59 #[(Value.agg #[.int .i64 s1, .bool fu, .slice A1 l1.length c1, .int .i64 s2, .bool fw, .slice A2 l2.length c2])] w fun e w' => e = .returned (.tuple #[.agg #[.int .i64 s1, .int .i64 s2], .int .i64 0]) ∧ Below w.heap.size w w' := by
 have uo := hide (fun W => Cg s1 fu A1 c1 l1.length W)
 have HS2 := hide (fun W => Cg s2 fw A2 c2 l2.length W)
 rw [decide_eq_true a1] at uo
 rw [decide_eq_true a2] at HS2
 have d1 : decide (s1 < -1000000000000) = false := decide_eq_false om
 have d2 : decide (1000000000000 < s1) = false := decide_eq_false om
 have d3 : decide (1000000000000 < s2) = false := decide_eq_false om
 clear a1 a2 h1 h2 g1 g2 g3
 go_enter Tryz.func59, Tryz.ntmps59
 go_wp2_with fail
 obtain ⟨n0, n1, hsz, hw0⟩ := xk w (.cells #[.int .i64 s1, .bool fu, .slice A1 l1.length c1, .int .i64 s2, .bool fw, .slice A2 l2.length c2] 74) (.cells #[.int .i64 0, .int .i64 0] 23)
 generalize ((w.alloc (.cells #[.int .i64 s1, .bool fu, .slice A1 l1.length c1, .int .i64 s2, .bool fw, .slice A2 l2.length c2] 74)).alloc (.cells #[.int .i64 0, .int .i64 0] 23)) = W0 at *
 have oz : W0.cell? ⟨w.heap.size, 0, none⟩ = some (.int .i64 s1) := ae n0 0
 have ou : W0.cell? ⟨w.heap.size, 1, none⟩ = some (.bool fu) := ae n0 1
 have qh : W0.cell? ⟨w.heap.size, 2, none⟩ = some (.slice A1 l1.length c1) := ae n0 2
 have qz : W0.cell? ⟨w.heap.size, 3, none⟩ = some (.int .i64 s2) := ae n0 3
 have zf : W0.cell? ⟨w.heap.size, 4, none⟩ = some (.bool fw) := ae n0 4
 have ze : W0.cell? ⟨w.heap.size, 5, none⟩ = some (.slice A2 l2.length c2) := ae n0 5
 have q0 : w.heap.size < W0.heap.size := by omega
 have qb : W0.cell? ⟨w.heap.size + 1, 0, none⟩ = some (.int .i64 0) := ae n1 0
 have qa : W0.cell? ⟨w.heap.size + 1, 1, none⟩ = some (.int .i64 0) := ae n1 1
 have q1 : w.heap.size + 1 < W0.heap.size := by omega
 have Ms := bz n1 0
 have Mr := bz n1 1
 have NR := Lib.hid n1
 clear n0 n1
 refine ((aa uo) _).mono ?_
 rintro e w3 ⟨rfl, hb⟩
 have hbw := fo (w := W0) bem hb
 obtain ⟨hc, hfz⟩ := gp hbw
 go_wp2_with fail
 refine ((aa HS2) _).mono ?_
 rintro e w4 ⟨rfl, hb⟩
 have hbw := fo (w := W0) bem hb
 obtain ⟨hc, hfz⟩ := gp hbw
 have ky : Below w.heap.size w w4 := ek hw0 hbw
 go_wp2_with fail
 exact bodyPost_ret (v := .tuple #[.agg #[.int .i64 s1, .int .i64 s2], .int .i64 0]) (by simp [results, Tryz.results59, go_sem, hc, qb, qa, q1]) rfl
  ⟨rfl, ky.grown (oh _ _ _ _) ky.size (fun k hk => by injection hk with hk; omega)⟩

theorem atp (s1 : Int) (fu : Bool) (A1 : Option Addr) (c1 : Nat) (l1 : List Nat) (z1 : Int) (s2 : Int) (fw : Bool) (A2 : Option Addr) (c2 : Nat) (l2 : List Nat) (z2 : Int) (w : World) (h1 : ig w s1 fu A1 c1 l1 z1) (h2 : ig w s2 fw A2 c2 l2 z2) (q : Rat) (e1 : z1 = q.num) (e2 : z2 = (q.den : Int)) :
  Calls Tryz.prog 59 #[(Value.agg #[.int .i64 s1, .bool fu, .slice A1 l1.length c1, .int .i64 s2, .bool fw, .slice A2 l2.length c2])] w fun e w' => e = .returned (.tuple #[.agg #[.int .i64 (Wd.told q).n, .int .i64 (Wd.told q).d], .int .i64 (Wd.told q).e]) ∧ Below w.heap.size w w' := by
 have hden := q.den_pos
 have big : ∀ (l : List Nat) (s : Int) (neg : Bool) (A : Option Addr) (c : Nat) (z : Int), ig w s neg A c l z → ¬ l.length = 0 → 9223372036854775808 ≤ z.natAbs := fun l s neg A c z h a => by
  rcases h.form with ⟨x, _⟩ | ⟨_, _, _, _, x⟩
  ·
   exact absurd x a
  ·
   rwa [Am] at x
 have large : ∀ P : Prop, ¬ Wd.fits q → (Wd.told q) = ⟨0, 0, 3⟩ := fun _ h => by unfold Wd.told; rw [if_neg h]
 by_cases a1 : l1.length = 0
 ·
  obtain ⟨x1, _, _⟩ := h1.Cc a1
  by_cases a2 : l2.length = 0
  ·
   obtain ⟨x2, _, _⟩ := h2.Cc a2
   by_cases g1 : s1 < -1000000000000
   ·
    rw [large True (fun hf => by have := hf.1; rw [Wd.Wh] at this; omega)]; exact ayw s1 fu A1 c1 l1 z1 s2 fw A2 c2 l2 z2 w h1 h2 a1 a2 g1
   by_cases g2 : 1000000000000 < s1
   ·
    rw [large True (fun hf => by have := hf.1; rw [Wd.Wh] at this; omega)]; exact ayx s1 fu A1 c1 l1 z1 s2 fw A2 c2 l2 z2 w h1 h2 a1 a2 g2
   by_cases g3 : 1000000000000 < s2
   ·
    rw [large True (fun hf => by have := hf.2; rw [Wd.Wh] at this; omega)]; exact ato s1 fu A1 c1 l1 z1 s2 fw A2 c2 l2 z2 w h1 h2 a1 a2 g1 g2 g3
   have hf : Wd.fits q := by unfold Wd.fits; rw [Wd.Wh]; omega
   have ht : Wd.told q = ⟨s1, s2, 0⟩ := by unfold Wd.told; rw [if_pos hf, x1, x2, e1, e2]
   rw [ht]
   exact ayv s1 fu A1 c1 l1 z1 s2 fw A2 c2 l2 z2 w h1 h2 a1 a2 g1 g2 g3
  ·
   have := big _ _ _ _ _ _ h2 a2
   rw [large True (fun hf => by have := hf.2; rw [Wd.Wh] at this; omega)]; exact aob s1 fu A1 c1 l1 z1 s2 fw A2 c2 l2 z2 w h1 h2 a1 a2
 ·
  have := big _ _ _ _ _ _ h1 a1
  rw [large True (fun hf => by have := hf.1; rw [Wd.Wh] at this; omega)]; exact aoc s1 fu A1 c1 l1 z1 s2 fw A2 c2 l2 z2 w h1 h2 a1

end Go.Proofs.YtfbcdfoohpkfeaaGreatDoor
