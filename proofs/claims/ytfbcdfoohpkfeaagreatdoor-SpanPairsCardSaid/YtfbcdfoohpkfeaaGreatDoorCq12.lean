/- Texts beneath a law of layer 1. -/
import Derived.Test.YtfbcdfoohpkfeaaGreatDoorCq11
import Derived.BigRegion
set_option maxRecDepth 100000
namespace Go.Proofs.YtfbcdfoohpkfeaaGreatDoor
open Go.RowKit

namespace Sb
section
variable {W : World} {v0 v1 : Value} {K : Nat}
theorem bdk {a b : Int} (ha : Wd.Sz gy K a) (hb : Wd.Sz gy K b) (hK : K ≤ 1000000) (h : b ≠ 0) (h0 : bg [.z a] W v0) (h1 : bg [.z b] W v1) : Calls Tryz.prog 144 #[v0, v1] W (nk (bg [.z (a.tdiv b)]) W) :=
 agv (Fp ha hb (by have := Hw; omega) h rfl) h0 h1
theorem aqd {a b : Int} (ha : Wd.Sz gy K a) (hb : Wd.Sz gy K b) (hK : K ≤ 1000000) (h0 : bg [.z a] W v0) (h1 : bg [.z b] W v1) : Calls Tryz.prog 135 #[v0, v1] W (nk (bg [.z (a * b)]) W) :=
 agv (Mc ha hb (by have := Hw; omega) rfl) h0 h1
theorem bdl {a b : Int} (ha : Wd.Sz gy K a) (hb : Wd.Sz gy K b) (hK : K ≤ 1000000) (h0 : bg [.z a] W v0) (h1 : bg [.z b] W v1) : Calls Tryz.prog 145 #[v0, v1] W (nk (bg [.z (a + b)]) W) :=
 agv (aoq ha hb (by have := Hw; omega) rfl) h0 h1
theorem aqe {a b : Int} (h0 : bg [.z a] W v0) (h1 : bg [.z b] W v1) : Calls Tryz.prog 136 #[v0, v1] W (nk (Rg.cz (.int .i64 (ja (a - b)))) W) := by
 obtain ⟨s1, n1, A1, c1, l1, rfl, f1⟩ := Kc h0
 obtain ⟨s2, n2, A2, c2, l2, rfl, f2⟩ := Kc h1
 exact (afi s1 n1 A1 c1 l1 a s2 n2 A2 c2 l2 b W f1 f2).mono fun e w' h => Vf h
theorem azm (n : Int) (b1 : -9223372036854775808 ≤ n) (b2 : n ≤ 9223372036854775807) (W : World) : Calls Tryz.prog 77 #[.int .i64 n] W (nk (bg [.q (Rat.divInt n 1)]) W) :=
 (aks n W b1 b2).mono fun e w' h => Oa h
theorem ayk {z : Int} (h : 0 < z) : decide (0 < ja z) = true := decide_eq_true (by unfold ja; (repeat' split) <;> omega)
theorem atf {z : Int} (h : ¬ 0 < z) : decide (0 < ja z) = false := decide_eq_false (by unfold ja; (repeat' split) <;> omega)
theorem amb {x y : Int} (hy : 0 < y) : x / y = if 0 < x.tdiv y * y - x then x.tdiv y - 1 else x.tdiv y := by
 have h1 := Int.mul_tdiv_add_tmod x y
 have h2 := Int.mul_ediv_add_emod x y
 have h3 := Int.emod_nonneg x (show y ≠ 0 by omega)
 have h4 := Int.emod_lt_of_pos x hy
 have h5 : x.tmod y < y := Int.tmod_lt_of_pos x hy
 have h6 : -y < x.tmod y := by
  have := Int.lt_tmod_of_pos x hy
  omega
 generalize x.tdiv y = q at *
 generalize x / y = p at *
 generalize x % y = r at *
 generalize x.tmod y = s at *
 have e1 : q * y = y * q := Int.mul_comm _ _
 have e3 : y * p - y * q = y * (p - q) := by rw [Int.mul_sub]
 split
 ·
  have hs : s < 0 := by omega
  have e2 : y * (p - q) = s - r := by omega
  have : p - q < 0 := by
   rcases Int.lt_or_le (p - q) 0 with h | h
   ·
    exact h
   ·
    have := Int.mul_nonneg (Int.le_of_lt hy) h; omega
  have : -2 < p - q := by
   rcases Int.lt_or_le (-2) (p - q) with h | h
   ·
    exact h
   ·
    have := Int.mul_le_mul_of_nonneg_left h (Int.le_of_lt hy); omega
  omega
 ·
  have e2 : y * (p - q) = s - r := by omega
  have : p - q < 1 := by
   rcases Int.lt_or_le (p - q) 1 with h | h
   ·
    exact h
   ·
    have := Int.mul_le_mul_of_nonneg_left h (Int.le_of_lt hy); omega
  have : -1 < p - q := by
   rcases Int.lt_or_le (-1) (p - q) with h | h
   ·
    exact h
   ·
    have := Int.mul_le_mul_of_nonneg_left h (Int.le_of_lt hy); omega
  omega
end
set_option maxHeartbeats 16000000 in
theorem bdj {a b : Int} {K : Nat} (sa : Wd.Sz gy K a) (sb : Wd.Sz gy K (-b)) (hK : K ≤ 1000000) (w : World) (u0 : Value) (h0 : bg [.z a] w u0) (u1 : Value) (h1 : bg [.z b] w u1) :
  Calls Tryz.prog 203 #[u0, u1] w (nk (bg [.z (a - b)]) w) := by
 rw [show a - b = a + -b from Int.sub_eq_add_neg]
 have HSA := hide sa
 have HSB := hide sb
 have HHK := hide hK
 clear sa sb hK
 obtain ⟨Eo, Ch, Ck, c0a, Ci, rfl, f0a⟩ := Kc h0
 obtain ⟨Fj, Fq, Bg, c1a, Bf, rfl, f1a⟩ := Kc h1
 go_enter Tryz.func203, Tryz.ntmps203
 go_upto_region 1 with fail
 have hO := (Own.push (T := 72) (ls := zZ) (cs := [.int .i64 0, .bool false, .slice none 0 0]) (Own.push (T := 72) (ls := [.z b]) (cs := [.int .i64 Fj, .bool Fq, .slice Bg (List.length Bf) c1a]) (Own.push (T := 72) (ls := [.z a]) (cs := [.int .i64 Eo, .bool Ch, .slice Ck (List.length Ci) c0a]) (Own.nil w) (jf.z f0a rfl) (w.heap.size) rfl) (((jf.z f1a rfl) : jf w [.z b] [.int .i64 Fj, .bool Fq, .slice Bg (List.length Bf) c1a]).below (by repeat (first | exact Below.refl _ _ | refine jk ?_ _))) (w.heap.size + 1) (by simp only [World.size_alloc])) (((jf.vs w [.int .i64 0, .bool false, .slice none 0 0] rfl) : jf w zZ [.int .i64 0, .bool false, .slice none 0 0]).below (by repeat (first | exact Below.refl _ _ | refine jk ?_ _))) (w.heap.size + 2) (by simp only [World.size_alloc]))
 generalize ((w.alloc (.cells #[.int .i64 Eo, .bool Ch, .slice Ck (List.length Ci) c0a] 72)).alloc (.cells #[.int .i64 Fj, .bool Fq, .slice Bg (List.length Bf) c1a] 72)).alloc (.cells #[.int .i64 0, .bool false, .slice none 0 0] 72) = W0 at *
 have HO := hide hO
 clear hO
 go_upto_region 1 with fail
 refine Rg.region 4 9 (Rg.pick [bg [.z a], bg [.z b], bg [.z (-b)], bg [.z (a + -b)]]) (dw w [(w.heap.size + 2, 72, zZ), (w.heap.size + 1, 72, [.z b]), (w.heap.size, 72, [.z a])] W0) jb [] kr kr rfl (Rg.iq.pick ⟨cu _, cu _, cu _, cu _, trivial⟩) (dw.start (aa HO))
  (ah (je Dj ug (Rg.gm kr rfl) [] [.z a] [])
  (ah (je Dj rf (Rg.gm kr rfl) [] [.z b] [])
  (ah (ku Tryz.func147 kr rfl dw.step (Rg.ai 1 kr) (fun W v0 hG h0 => aqc h0))
  (ah (ll Tryz.func145 kr rfl dw.step (Rg.ai 0 kr) (Rg.ai 2 kr) (fun W v0 v1 hG h0 h1 => bdl (aa HSA) (aa HSB) (aa HHK) h0 h1))
  Rg.fq)))) ?_
 intro v1 V1 hG1 hv1 hne1
 simp only [Rg.puts, ko, kg, jy, jw, Act.put, jr, jq, jo]
 have hO := hG1.1
 refine nz hO 0 [] zZ [.z (a + -b)] [] rfl Nn rfl (show bg [.z (a + -b)] V1 (v1 3) from hv1 3 (by decide)) rfl rfl rfl ?_
 intro zt ji hk0
 replace hO := ji
 clear ji
 clear HO
 have HO := hide hO
 clear hO hG1 hv1 hne1 hk0
 go_wp2_with fail
 exact Lt Tryz.results203 Vz rfl (aa HO) me0 rfl rfl
theorem bfj {K : Nat} : Wd.Sz gy (K + 1) (-1) := Wd.Sz.of_le (by rw [jg]; omega) wu om
set_option maxHeartbeats 16000000 in
theorem avy {x y : Int} {K : Nat} (sx : Wd.Sz gy (K + 1) x) (sy : Wd.Sz gy (K + 1) y) (hK : K + 1 ≤ 1000000) (hy : 0 < y) (w : World) (u0 : Value) (h0 : bg [.z x] w u0) (u1 : Value) (h1 : bg [.z y] w u1) :
  Calls Tryz.prog 182 #[u0, u1] w (nk (bg [.z (x / y)]) w) := by
 obtain ⟨rr, hrr⟩ : ∃ rr, rr = x / y := ⟨_, rfl⟩
 rw [← hrr]
 rw [amb hy] at hrr
 have HR := hide hrr
 have HX := hide (And.intro sx (And.intro sy (And.intro hK (show y ≠ 0 by omega))))
 clear hrr sx sy hK hy
 obtain ⟨Eo, Ch, Ck, c0a, Ci, rfl, f0a⟩ := Kc h0
 obtain ⟨Fj, Fq, Bg, c1a, Bf, rfl, f1a⟩ := Kc h1
 go_enter Tryz.func182, Tryz.ntmps182
 go_upto_region 1 with fail
 have hO := (Own.push (T := 72) (ls := zZ) (cs := [.int .i64 0, .bool false, .slice none 0 0]) (Own.push (T := 72) (ls := [.z y]) (cs := [.int .i64 Fj, .bool Fq, .slice Bg (List.length Bf) c1a]) (Own.push (T := 72) (ls := [.z x]) (cs := [.int .i64 Eo, .bool Ch, .slice Ck (List.length Ci) c0a]) (Own.nil w) (jf.z f0a rfl) (w.heap.size) rfl) (((jf.z f1a rfl) : jf w [.z y] [.int .i64 Fj, .bool Fq, .slice Bg (List.length Bf) c1a]).below (by repeat (first | exact Below.refl _ _ | refine jk ?_ _))) (w.heap.size + 1) (by simp only [World.size_alloc])) (((jf.vs w [.int .i64 0, .bool false, .slice none 0 0] rfl) : jf w zZ [.int .i64 0, .bool false, .slice none 0 0]).below (by repeat (first | exact Below.refl _ _ | refine jk ?_ _))) (w.heap.size + 2) (by simp only [World.size_alloc]))
 generalize ((w.alloc (.cells #[.int .i64 Eo, .bool Ch, .slice Ck (List.length Ci) c0a] 72)).alloc (.cells #[.int .i64 Fj, .bool Fq, .slice Bg (List.length Bf) c1a] 72)).alloc (.cells #[.int .i64 0, .bool false, .slice none 0 0] 72) = W0 at *
 have HO := hide hO
 clear hO
 go_upto_region 1 with fail
 refine Rg.ik 4 19 (Rg.pick [bg [.z x], bg [.z y], bg [.z (x.tdiv y)], uf 72 zZ W0.heap.size]) (dw w [(w.heap.size + 2, 72, zZ), (w.heap.size + 1, 72, [.z y]), (w.heap.size, 72, [.z x])] W0) jb [3] kr rfl (Rg.iq.pick ⟨cu _, cu _, cu _, ui _ _ _, trivial⟩) (dw.begin (aa HO))
  (ah (je Dj ug (Rg.gm kr rfl) [] [.z x] [])
  (ah (je Dj rf (Rg.gm kr rfl) [] [.z y] [])
  (ah (ll Tryz.func144 kr rfl dw.step (Rg.ai 0 kr) (Rg.ai 1 kr) (fun W v0 v1 hG h0 h1 => bdk (aa HX).1 (aa HX).2.1 (aa HX).2.2.1 (aa HX).2.2.2 h0 h1))
  (ah (vv aws rfl dw.step dw.size rfl (xx (by intro j hj; simp at hj; (repeat' (first | (rcases hj with rfl | hj))) <;> first | (subst hj; exact ⟨_, _, _, rfl⟩) | exact ⟨_, _, _, rfl⟩)))
  Rg.fq)))) ?_
 intro v1 V1 hG1 hv1 hne1
 simp only [Rg.puts, ko, kg, jy, jw, Act.put, jr, jq, jo]
 obtain ⟨Xw, e3, afy, hz3⟩ := (show uf 72 zZ W0.heap.size V1 (v1 3) from hv1 3 (by decide))
 simp only [e3]
 have hO := hG1.1
 replace hO := Own.add (aa HO) hG1.2 afy hz3
 clear afy hz3
 refine nz hO 0 [] zZ [.z (x.tdiv y)] [] rfl Nn rfl (show bg [.z (x.tdiv y)] V1 (v1 2) from hv1 2 (by decide)) rfl rfl rfl ?_
 intro zt ji hk0
 replace hO := ji
 clear ji
 clear HO
 have HO := hide hO
 clear hO hG1 hv1 hne1 hk0
 try clear e3
 by_cases g : 0 < x.tdiv y * y - x
 ·
  have d1 : decide (0 < ja (x.tdiv y * y - x)) = true := ayk g
  have hr : rr = x.tdiv y - 1 := by rw [(aa HR), if_pos g]
  clear HR g
  subst hr
  go_upto_region 2 with fail
  refine Rg.region 6 19 (Rg.pick [bg [.z (x.tdiv y)], bg [.z y], bg [.z (x.tdiv y * y)], bg [.z x], Rg.cz (.int .i64 (ja (x.tdiv y * y - x))), Rg.cz (.bool true)]) (dw w [(Xw, 72, [.z (x.tdiv y)]), (w.heap.size + 2, 72, zZ), (w.heap.size + 1, 72, [.z y]), (w.heap.size, 72, [.z x])] zt) jb [] kr kr rfl (Rg.iq.pick ⟨cu _, cu _, cu _, cu _, Rg.ag _, Rg.ag _, trivial⟩) (dw.start (aa HO))
   (ah (je Dj me0 (Rg.gm kr rfl) [] [.z (x.tdiv y)] [])
   (ah (je Dj ug (Rg.gm kr rfl) [] [.z y] [])
   (ah (ll Tryz.func135 kr rfl dw.step (Rg.ai 0 kr) (Rg.ai 1 kr) (fun W v0 v1 hG h0 h1 => aqd ((aa HX).1.tdiv y) (aa HX).2.1 (aa HX).2.2.1 h0 h1))
   (ah (je Dj Ub (Rg.gm kr rfl) [] [.z x] [])
   (ah (ll Tryz.func136 kr rfl dw.step (Rg.ai 2 kr) (Rg.ai 3 kr) (fun W v0 v1 hG h0 h1 => aqe h0 h1))
   (ah (Fb rfl (Rg.ai 4 kr) (Rg.lv _) rfl d1)
   Rg.fq)))))) ?_
  intro v2 V2 hG2 hv2 hne2
  simp only [Rg.puts, ko, kg, jy, jw, Act.put, jr, jq, jo]
  have e5 : v2 5 = .bool true := hv2 5 (by decide)
  simp only [e5]
  have hO := hG2.1
  clear HO
  have HO := hide hO
  clear hO hG2 hv2 hne2
  try clear e5
  go_upto_region 3 with fail
  refine Rg.region 3 19 (Rg.pick [bg [.z (x.tdiv y)], bg [.z 1], bg [.z (x.tdiv y - 1)]]) (dw w [(Xw, 72, [.z (x.tdiv y)]), (w.heap.size + 2, 72, zZ), (w.heap.size + 1, 72, [.z y]), (w.heap.size, 72, [.z x])] V2) jb [] kr kr rfl (Rg.iq.pick ⟨cu _, cu _, cu _, trivial⟩) (dw.start (aa HO))
   (ah (je Dj me0 (Rg.gm kr rfl) [] [.z (x.tdiv y)] [])
   (ah (ku Tryz.func124 kr rfl dw.step (Rg.lv _) (fun W v0 hG h0 => by cases h0; exact aqb 1 om om W))
   (ah (ll Tryz.func203 kr rfl dw.step (Rg.ai 0 kr) (Rg.ai 1 kr) (fun W v0 v1 hG h0 h1 => bdj ((aa HX).1.tdiv y) bfj (aa HX).2.2.1 W _ h0 _ h1))
   Rg.fq))) ?_
  intro v3 V3 hG3 hv3 si
  simp only [Rg.puts, ko, kg, jy, jw, Act.put, jr, jq, jo]
  have hO := hG3.1
  refine nz hO 1 [] zZ [.z (x.tdiv y - 1)] [] rfl Nn rfl (show bg [.z (x.tdiv y - 1)] V3 (v3 2) from hv3 2 (by decide)) rfl rfl rfl ?_
  intro Ik ji hk0
  replace hO := ji
  clear ji
  clear HO
  have HO := hide hO
  clear hO hG3 hv3 si hk0
  go_wp2_with fail
  exact Lt Tryz.results182 Vz rfl (aa HO) rf rfl rfl
 ·
  have d1 : decide (0 < ja (x.tdiv y * y - x)) = false := atf g
  have hr : rr = x.tdiv y := by rw [(aa HR), if_neg g]
  clear HR g
  subst hr
  go_upto_region 2 with fail
  refine Rg.region 6 19 (Rg.pick [bg [.z (x.tdiv y)], bg [.z y], bg [.z (x.tdiv y * y)], bg [.z x], Rg.cz (.int .i64 (ja (x.tdiv y * y - x))), Rg.cz (.bool false)]) (dw w [(Xw, 72, [.z (x.tdiv y)]), (w.heap.size + 2, 72, zZ), (w.heap.size + 1, 72, [.z y]), (w.heap.size, 72, [.z x])] zt) jb [] kr kr rfl (Rg.iq.pick ⟨cu _, cu _, cu _, cu _, Rg.ag _, Rg.ag _, trivial⟩) (dw.start (aa HO))
   (ah (je Dj me0 (Rg.gm kr rfl) [] [.z (x.tdiv y)] [])
   (ah (je Dj ug (Rg.gm kr rfl) [] [.z y] [])
   (ah (ll Tryz.func135 kr rfl dw.step (Rg.ai 0 kr) (Rg.ai 1 kr) (fun W v0 v1 hG h0 h1 => aqd ((aa HX).1.tdiv y) (aa HX).2.1 (aa HX).2.2.1 h0 h1))
   (ah (je Dj Ub (Rg.gm kr rfl) [] [.z x] [])
   (ah (ll Tryz.func136 kr rfl dw.step (Rg.ai 2 kr) (Rg.ai 3 kr) (fun W v0 v1 hG h0 h1 => aqe h0 h1))
   (ah (Fb rfl (Rg.ai 4 kr) (Rg.lv _) rfl d1)
   Rg.fq)))))) ?_
  intro v2 V2 hG2 hv2 hne2
  simp only [Rg.puts, ko, kg, jy, jw, Act.put, jr, jq, jo]
  have e5 : v2 5 = .bool false := hv2 5 (by decide)
  simp only [e5]
  have hO := hG2.1
  clear HO
  have HO := hide hO
  clear hO hG2 hv2 hne2
  try clear e5
  go_upto_region 4 with fail
  refine Rg.ik 1 19 (Rg.pick [bg [.z (x.tdiv y)]]) (dw w [(Xw, 72, [.z (x.tdiv y)]), (w.heap.size + 2, 72, zZ), (w.heap.size + 1, 72, [.z y]), (w.heap.size, 72, [.z x])] V2) jb [] kr rfl (Rg.iq.pick ⟨cu _, trivial⟩) (dw.begin (aa HO))
   (ah (je Dj me0 (Rg.gm kr rfl) [] [.z (x.tdiv y)] [])
   Rg.fq) ?_
  intro v3 V3 hG3 hv3 si
  simp only [Rg.puts, ko, kg, jy, jw, Act.put, jr, jq, jo]
  have hO := hG3.1
  refine nz hO 1 [] zZ [.z (x.tdiv y)] [] rfl Nn rfl (show bg [.z (x.tdiv y)] V3 (v3 0) from hv3 0 (by decide)) rfl rfl rfl ?_
  intro Ik ji hk0
  replace hO := ji
  clear ji
  clear HO
  have HO := hide hO
  clear hO hG3 hv3 si hk0
  go_wp2_with fail
  exact Lt Tryz.results182 Vz rfl (aa HO) rf rfl rfl
theorem bii {W : World} {x : Rat} {v : Value} (h : bg [.q x] W v) : bg [.z x.num, .z (x.den : Int)] W v := by
 obtain ⟨s1, n1, A1, c1, l1, s2, n2, A2, c2, l2, rfl, f1, f2⟩ := Lu h
 exact ⟨_, rfl, jf.z f1 (jf.z f2 rfl)⟩
theorem bdq {W : World} {a b : Int} {v : Value} (h : bg [.z a, .z b] W v) : ∃ s1 n1 A1 c1 l1 s2 n2 A2 c2 l2, v = .agg #[.int .i64 s1, .bool n1, .slice A1 (List.length l1) c1, .int .i64 s2, .bool n2, .slice A2 (List.length l2) c2] ∧ ig W s1 n1 A1 c1 l1 a ∧ ig W s2 n2 A2 c2 l2 b := by
 obtain ⟨cs, rfl, h⟩ := h
 obtain ⟨s1, n1, A1, c1, l1, r, rfl, h1, h⟩ := h.ajm
 obtain ⟨s2, n2, A2, c2, l2, r, rfl, h2, h⟩ := h.ajm
 cases h
 exact ⟨_, _, _, _, _, _, _, _, _, _, rfl, h1, h2⟩
set_option maxHeartbeats 16000000 in
theorem abh {x : Rat} {K : Nat} (sx : Sm (K + 1) x) (w : World) (u0 : Value) (h0 : bg [.q x] w u0) :
  Calls Tryz.prog 154 #[u0] w (nk (bg [.z (x.num / (x.den : Int))]) w) := by
 have HX := hide (And.intro sx.1.1 (And.intro sx.1.2 (And.intro sx.2 (show (0 : Int) < (x.den : Int) by have := x.den_pos; omega))))
 clear sx
 replace h0 := bii h0
 obtain ⟨Eo, Ch, Ck, c0a, Ci, Hf, Dr, Ea, c0b, Du, rfl, f0a, Iq⟩ := bdq h0
 go_enter Tryz.func154, Tryz.ntmps154
 go_upto_region 1 with fail
 have hO := (Own.push (T := 72) (ls := zZ) (cs := [.int .i64 0, .bool false, .slice none 0 0]) (Own.push (T := 74) (ls := [.z x.num, .z (x.den : Int)]) (cs := [.int .i64 Eo, .bool Ch, .slice Ck (List.length Ci) c0a, .int .i64 Hf, .bool Dr, .slice Ea (List.length Du) c0b]) (Own.nil w) (jf.z f0a (jf.z Iq rfl)) (w.heap.size) rfl) (((jf.vs w [.int .i64 0, .bool false, .slice none 0 0] rfl) : jf w zZ [.int .i64 0, .bool false, .slice none 0 0]).below (by repeat (first | exact Below.refl _ _ | refine jk ?_ _))) (w.heap.size + 1) (by simp only [World.size_alloc]))
 generalize (w.alloc (.cells #[.int .i64 Eo, .bool Ch, .slice Ck (List.length Ci) c0a, .int .i64 Hf, .bool Dr, .slice Ea (List.length Du) c0b] 74)).alloc (.cells #[.int .i64 0, .bool false, .slice none 0 0] 72) = W0 at *
 have HO := hide hO
 clear hO
 go_upto_region 1 with fail
 refine Rg.ik 5 8 (Rg.pick [Rg.cz (.pointer (some ⟨w.heap.size, 0, none⟩)), bg [.z x.num], Rg.cz (.pointer (some ⟨w.heap.size, 3, none⟩)), bg [.z (x.den : Int)], bg [.z (x.num / (x.den : Int))]]) (dw w [(w.heap.size + 1, 72, zZ), (w.heap.size, 74, [.z x.num, .z (x.den : Int)])] W0) jb [] kr rfl (Rg.iq.pick ⟨Rg.ag _, cu _, Rg.ag _, cu _, cu _, trivial⟩) (dw.begin (aa HO))
  (ah (anv (b := w.heap.size) (off := 0) rfl (Rg.gm kr rfl) rfl rfl)
  (ah (je Dj rf (Rg.ai 0 kr) [] [.z x.num] [.z (x.den : Int)])
  (ah (anu (b := w.heap.size) (off := 0) rfl (Rg.gm kr rfl) rfl rfl)
  (ah (je Dj rf (Rg.ai 2 kr) [.z x.num] [.z (x.den : Int)] [])
  (ah (ll Tryz.func182 kr rfl dw.step (Rg.ai 1 kr) (Rg.ai 3 kr) (fun W v0 v1 hG h0 h1 => avy (aa HX).1 (aa HX).2.1 (aa HX).2.2.1 (aa HX).2.2.2 W _ h0 _ h1))
  Rg.fq))))) ?_
 intro v1 V1 hG1 hv1 hne1
 simp only [Rg.puts, ko, kg, jy, jw, Act.put, jr, jq, jo]
 have hO := hG1.1
 refine nz hO 0 [] zZ [.z (x.num / (x.den : Int))] [] rfl Nn rfl (show bg [.z (x.num / (x.den : Int))] V1 (v1 4) from hv1 4 (by decide)) rfl rfl rfl ?_
 intro zt ji hk0
 replace hO := ji
 clear ji
 clear HO
 have HO := hide hO
 clear hO hG1 hv1 hne1 hk0
 go_wp2_with fail
 exact Lt Tryz.results154 Vz rfl (aa HO) me0 rfl rfl
set_option maxHeartbeats 16000000 in
theorem Oq {n d p e : Int} (ok : Wd.wm n d ∧ Wd.wm p e) (w : World) (u0 : Value) (h0 : bg [iv n, iv d, iv p, iv e] w u0) :
  Calls Tryz.prog 95 #[u0] w (nk (bg [.q (Wd.qR n d), .q (Wd.qR p e)]) w) := by
 have Jo := hide ok
 clear ok
 have hu0 := Ak h0
 subst hu0
 go_enter Tryz.func95, Tryz.ntmps95
 go_upto_region 1 with fail
 have hO := (Own.push (T := 108) (ls := zE) (cs := [.int .i64 0, .bool false, .slice none 0 0, .int .i64 0, .bool false, .slice none 0 0, .int .i64 0, .bool false, .slice none 0 0, .int .i64 0, .bool false, .slice none 0 0]) (Own.push (T := 41) (ls := [iv n, iv d, iv p, iv e]) (cs := [.int .i64 n, .int .i64 d, .int .i64 p, .int .i64 e]) (Own.nil w) (jf.v (jl _) (jf.v (jl _) (jf.v (jl _) (jf.v (jl _) rfl)))) (w.heap.size) rfl) (((jf.vs w [.int .i64 0, .bool false, .slice none 0 0, .int .i64 0, .bool false, .slice none 0 0, .int .i64 0, .bool false, .slice none 0 0, .int .i64 0, .bool false, .slice none 0 0] rfl) : jf w zE [.int .i64 0, .bool false, .slice none 0 0, .int .i64 0, .bool false, .slice none 0 0, .int .i64 0, .bool false, .slice none 0 0, .int .i64 0, .bool false, .slice none 0 0]).below (by repeat (first | exact Below.refl _ _ | refine jk ?_ _))) (w.heap.size + 1) (by simp only [World.size_alloc]))
 generalize (w.alloc (.cells #[.int .i64 n, .int .i64 d, .int .i64 p, .int .i64 e] 41)).alloc (.cells #[.int .i64 0, .bool false, .slice none 0 0, .int .i64 0, .bool false, .slice none 0 0, .int .i64 0, .bool false, .slice none 0 0, .int .i64 0, .bool false, .slice none 0 0] 108) = W0 at *
 have HO := hide hO
 clear hO
 go_upto_region 1 with fail
 refine Rg.region 7 10 (Rg.pick [Rg.cz (.pointer (some ⟨w.heap.size, 0, none⟩)), bg [iv n, iv d], bg [.q (Wd.qR n d)], Rg.cz (.pointer (some ⟨w.heap.size, 2, none⟩)), bg [iv p, iv e], bg [.q (Wd.qR p e)], bg [.q (Wd.qR n d), .q (Wd.qR p e)]]) (dw w [(w.heap.size + 1, 108, zE), (w.heap.size, 41, [iv n, iv d, iv p, iv e])] W0) jb [] kr kr rfl (Rg.iq.pick ⟨Rg.ag _, cu _, cu _, Rg.ag _, cu _, cu _, cu _, trivial⟩) (dw.start (aa HO))
  (ah (En (b := w.heap.size) (off := 0) rfl (Rg.gm kr rfl) rfl rfl)
  (ah (je zb rf (Rg.ai 0 kr) [] [iv n, iv d] [iv p, iv e])
  (ah (ku Tryz.func57 kr rfl dw.step (Rg.ai 1 kr) (fun W v0 hG h0 => avx (aa Jo).1 h0))
  (ah (Ga (b := w.heap.size) (off := 0) rfl (Rg.gm kr rfl) rfl rfl)
  (ah (je zb rf (Rg.ai 3 kr) [iv n, iv d] [iv p, iv e] [])
  (ah (ku Tryz.func57 kr rfl dw.step (Rg.ai 4 kr) (fun W v0 hG h0 => avx (aa Jo).2 h0))
  (ah (Ew abj rfl (Rg.ai 2 kr) (Rg.ai 5 kr) rfl rfl rfl)
  Rg.fq))))))) ?_
 intro v1 V1 hG1 hv1 hne1
 simp only [Rg.puts, ko, kg, jy, jw, Act.put, jr, jq, jo]
 have hO := hG1.1
 refine nz hO 0 [] zE [.q (Wd.qR n d), .q (Wd.qR p e)] [] rfl Jh rfl (show bg [.q (Wd.qR n d), .q (Wd.qR p e)] V1 (v1 6) from hv1 6 (by decide)) rfl rfl rfl ?_
 intro zt ji hk0
 replace hO := ji
 clear ji
 clear HO
 have HO := hide hO
 clear hO hG1 hv1 hne1 hk0
 go_wp2_with fail
 exact Lt Tryz.results95 Rf rfl (aa HO) me0 rfl rfl
theorem apy {W : World} {v0 : Value} {x : Rat} (h0 : bg [.q x] W v0) : Calls Tryz.prog 59 #[v0] W (nk (qj [bg [.v (.int .i64 (Wd.told x).n), .v (.int .i64 (Wd.told x).d)], Rg.cz (.int .i64 (Wd.told x).e)]) W) :=
 (bfo h0).mono fun e w' ⟨u, h1, h2, h3⟩ => ⟨u, h1, h2, by
  have h4 : u = _ := h3
  subst h4
  exact ⟨[_, _], rfl, _, _, rfl, Ow _ _ _, _, _, rfl, rfl, rfl⟩⟩
set_option maxHeartbeats 16000000 in
theorem ank {x y : Rat} (xn xd xe yn yd ye r1 r2 r3 r4 re : Int) (w : World) (u0 : Value) (h0 : bg [.q x, .q y] w u0)
  (cx : ∀ (W : World) (v0 : Value), bg [.q x] W v0 → Calls Tryz.prog 59 #[v0] W (nk (qj [bg [.v (.int .i64 xn), .v (.int .i64 xd)], Rg.cz (.int .i64 xe)]) W))
  (cy : ∀ (W : World) (v0 : Value), bg [.q y] W v0 → Calls Tryz.prog 59 #[v0] W (nk (qj [bg [.v (.int .i64 yn), .v (.int .i64 yd)], Rg.cz (.int .i64 ye)]) W))
  (hr : (xe ≠ 0 → r1 = 0 ∧ r2 = 0 ∧ r3 = 0 ∧ r4 = 0 ∧ xe = re) ∧ (ye ≠ 0 → r1 = 0 ∧ r2 = 0 ∧ r3 = 0 ∧ r4 = 0 ∧ ye = re) ∧ (xe = 0 → ye = 0 → xn = r1 ∧ xd = r2 ∧ yn = r3 ∧ yd = r4 ∧ re = 0)) :
  Calls Tryz.prog 97 #[u0] w (nk (qj [bg [.v (.int .i64 r1), .v (.int .i64 r2), .v (.int .i64 r3), .v (.int .i64 r4)], Rg.cz (.int .i64 re)]) w) := by
 have HCX := hide cx
 have HCY := hide cy
 have HR := hide hr
 clear cx cy hr
 obtain ⟨Eo, Ch, Ck, c0a, Ci, Hf, Dr, Ea, c0b, Du, Pn, Pw, Ql, Qf, Pz, Pm, Pv, Qk, Qe, Py, rfl, f0a, Iq, Zw, Zv⟩ := Ov h0
 go_enter Tryz.func97, Tryz.ntmps97
 go_upto_region 1 with fail
 have hO := (Own.push (T := 41) (ls := zS) (cs := [.int .i64 0, .int .i64 0, .int .i64 0, .int .i64 0]) (Own.push (T := 108) (ls := [.q x, .q y]) (cs := [.int .i64 Eo, .bool Ch, .slice Ck (List.length Ci) c0a, .int .i64 Hf, .bool Dr, .slice Ea (List.length Du) c0b, .int .i64 Pn, .bool Pw, .slice Ql (List.length Pz) Qf, .int .i64 Pm, .bool Pv, .slice Qk (List.length Py) Qe]) (Own.nil w) (jf.q f0a Iq (jf.q Zw Zv rfl)) (w.heap.size) rfl) (((jf.vs w [.int .i64 0, .int .i64 0, .int .i64 0, .int .i64 0] rfl) : jf w zS [.int .i64 0, .int .i64 0, .int .i64 0, .int .i64 0]).below (by repeat (first | exact Below.refl _ _ | refine jk ?_ _))) (w.heap.size + 1) (by simp only [World.size_alloc]))
 generalize (w.alloc (.cells #[.int .i64 Eo, .bool Ch, .slice Ck (List.length Ci) c0a, .int .i64 Hf, .bool Dr, .slice Ea (List.length Du) c0b, .int .i64 Pn, .bool Pw, .slice Ql (List.length Pz) Qf, .int .i64 Pm, .bool Pv, .slice Qk (List.length Py) Qe] 108)).alloc (.cells #[.int .i64 0, .int .i64 0, .int .i64 0, .int .i64 0] 41) = W0 at *
 have HO := hide hO
 clear hO
 go_upto_region 1 with fail
 refine Rg.ik 7 30 (Rg.pick [Rg.cz (.pointer (some ⟨w.heap.size, 0, none⟩)), bg [.q x], qj [bg [iv xn, iv xd], Rg.cz (.int .i64 xe)], qj [bg [iv xn, iv xd], Rg.cz (.int .i64 xe)], bg [iv xn, iv xd], Rg.cz (.int .i64 xe), uf 23 zR W0.heap.size]) (dw w [(w.heap.size + 1, 41, zS), (w.heap.size, 108, [.q x, .q y])] W0) jb [6] kr rfl (Rg.iq.pick ⟨Rg.ag _, cu _, nu ⟨(cu _), (Rg.ag _), trivial⟩, nu ⟨(cu _), (Rg.ag _), trivial⟩, cu _, Rg.ag _, ui _ _ _, trivial⟩) (dw.begin (aa HO))
  (ah (Be (b := w.heap.size) (off := 0) rfl (Rg.gm kr rfl) rfl rfl)
  (ah (je oq rf (Rg.ai 0 kr) [] [.q x] [.q y])
  (ah (ku Tryz.func59 kr rfl dw.step (Rg.ai 1 kr) (fun W v0 hG h0 => aa HCX W v0 h0))
  (ah (il rfl (Rg.ai 2 kr))
  (ah (oo (ts := [bg [iv xn, iv xd], Rg.cz (.int .i64 xe)]) rfl (Rg.ai 3 kr) (of_decide_eq_true rfl) rfl)
  (ah (oo (ts := [bg [iv xn, iv xd], Rg.cz (.int .i64 xe)]) rfl (Rg.ai 3 kr) (of_decide_eq_true rfl) rfl)
  (ah (vv Lm rfl dw.step dw.size rfl (xx (by intro j hj; simp at hj; (repeat' (first | (rcases hj with rfl | hj))) <;> first | (subst hj; exact ⟨_, _, _, rfl⟩) | exact ⟨_, _, _, rfl⟩)))
  Rg.fq))))))) ?_
 intro v1 V1 hG1 hv1 hne1
 simp only [Rg.puts, ko, kg, jy, jw, Act.put, jr, jq, jo]
 have e5 : v1 5 = .int .i64 xe := hv1 5 (by decide)
 obtain ⟨Cr, e6, Bh, Dv⟩ := (show uf 23 zR W0.heap.size V1 (v1 6) from hv1 6 (by decide))
 simp only [e5, e6]
 have hO := hG1.1
 replace hO := Own.add (aa HO) hG1.2 Bh Dv
 clear Bh Dv
 refine nz hO 0 [] zR [iv xn, iv xd] [] rfl Gs rfl (show bg [iv xn, iv xd] V1 (v1 4) from hv1 4 (by decide)) rfl rfl rfl ?_
 intro zt ji hk0
 replace hO := ji
 clear ji
 clear HO
 have HO := hide hO
 clear hO hG1 hv1 hne1 hk0
 try clear e5 e6
 by_cases g : xe = 0
 ·
  have hx0 := g
  have d1 : (xe != 0) = false := by simp [bne, beq_iff_eq.2 g]
  clear g
  go_upto_region 2 with fail
  refine Rg.ik 2 30 (Rg.pick [Rg.cz (.int .i64 xe), Rg.cz (.bool false)]) (dw w [(Cr, 23, [iv xn, iv xd]), (w.heap.size + 1, 41, zS), (w.heap.size, 108, [.q x, .q y])] zt) jb [] kr rfl (Rg.iq.pick ⟨Rg.ag _, Rg.ag _, trivial⟩) (dw.begin (aa HO))
   (ah (il rfl (Rg.gm kr rfl))
   (ah (Co rfl (Rg.ai 0 kr) (Rg.lv _) rfl d1)
   Rg.fq)) ?_
  intro v2 V2 hG2 hv2 hne2
  simp only [Rg.puts, ko, kg, jy, jw, Act.put, jr, jq, jo]
  have e1 : v2 1 = .bool false := hv2 1 (by decide)
  simp only [e1]
  have hO := hG2.1
  clear HO
  have HO := hide hO
  clear hO hG2 hv2 hne2
  try clear e1
  go_upto_region 4 with fail
  refine Rg.ik 7 30 (Rg.pick [Rg.cz (.pointer (some ⟨w.heap.size, 6, none⟩)), bg [.q y], qj [bg [iv yn, iv yd], Rg.cz (.int .i64 ye)], qj [bg [iv yn, iv yd], Rg.cz (.int .i64 ye)], bg [iv yn, iv yd], Rg.cz (.int .i64 ye), uf 23 zR V2.heap.size]) (dw w [(Cr, 23, [iv xn, iv xd]), (w.heap.size + 1, 41, zS), (w.heap.size, 108, [.q x, .q y])] V2) jb [6] kr rfl (Rg.iq.pick ⟨Rg.ag _, cu _, nu ⟨(cu _), (Rg.ag _), trivial⟩, nu ⟨(cu _), (Rg.ag _), trivial⟩, cu _, Rg.ag _, ui _ _ _, trivial⟩) (dw.begin (aa HO))
   (ah (Bt (b := w.heap.size) (off := 0) rfl (Rg.gm kr rfl) rfl rfl)
   (ah (je oq ug (Rg.ai 0 kr) [.q x] [.q y] [])
   (ah (ku Tryz.func59 kr rfl dw.step (Rg.ai 1 kr) (fun W v0 hG h0 => aa HCY W v0 h0))
   (ah (il rfl (Rg.ai 2 kr))
   (ah (oo (ts := [bg [iv yn, iv yd], Rg.cz (.int .i64 ye)]) rfl (Rg.ai 3 kr) (of_decide_eq_true rfl) rfl)
   (ah (oo (ts := [bg [iv yn, iv yd], Rg.cz (.int .i64 ye)]) rfl (Rg.ai 3 kr) (of_decide_eq_true rfl) rfl)
   (ah (vv Lm rfl dw.step dw.size rfl (xx (by intro j hj; simp at hj; (repeat' (first | (rcases hj with rfl | hj))) <;> first | (subst hj; exact ⟨_, _, _, rfl⟩) | exact ⟨_, _, _, rfl⟩)))
   Rg.fq))))))) ?_
  intro v3 V3 hG3 hv3 si
  simp only [Rg.puts, ko, kg, jy, jw, Act.put, jr, jq, jo]
  have e5 : v3 5 = .int .i64 ye := hv3 5 (by decide)
  obtain ⟨ami, e6, Bh, Dv⟩ := (show uf 23 zR V2.heap.size V3 (v3 6) from hv3 6 (by decide))
  simp only [e5, e6]
  have hO := hG3.1
  replace hO := Own.add (aa HO) hG3.2 Bh Dv
  clear Bh Dv
  refine nz hO 0 [] zR [iv yn, iv yd] [] rfl Gs rfl (show bg [iv yn, iv yd] V3 (v3 4) from hv3 4 (by decide)) rfl rfl rfl ?_
  intro Ik ji hk0
  replace hO := ji
  clear ji
  clear HO
  have HO := hide hO
  clear hO hG3 hv3 si hk0
  try clear e5 e6
  by_cases g2 : ye = 0
  ·
   have d2 : (ye != 0) = false := by simp [bne, beq_iff_eq.2 g2]
   have hr := (aa HR).2.2 hx0 g2
   clear HR
   obtain ⟨rfl, rfl, rfl, rfl, rfl⟩ := hr
   go_upto_region 5 with fail
   refine Rg.ik 2 30 (Rg.pick [Rg.cz (.int .i64 ye), Rg.cz (.bool false)]) (dw w [(ami, 23, [iv yn, iv yd]), (Cr, 23, [iv xn, iv xd]), (w.heap.size + 1, 41, zS), (w.heap.size, 108, [.q x, .q y])] Ik) jb [] kr rfl (Rg.iq.pick ⟨Rg.ag _, Rg.ag _, trivial⟩) (dw.begin (aa HO))
    (ah (il rfl (Rg.gm kr rfl))
    (ah (Co rfl (Rg.ai 0 kr) (Rg.lv _) rfl d2)
    Rg.fq)) ?_
   intro v4 V4 hG4 hv4 xh
   simp only [Rg.puts, ko, kg, jy, jw, Act.put, jr, jq, jo]
   have e1 : v4 1 = .bool false := hv4 1 (by decide)
   simp only [e1]
   have hO := hG4.1
   clear HO
   have HO := hide hO
   clear hO hG4 hv4 xh
   try clear e1
   go_upto_region 7 with fail
   refine Rg.ik 3 30 (Rg.pick [bg [iv xn, iv xd], bg [iv yn, iv yd], bg [iv xn, iv xd, iv yn, iv yd]]) (dw w [(ami, 23, [iv yn, iv yd]), (Cr, 23, [iv xn, iv xd]), (w.heap.size + 1, 41, zS), (w.heap.size, 108, [.q x, .q y])] V4) jb [] kr rfl (Rg.iq.pick ⟨cu _, cu _, cu _, trivial⟩) (dw.begin (aa HO))
    (ah (je zb rf (Rg.gm kr rfl) [] [iv xn, iv xd] [])
    (ah (je zb me0 (Rg.gm kr rfl) [] [iv yn, iv yd] [])
    (ah (Ew Rp rfl (Rg.ai 0 kr) (Rg.ai 1 kr) rfl rfl rfl)
    Rg.fq))) ?_
   intro v5 V5 zo hv5 hne5
   simp only [Rg.puts, ko, kg, jy, jw, Act.put, jr, jq, jo]
   have hO := zo.1
   refine nz hO 2 [] zS [iv xn, iv xd, iv yn, iv yd] [] rfl vo rfl (show bg [iv xn, iv xd, iv yn, iv yd] V5 (v5 2) from hv5 2 (by decide)) rfl rfl rfl ?_
   intro Lh ji hk0
   replace hO := ji
   clear ji
   clear HO
   have HO := hide hO
   clear hO zo hv5 hne5 hk0
   go_wp2_with fail
   exact Bv Tryz.results97 zq rfl rfl (aa HO) ug rfl rfl
  ·
   have d2 : (ye != 0) = true := by simp [bne, beq_eq_false_iff_ne.2 g2]
   have hr := (aa HR).2.1 g2
   clear HR
   obtain ⟨rfl, rfl, rfl, rfl, rfl⟩ := hr
   go_upto_region 5 with fail
   refine Rg.ik 2 30 (Rg.pick [Rg.cz (.int .i64 ye), Rg.cz (.bool true)]) (dw w [(ami, 23, [iv yn, iv yd]), (Cr, 23, [iv xn, iv xd]), (w.heap.size + 1, 41, zS), (w.heap.size, 108, [.q x, .q y])] Ik) jb [] kr rfl (Rg.iq.pick ⟨Rg.ag _, Rg.ag _, trivial⟩) (dw.begin (aa HO))
    (ah (il rfl (Rg.gm kr rfl))
    (ah (Co rfl (Rg.ai 0 kr) (Rg.lv _) rfl d2)
    Rg.fq)) ?_
   intro v4 V4 hG4 hv4 xh
   simp only [Rg.puts, ko, kg, jy, jw, Act.put, jr, jq, jo]
   have e1 : v4 1 = .bool true := hv4 1 (by decide)
   simp only [e1]
   have hO := hG4.1
   clear HO
   have HO := hide hO
   clear hO hG4 hv4 xh
   try clear e1
   go_upto_region 6 with fail
   refine Rg.ik 2 30 (Rg.pick [bg zS, Rg.cz (.int .i64 ye)]) (dw w [(ami, 23, [iv yn, iv yd]), (Cr, 23, [iv xn, iv xd]), (w.heap.size + 1, 41, zS), (w.heap.size, 108, [.q x, .q y])] V4) jb [] kr rfl (Rg.iq.pick ⟨cu _, Rg.ag _, trivial⟩) (dw.begin (aa HO))
    (ah (Ca Ce rfl rfl rfl)
    (ah (il rfl (Rg.gm kr rfl))
    Rg.fq)) ?_
   intro v5 V5 zo hv5 hne5
   simp only [Rg.puts, ko, kg, jy, jw, Act.put, jr, jq, jo]
   have e1 : v5 1 = .int .i64 ye := hv5 1 (by decide)
   simp only [e1]
   have hO := zo.1
   refine nz hO 2 [] zS zS [] rfl vo rfl (show bg zS V5 (v5 0) from hv5 0 (by decide)) rfl rfl rfl ?_
   intro Lh ji hk0
   replace hO := ji
   clear ji
   clear HO
   have HO := hide hO
   clear hO zo hv5 hne5 hk0
   try clear e1
   go_wp2_with fail
   exact Bv Tryz.results97 zq rfl rfl (aa HO) ug rfl rfl
 ·
  have d1 : (xe != 0) = true := by simp [bne, beq_eq_false_iff_ne.2 g]
  have hr := (aa HR).1 g
  clear HR
  obtain ⟨rfl, rfl, rfl, rfl, rfl⟩ := hr
  go_upto_region 2 with fail
  refine Rg.ik 2 30 (Rg.pick [Rg.cz (.int .i64 xe), Rg.cz (.bool true)]) (dw w [(Cr, 23, [iv xn, iv xd]), (w.heap.size + 1, 41, zS), (w.heap.size, 108, [.q x, .q y])] zt) jb [] kr rfl (Rg.iq.pick ⟨Rg.ag _, Rg.ag _, trivial⟩) (dw.begin (aa HO))
   (ah (il rfl (Rg.gm kr rfl))
   (ah (Co rfl (Rg.ai 0 kr) (Rg.lv _) rfl d1)
   Rg.fq)) ?_
  intro v2 V2 hG2 hv2 hne2
  simp only [Rg.puts, ko, kg, jy, jw, Act.put, jr, jq, jo]
  have e1 : v2 1 = .bool true := hv2 1 (by decide)
  simp only [e1]
  have hO := hG2.1
  clear HO
  have HO := hide hO
  clear hO hG2 hv2 hne2
  try clear e1
  go_upto_region 3 with fail
  refine Rg.ik 2 30 (Rg.pick [bg zS, Rg.cz (.int .i64 xe)]) (dw w [(Cr, 23, [iv xn, iv xd]), (w.heap.size + 1, 41, zS), (w.heap.size, 108, [.q x, .q y])] V2) jb [] kr rfl (Rg.iq.pick ⟨cu _, Rg.ag _, trivial⟩) (dw.begin (aa HO))
   (ah (Ca Ce rfl rfl rfl)
   (ah (il rfl (Rg.gm kr rfl))
   Rg.fq)) ?_
  intro v3 V3 hG3 hv3 si
  simp only [Rg.puts, ko, kg, jy, jw, Act.put, jr, jq, jo]
  have e1 : v3 1 = .int .i64 xe := hv3 1 (by decide)
  simp only [e1]
  have hO := hG3.1
  refine nz hO 1 [] zS zS [] rfl vo rfl (show bg zS V3 (v3 0) from hv3 0 (by decide)) rfl rfl rfl ?_
  intro Ik ji hk0
  replace hO := ji
  clear ji
  clear HO
  have HO := hide hO
  clear hO hG3 hv3 si hk0
  try clear e1
  go_wp2_with fail
  exact Bv Tryz.results97 zq rfl rfl (aa HO) rf rfl rfl
structure Gi where
 a : Int
 b : Int
 c : Int
 d : Int
 e : Int
def gu (x y : Rat) : Gi := if Wd.fits x ∧ Wd.fits y then ⟨x.num, x.den, y.num, y.den, 0⟩ else ⟨0, 0, 0, 0, 3⟩
abbrev Uf (t : Gi) : World → Value → Prop := qj [bg [.v (.int .i64 t.a), .v (.int .i64 t.b), .v (.int .i64 t.c), .v (.int .i64 t.d)], Rg.cz (.int .i64 t.e)]
theorem agt {x y : Rat} (w : World) (u0 : Value) (h0 : bg [.q x, .q y] w u0) : Calls Tryz.prog 97 #[u0] w (nk (Uf (gu x y)) w) := by
 refine ank _ _ _ _ _ _ _ _ _ _ _ w u0 h0 (fun W v h => apy h) (fun W v h => apy h) ?_
 unfold gu Wd.told
 by_cases f1 : Wd.fits x <;> by_cases f2 : Wd.fits y <;> simp [f1, f2]
end Sb

end Go.Proofs.YtfbcdfoohpkfeaaGreatDoor
namespace Go.Proofs.YtfbcdfoohpkfeaaGreatDoor
open Go.RowKit

namespace Sb
theorem agn : ∀ {bs : List Az} {b : Nat} {x y : TypeId × List Leaf}, (bs.map Prod.fst).Nodup → (b, x) ∈ bs → (b, y) ∈ bs → x = y
 | [], _, _, _, _, h, _ => by cases h
 | e :: bs, b, x, y, hn, hx, hy => by
  rw [List.map_cons, List.nodup_cons] at hn
  rcases List.mem_cons.1 hx with h1 | h1 <;> rcases List.mem_cons.1 hy with h2 | h2
  ·
   rw [← h1] at h2; cases h2; rfl
  ·
   rw [← h1] at hn; exact absurd (List.mem_map.2 ⟨_, h2, rfl⟩) hn.1
  ·
   rw [← h2] at hn; exact absurd (List.mem_map.2 ⟨_, h1, rfl⟩) hn.1
  ·
   exact agn hn.2 h1 h2
end Sb
namespace Sb
def ES (e1 e2 : Az) (w w' : World) : Prop := jb w w' ∨ ∃ (e : Az) (us cs : List Value), (e = e1 ∨ e = e2) ∧ jf w e.2.2 us ∧ w.heap[e.1]? = some (.cells cs.toArray e.2.1 (0, 0)) ∧ Mv cs ∧ us.length = cs.length ∧ w' = setM w e.1 0 us
theorem ES.refl (e1 e2 : Az) (w : World) : ES e1 e2 w w := .inl (Below.refl _ _)
theorem uy {e1 e2 : Az} (c : Value) : Rg.Gj (ES e1 e2) (Rg.cz c) := fun _ _ _ _ h => h
theorem tu {e1 e2 : Az} (ls : List Leaf) : Rg.Gj (ES e1 e2) (bg ls) := by
 rintro w w' v (hb | ⟨e, us, cs, _, h1, h2, h3, h4, rfl⟩) h
 ·
  exact cu ls _ _ _ hb h
 ·
  obtain ⟨ds, rfl, h⟩ := h
  exact ⟨ds, rfl, h.upto h2 h3 (Cv e.1 us 0 w w (yu _ _))⟩
theorem Gz.atc {E : World → World → Prop} {W W' : World} (hb : E W W') : ∀ {ts : List (World → Value → Prop)} {vs : List Value}, Rg.iq E ts → Gz W ts vs → Gz W' ts vs
 | [], _, _, h => h
 | _ :: ts, _, hs, ⟨u, r, e, h1, h2⟩ => ⟨u, r, e, hs.1 _ _ _ hb h1, Gz.atc hb (ts := ts) hs.2 h2⟩
theorem anj {e1 e2 : Az} {ts : List (World → Value → Prop)} (hs : Rg.iq (ES e1 e2) ts) : Rg.Gj (ES e1 e2) (qj ts) := by
 rintro w w' v hb ⟨vs, rfl, h⟩
 exact ⟨vs, rfl, h.atc hb hs⟩
def Ue (e : Az) : World → Value → Prop := fun W _ => Cm W e.1 e.2.1 e.2.2
theorem Hu {W : World} {b : Nat} {T : TypeId} {us cs : List Value} (h : W.heap[b]? = some (.cells cs.toArray T (0, 0))) (hl : us.length = cs.length) : (setM W b 0 us).heap[b]? = some (.cells us.toArray T (0, 0)) := by
 have := Sa (T := T) us cs [] [] W hl (by simpa using h)
 simpa using this
theorem Et {e1 e2 e : Az} (h12 : e1.1 ≠ e2.1 ∨ e1 = e2) (he : e = e1 ∨ e = e2) : Rg.Gj (ES e1 e2) (Ue e) := by
 rintro w w' v (hb | ⟨e', us, cs, h0, h1, h2, h3, h4, rfl⟩) h
 ·
  exact Cm.below h hb
 ·
  have hg := Cv e'.1 us 0 w w (yu _ _)
  by_cases hbb : e.1 = e'.1
  ·
   have hee : e = e' := by
    rcases he with rfl | rfl <;> rcases h0 with rfl | rfl
    ·
     rfl
    ·
     rcases h12 with h12 | h12
     ·
      exact absurd hbb h12
     ·
      exact h12
    ·
     rcases h12 with h12 | h12
     ·
      exact absurd hbb.symm h12
     ·
      exact h12.symm
    ·
     rfl
   subst hee
   exact ⟨us, Hu h2 h4, h1.upto h2 h3 hg⟩
  ·
   obtain ⟨ds, g1, g2⟩ := h
   exact ⟨ds, (hg.block e.1 (lt_of_block g1) (fun x => hbb (by injection x))).trans g1, g2.upto h2 h3 hg⟩
structure GS (w : World) (bs : List Az) (e1 e2 : Az) (W : World) : Prop where
 bel : Below w.heap.size w W
 box : ∀ b T ls, (b, T, ls) ∈ bs → w.heap.size ≤ b ∧ (Cm W b T ls ∨ ∃ e : Az, (e = e1 ∨ e = e2) ∧ e.1 = b ∧ Cm W b T e.2.2)
theorem GS.step {w : World} {bs : List Az} {e1 e2 : Az} : ∀ W W', GS w bs e1 e2 W → jb W W' → GS w bs e1 e2 W' := fun W W' h hb => ⟨ek h.bel hb, fun b T ls hm => by
 obtain ⟨h1, h2⟩ := h.box b T ls hm
 refine ⟨h1, ?_⟩
 rcases h2 with h2 | ⟨e, h3, h4, h5⟩
 ·
  exact .inl (h2.below hb)
 ·
  exact .inr ⟨e, h3, h4, h5.below hb⟩⟩
theorem GS.start {w V : World} {bs : List Az} {e1 e2 : Az} (h : Own w bs V) : GS w bs e1 e2 V.drew := ⟨(Own.step _ _ h (jb.drew V)).bel, fun b T ls hm => ⟨(h.box b T ls hm).1, .inl ((h.box b T ls hm).2.below (jb.drew V))⟩⟩
theorem GS.get {w W : World} {bs : List Az} {e1 e2 : Az} {b : Nat} {T : TypeId} {ls : List Leaf} (hm : (b, T, ls) ∈ bs) (h1 : e1.1 = b → e1.2.2 = ls) (h2 : e2.1 = b → e2.2.2 = ls) (h : GS w bs e1 e2 W) : Cm W b T ls := by
 rcases (h.box b T ls hm).2 with g | ⟨e, rfl | rfl, g1, g2⟩
 ·
  exact g
 ·
  rwa [h1 g1] at g2
 ·
  rwa [h2 g1] at g2
theorem lg {P : Program} {Q : Exit → Act → World → Prop} {l : List Oper} {n : Nat} {T : Nat → World → Value → Prop} {G : World → Prop} {e1 e2 : Az} {al : List Nat} {a0 : Act} {k : Nat} {o : Oper} (h : Rg.Step P Q l n T G jb al a0 k o) : Rg.Step P Q l n T G (ES e1 e2) al a0 k o := by
 intro a w hG hO hN
 refine Oper.wp_mono (fun a' w' hK => ?_) (h a w hG hO hN)
 obtain ⟨v, h1, h2, h3, h4, h5⟩ := hK
 exact ⟨v, h1, h2, .inl h3, h4, h5⟩
theorem Ev {P : Program} {Q : Exit → Act → World → Prop} {l : List Oper} {n : Nat} {T : Nat → World → Value → Prop} {w0 : World} {bs : List Az} {e1 e2 : Az} {al : List Nat} {a0 : Act} {k m : Nat} {TL TB : TypeId} {p x : Operand} {b : Nat} {old new : List Leaf} {ty : TypeId} {pos : String} {af : Array Edge} {gd : Option (Nat × Bool)}
  (hS : Fv P TL m) (hal : al.contains k = false) (hp : Rg.ni l n T a0 k p (Rg.cz (.pointer (some ⟨b, 0, none⟩)))) (hx : Rg.ni l n T a0 k x (bg new))
  (hm : (b, TB, old) ∈ bs) (hnd : (bs.map Prod.fst).Nodup) (he : ((b, TB, new) : Az) = e1 ∨ ((b, TB, new) : Az) = e2) (h12 : e1.1 ≠ e2.1 ∨ e1 = e2) (hn : lsize new = m) (ho : lsize old = m) (hT : T k = Ue (b, TB, new)) :
  Rg.Step P Q l n T (GS w0 bs e1 e2) (ES e1 e2) al a0 k { dst := none, op := .store TL p x, type := ty, pos := pos, after := af, guard := gd } := by
 intro a w hG hO hN
 obtain ⟨us, ex, hu⟩ := hx a w hO hN
 obtain ⟨hge, bji⟩ := hG.box b TB old hm
 have hB : ∃ ls, lsize ls = m ∧ Cm w b TB ls := by
  rcases bji with g | ⟨e, ge, gb, g⟩
  ·
   exact ⟨old, ho, g⟩
  ·
   refine ⟨e.2.2, ?_, g⟩
   have : e = ((b, TB, new) : Az) := by
    rcases ge with rfl | rfl <;> rcases he with rfl | rfl
    ·
     rfl
    ·
     rcases h12 with h12 | h12
     ·
      exact absurd gb h12
     ·
      exact h12
    ·
     rcases h12 with h12 | h12
     ·
      exact absurd gb.symm h12
     ·
      exact h12.symm
    ·
     rfl
   rw [this]; exact hn
 obtain ⟨ls, hls, cs, hb, hcs⟩ := hB
 have hlen : us.length = cs.length := by rw [hu.len, hcs.len, hn, hls]
 have hr := hS a.eval w none p x b 0 cs TB us ty pos af gd (by rw [hu.len, hn]) (fun u h => (hu.noW u h).2.1) hb (by rw [hcs.len, hls]; omega) (hp a w hO hN) ex
 unfold Oper.wp
 rw [hr]
 have hg := Cv b us 0 w w (yu _ _)
 have hnw := hcs.noW
 refine ⟨undef, rfl, ⟨hG.bel.grown hg hG.bel.size (fun k hk => by injection hk with hk; omega), fun b' T' ls' hm' => ?_⟩, .inr ⟨(b, TB, new), us, cs, by rcases he with h | h; exact .inl h; exact .inr h, hu, hb, hnw, hlen, rfl⟩, ?_, fun h => by rw [hal] at h; cases h⟩
 ·
  obtain ⟨k1, k2⟩ := hG.box b' T' ls' hm'
  refine ⟨k1, ?_⟩
  by_cases hbb : b' = b
  ·
   subst hbb
   have : (T', ls') = (TB, old) := by
    exact agn hnd hm' hm
   obtain ⟨rfl, rfl⟩ := Prod.mk.inj this
   exact .inr ⟨(b', T', new), by rcases he with h | h; exact .inl h; exact .inr h, rfl, us, Hu hb hlen, hu.upto hb hnw hg⟩
  ·
   have keep : ∀ ls, Cm w b' T' ls → Cm (setM w b 0 us) b' T' ls := fun ls ⟨ds, g1, g2⟩ => ⟨ds, (hg.block b' (lt_of_block g1) (fun x => hbb (by injection x))).trans g1, g2.upto hb hnw hg⟩
   rcases k2 with k2 | ⟨e, k3, k4, k5⟩
   ·
    exact .inl (keep _ k2)
   ·
    exact .inr ⟨e, k3, k4, keep _ k5⟩
 ·
  rw [hT]
  exact ⟨us, Hu hb hlen, hu.upto hb hnw hg⟩
end Sb

end Go.Proofs.YtfbcdfoohpkfeaaGreatDoor
namespace Go.Proofs.YtfbcdfoohpkfeaaGreatDoor
open Go.RowKit

namespace Sb
theorem ban {Q : Exit → Act → World → Prop} {l : List Oper} {n : Nat} {T : Nat → World → Value → Prop} {G : World → Prop} {al : List Nat} {a0 : Act} {k d : Nat} {ty : TypeId} {pos : String} {af : Array Edge} {gd : Option (Nat × Bool)} {b i m : Nat} {x y : Operand} (hal : al.contains k = false) (hx : Rg.ni l n T a0 k x (Rg.cz (.slice (some ⟨b, 0, none⟩) m m))) (hy : Rg.ni l n T a0 k y (Rg.cz (.int .i64 (i : Int)))) (hi : i < m) (hT : T k = Rg.cz (.pointer (some ⟨b, 6 * i, none⟩))) :
  Rg.Step Tryz.prog Q l n T G jb al a0 k { dst := some d, op := .indexAddr 153 x y, type := ty, pos := pos, after := af, guard := gd } := by
 intro a w hG hO hN
 have h1 := hx a w hO hN
 have h2 := hy a w hO hN
 have hr : (execOp a.eval { dst := some d, op := .indexAddr 153 x y, type := ty, pos := pos, after := af, guard := gd }).run Tryz.prog w = .ok (.value (.pointer (some ⟨b, 6 * i, none⟩))) w := by
  have h1' : a.eval x = .slice (some ⟨b, 0, none⟩) m m := h1
  have h2' : a.eval y = .int .i64 (i : Int) := h2
  simp only [execOp, h1', h2']
  simp [go_sem, hi, Nat.mul_comm]
 exact uh (P := Tryz.prog) hr ⟨_, rfl, hG, Below.refl _ _, by rw [hT]; rfl, fun h => by rw [hal] at h; cases h⟩
theorem bam {Q : Exit → Act → World → Prop} {l : List Oper} {n : Nat} {T : Nat → World → Value → Prop} {G : World → Prop} {al : List Nat} {a0 : Act} {k d : Nat} {ty : TypeId} {pos : String} {af : Array Edge} {gd : Option (Nat × Bool)} {b i m : Nat} {x y : Operand} (hal : al.contains k = false) (hx : Rg.ni l n T a0 k x (Rg.cz (.slice (some ⟨b, 0, none⟩) m m))) (hy : Rg.ni l n T a0 k y (Rg.cz (.int .i64 (i : Int)))) (hi : i < m) (hT : T k = Rg.cz (.pointer (some ⟨b, 4 * i, none⟩))) :
  Rg.Step Tryz.prog Q l n T G jb al a0 k { dst := some d, op := .indexAddr 150 x y, type := ty, pos := pos, after := af, guard := gd } := by
 intro a w hG hO hN
 have h1 := hx a w hO hN
 have h2 := hy a w hO hN
 have hr : (execOp a.eval { dst := some d, op := .indexAddr 150 x y, type := ty, pos := pos, after := af, guard := gd }).run Tryz.prog w = .ok (.value (.pointer (some ⟨b, 4 * i, none⟩))) w := by
  have h1' : a.eval x = .slice (some ⟨b, 0, none⟩) m m := h1
  have h2' : a.eval y = .int .i64 (i : Int) := h2
  simp only [execOp, h1', h2']
  simp [go_sem, hi, Nat.mul_comm]
 exact uh (P := Tryz.prog) hr ⟨_, rfl, hG, Below.refl _ _, by rw [hT]; rfl, fun h => by rw [hal] at h; cases h⟩

theorem Vs {n m : Nat} (h1 : n < m) (h2 : m ≤ 1000000) : wrap64 ((n : Int) + 1) = ((n + 1 : Nat) : Int) := (IntWalk.wrap64_in _ om).trans om
theorem Yi {n m : Nat} (h1 : n < m) (h2 : m ≤ 1000000) : Value.int .i64 (wrap64 ((n : Int) + 1)) = Value.int .i64 ((n + 1 : Nat) : Int) := by rw [Vs h1 h2]
theorem measS {n m : Nat} (h1 : n < m) : m - (intOf (Value.int .i64 ((n + 1 : Nat) : Int))).toNat < m - (intOf (Value.int .i64 (n : Int))).toNat := by
 simp only [intOf]; omega
def fe (x : Rat) (l : List Rat) : Rat := l.foldl (fun a y => if ja (y.num * a.den - a.num * y.den) < 0 then y else a) x
def eu (x : Rat) (l : List Rat) : Rat := l.foldl (fun a y => if 0 < ja (y.num * a.den - a.num * y.den) then y else a) x
theorem Px (x : Rat) (l : List Rat) (y : Rat) : fe x (l ++ [y]) = if ja (y.num * (fe x l).den - (fe x l).num * y.den) < 0 then y else fe x l := by
 unfold fe; rw [List.foldl_append]; rfl
theorem Gc (x : Rat) (l : List Rat) (y : Rat) : eu x (l ++ [y]) = if 0 < ja (y.num * (eu x l).den - (eu x l).num * y.den) then y else eu x l := by
 unfold eu; rw [List.foldl_append]; rfl
theorem Re {K : Nat} : ∀ {l : List Rat} {x : Rat}, Sm K x → (∀ y ∈ l, Sm K y) → Sm K (fe x l)
 | [], _, h, _ => h
 | y :: l, x, h, hl => by
  refine Re (l := l) ?_ (fun z hz => hl z (List.mem_cons_of_mem _ hz))
  show Sm K (if ja (y.num * x.den - x.num * y.den) < 0 then y else x)
  split
  ·
   exact hl y List.mem_cons_self
  ·
   exact h
theorem Kz {K : Nat} : ∀ {l : List Rat} {x : Rat}, Sm K x → (∀ y ∈ l, Sm K y) → Sm K (eu x l)
 | [], _, h, _ => h
 | y :: l, x, h, hl => by
  refine Kz (l := l) ?_ (fun z hz => hl z (List.mem_cons_of_mem _ hz))
  show Sm K (if 0 < ja (y.num * x.den - x.num * y.den) then y else x)
  split
  ·
   exact hl y List.mem_cons_self
  ·
   exact h
theorem aiv : ∀ (l : List Rat), lsize (l.map .q) = 6 * l.length
 | [] => rfl
 | x :: l => by rw [List.map_cons, lsize, aiv l, List.length_cons]; simp [Leaf.size]; omega
theorem Own.drop {w W : World} {e : Az} {bs : List Az} (h : Own w (e :: bs) W) : Own w bs W :=
 ⟨h.bel, (List.nodup_cons.1 h.nd).2, fun b T ls hm => h.box b T ls (List.mem_cons_of_mem _ hm)⟩
set_option maxHeartbeats 16000000 in
theorem Vh {x : Rat} {qs : List Rat} {K : Nat} (sx : Sm K x) (sq : ∀ y ∈ qs, Sm K y) (hm : qs.length ≤ 1000000) (w : World) (u0 u1 : Value) (h0 : bg [.q x] w u0) (h1 : Qh 74 qs.length (qs.map .q) w u1) :
  Calls Tryz.prog 155 #[u0, u1] w (nk (qj [bg [.q (fe x qs)], bg [.q (eu x qs)]]) w) := by
 obtain ⟨b0, rfl, hbx⟩ := h1
 have Oz := hide sx
 have HSQ := hide sq
 have HLEN := hide hm
 have HBX := hide hbx
 clear sx sq hbx hm
 obtain ⟨Eo, Ch, Ck, c0a, Ci, Hf, Dr, Ea, c0b, Du, rfl, f0a, Iq⟩ := Lu h0
 go_enter Tryz.func155, Tryz.ntmps155
 go_upto_region 1 with fail
 have hO := (Own.push (T := 74) (ls := zQ) (cs := [.int .i64 0, .bool false, .slice none 0 0, .int .i64 0, .bool false, .slice none 0 0]) (Own.push (T := 74) (ls := zQ) (cs := [.int .i64 0, .bool false, .slice none 0 0, .int .i64 0, .bool false, .slice none 0 0]) (Own.push (T := 74) (ls := [.q x]) (cs := [.int .i64 Eo, .bool Ch, .slice Ck (List.length Ci) c0a, .int .i64 Hf, .bool Dr, .slice Ea (List.length Du) c0b]) (Own.nil w) (jf.q f0a Iq rfl) (w.heap.size) rfl) (((jf.vs w [.int .i64 0, .bool false, .slice none 0 0, .int .i64 0, .bool false, .slice none 0 0] rfl) : jf w zQ [.int .i64 0, .bool false, .slice none 0 0, .int .i64 0, .bool false, .slice none 0 0]).below (by repeat (first | exact Below.refl _ _ | refine jk ?_ _))) (w.heap.size + 1) (by simp only [World.size_alloc])) (((jf.vs w [.int .i64 0, .bool false, .slice none 0 0, .int .i64 0, .bool false, .slice none 0 0] rfl) : jf w zQ [.int .i64 0, .bool false, .slice none 0 0, .int .i64 0, .bool false, .slice none 0 0]).below (by repeat (first | exact Below.refl _ _ | refine jk ?_ _))) (w.heap.size + 2) (by simp only [World.size_alloc]))
 generalize ((w.alloc (.cells #[.int .i64 Eo, .bool Ch, .slice Ck (List.length Ci) c0a, .int .i64 Hf, .bool Dr, .slice Ea (List.length Du) c0b] 74)).alloc (.cells #[.int .i64 0, .bool false, .slice none 0 0, .int .i64 0, .bool false, .slice none 0 0] 74)).alloc (.cells #[.int .i64 0, .bool false, .slice none 0 0, .int .i64 0, .bool false, .slice none 0 0] 74) = W0 at *
 have HO := hide hO
 clear hO
 go_upto_region 1 with fail
 refine Rg.region 4 31 (Rg.pick [bg [.q x], bg [.q x], Ue (w.heap.size + 1, 74, [.q x]), Ue (w.heap.size + 2, 74, [.q x])]) (GS w [(w.heap.size + 2, 74, zQ), (w.heap.size + 1, 74, zQ), (w.heap.size, 74, [.q x])] (w.heap.size + 1, 74, [.q x]) (w.heap.size + 2, 74, [.q x])) (ES (w.heap.size + 1, 74, [.q x]) (w.heap.size + 2, 74, [.q x])) [] kr kr rfl (Rg.iq.pick ⟨(tu _), (tu _), (Et (.inl (by show (w.heap.size + 1 : Nat) ≠ w.heap.size + 2; omega)) (.inl rfl)), (Et (.inl (by show (w.heap.size + 1 : Nat) ≠ w.heap.size + 2; omega)) (.inr rfl)), trivial⟩) (GS.start (aa HO))
  (Rg.dz (Rg.plain rfl (lg (vw (b := w.heap.size) (off := 0) (TB := 74) (pre := []) (mid := [.q x]) (post := []) oq rfl (Rg.gm kr rfl) (fun W h => GS.get ug (fun h => absurd (show (w.heap.size + 1 : Nat) = w.heap.size from h) (by first | omega | (intro h; exact _root_.trivial h))) (fun h => absurd (show (w.heap.size + 2 : Nat) = w.heap.size from h) (by first | omega | (intro h; exact _root_.trivial h))) h) rfl rfl rfl)))
   (Rg.dz (Rg.plain rfl (lg (vw (b := w.heap.size) (off := 0) (TB := 74) (pre := []) (mid := [.q x]) (post := []) oq rfl (Rg.gm kr rfl) (fun W h => GS.get ug (fun h => absurd (show (w.heap.size + 1 : Nat) = w.heap.size from h) (by first | omega | (intro h; exact _root_.trivial h))) (fun h => absurd (show (w.heap.size + 2 : Nat) = w.heap.size from h) (by first | omega | (intro h; exact _root_.trivial h))) h) rfl rfl rfl)))
   (Rg.dz (Rg.plain rfl (Ev (b := w.heap.size + 1) (old := zQ) (new := [.q x]) Br rfl (Rg.gm kr rfl) (Rg.ai 0 kr) rf (aa HO).nd (.inl rfl) (.inl (by show (w.heap.size + 1 : Nat) ≠ w.heap.size + 2; omega)) rfl rfl rfl))
   (Rg.dz (Rg.plain rfl (Ev (b := w.heap.size + 2) (old := zQ) (new := [.q x]) Br rfl (Rg.gm kr rfl) (Rg.ai 1 kr) me0 (aa HO).nd (.inr rfl) (.inl (by show (w.heap.size + 1 : Nat) ≠ w.heap.size + 2; omega)) rfl rfl rfl))
   Rg.fq)))) ?_
 intro v1 V1 hG1 hv1 hne1
 simp only [Rg.puts, ko, kg, jy, jw, Act.put, jr, jq, jo]
 have hO : Own w [(w.heap.size + 2, 74, [.q x]), (w.heap.size + 1, 74, [.q x]), (w.heap.size, 74, [.q x])] V1 := by
  refine ⟨hG1.bel, (aa HO).nd, fun b T ls hm => ?_⟩
  rcases List.mem_cons.1 hm with e | hm
  ·
   cases e; exact ⟨(hG1.box _ _ _ me0).1, hv1 3 (by decide)⟩
  rcases List.mem_cons.1 hm with e | hm
  ·
   cases e; exact ⟨(hG1.box _ _ _ rf).1, hv1 2 (by decide)⟩
  rcases List.mem_cons.1 hm with e | hm
  ·
   cases e; exact ⟨(hG1.box _ _ _ ug).1, GS.get ug (fun h => absurd (show (w.heap.size + 1 : Nat) = w.heap.size from h) (by first | omega | (intro h; exact _root_.trivial h))) (fun h => absurd (show (w.heap.size + 2 : Nat) = w.heap.size from h) (by first | omega | (intro h; exact _root_.trivial h))) hG1⟩
  cases hm
 clear HO
 have HO := hide hO
 clear hO hG1 hv1 hne1
 go_wp2_with fail
 go_loopw [12] (fun iv wr => ∃ q1 q2 : List Rat, qs = q1 ++ q2 ∧ iv = .int .i64 ((q1.length : Nat) : Int) ∧ Hid (Own w [(w.heap.size + 2, 74, [.q (eu x q1)]), (w.heap.size + 1, 74, [.q (fe x q1)]), (w.heap.size, 74, [.q x])] wr)) (fun iv _ => qs.length - (intOf iv).toNat)
 case atStart => exact ⟨[], qs, rfl, rfl, HO⟩
 case round =>
  obtain ⟨q1, q2, Ef, rfl, HO⟩ := hrel
  rcases q2 with _ | ⟨y, q2⟩
  ·
   have d1 : decide ((q1.length : Int) < (qs.length : Int)) = false := decide_eq_false (by rw [Ef]; simp)
   rw [List.append_nil] at Ef
   obtain rfl : q1 = qs := Ef.symm
   go_upto_region 3 with fail
   refine Rg.ik 1 31 (Rg.pick [Rg.cz (.bool false)]) (dw w [(w.heap.size + 2, 74, [.q (eu x q1)]), (w.heap.size + 1, 74, [.q (fe x q1)]), (w.heap.size, 74, [.q x])] wr) jb [] kr rfl (Rg.iq.pick ⟨Rg.ag _, trivial⟩) (dw.begin (aa HO))
    (ah (Em rfl (Rg.gm kr rfl) (Rg.gm kr rfl) rfl d1)
    Rg.fq) ?_
   intro v2 V2 hG2 hv2 hne2
   simp only [Rg.puts, ko, kg, jy, jw, Act.put, jr, jq, jo]
   have e0 : v2 0 = .bool false := hv2 0 (by decide)
   simp only [e0]
   have hO := hG2.1
   clear HO
   have HO := hide hO
   clear hO hG2 hv2 hne2
   try clear e0
   go_upto_region 10 with fail
   refine Rg.region 4 31 (Rg.pick [bg [.q (fe x q1)], bg [.q (eu x q1)], Ue (w.heap.size + 1, 74, [.q (fe x q1)]), Ue (w.heap.size + 2, 74, [.q (eu x q1)])]) (GS w [(w.heap.size + 2, 74, [.q (eu x q1)]), (w.heap.size + 1, 74, [.q (fe x q1)]), (w.heap.size, 74, [.q x])] (w.heap.size + 1, 74, [.q (fe x q1)]) (w.heap.size + 2, 74, [.q (eu x q1)])) (ES (w.heap.size + 1, 74, [.q (fe x q1)]) (w.heap.size + 2, 74, [.q (eu x q1)])) [] kr kr rfl (Rg.iq.pick ⟨(tu _), (tu _), (Et (.inl (by show (w.heap.size + 1 : Nat) ≠ w.heap.size + 2; omega)) (.inl rfl)), (Et (.inl (by show (w.heap.size + 1 : Nat) ≠ w.heap.size + 2; omega)) (.inr rfl)), trivial⟩) (GS.start (aa HO))
    (Rg.dz (Rg.plain rfl (lg (vw (b := w.heap.size + 1) (off := 0) (TB := 74) (pre := []) (mid := [.q (fe x q1)]) (post := []) oq rfl (Rg.gm kr rfl) (fun W h => GS.get rf (fun _ => rfl) (fun h => absurd (show (w.heap.size + 2 : Nat) = w.heap.size + 1 from h) (by first | omega | (intro h; exact _root_.trivial h))) h) rfl rfl rfl)))
     (Rg.dz (Rg.plain rfl (lg (vw (b := w.heap.size + 2) (off := 0) (TB := 74) (pre := []) (mid := [.q (eu x q1)]) (post := []) oq rfl (Rg.gm kr rfl) (fun W h => GS.get me0 (fun h => absurd (show (w.heap.size + 1 : Nat) = w.heap.size + 2 from h) (by first | omega | (intro h; exact _root_.trivial h))) (fun _ => rfl) h) rfl rfl rfl)))
     (Rg.dz (Rg.plain rfl (Ev (b := w.heap.size + 1) (old := [.q (fe x q1)]) (new := [.q (fe x q1)]) Br rfl (Rg.gm kr rfl) (Rg.ai 0 kr) rf (aa HO).nd (.inl rfl) (.inl (by show (w.heap.size + 1 : Nat) ≠ w.heap.size + 2; omega)) rfl rfl rfl))
     (Rg.dz (Rg.plain rfl (Ev (b := w.heap.size + 2) (old := [.q (eu x q1)]) (new := [.q (eu x q1)]) Br rfl (Rg.gm kr rfl) (Rg.ai 1 kr) me0 (aa HO).nd (.inr rfl) (.inl (by show (w.heap.size + 1 : Nat) ≠ w.heap.size + 2; omega)) rfl rfl rfl))
     Rg.fq)))) ?_
   intro v3 V3 hG3 hv3 si
   simp only [Rg.puts, ko, kg, jy, jw, Act.put, jr, jq, jo]
   have hO : Own w [(w.heap.size + 2, 74, [.q (eu x q1)]), (w.heap.size + 1, 74, [.q (fe x q1)]), (w.heap.size, 74, [.q x])] V3 := by
    refine ⟨hG3.bel, (aa HO).nd, fun b T ls hm => ?_⟩
    rcases List.mem_cons.1 hm with e | hm
    ·
     cases e; exact ⟨(hG3.box _ _ _ me0).1, hv3 3 (by decide)⟩
    rcases List.mem_cons.1 hm with e | hm
    ·
     cases e; exact ⟨(hG3.box _ _ _ rf).1, hv3 2 (by decide)⟩
    rcases List.mem_cons.1 hm with e | hm
    ·
     cases e; exact ⟨(hG3.box _ _ _ ug).1, GS.get ug (fun h => absurd (show (w.heap.size + 1 : Nat) = w.heap.size from h) (by first | omega | (intro h; exact _root_.trivial h))) (fun h => absurd (show (w.heap.size + 2 : Nat) = w.heap.size from h) (by first | omega | (intro h; exact _root_.trivial h))) hG3⟩
    cases hm
   clear HO
   have HO := hide hO
   clear hO hG3 hv3 si
   go_wp2_with fail
   exact bda Tryz.results155 aix aix rfl rfl (aa HO) rf me0 rfl rfl rfl
  ·
   have d1 : decide ((q1.length : Int) < (qs.length : Int)) = true := decide_eq_true (by rw [Ef]; simp; omega)
   have zu := hide (show q1.length < qs.length by rw [Ef]; simp)
   have Ir := hide Ef
   have HY := hide ((aa HSQ) y (by rw [Ef]; simp))
   have Lj := hide (fun z (hz : z ∈ q1) => (aa HSQ) z (by rw [Ef]; exact List.mem_append_left _ hz))
   have hB := (aa HBX)
   rw [Ef, List.map_append, List.map_cons] at hB
   have HB := hide hB
   clear hB Ef
   go_upto_region 3 with fail
   refine Rg.ik 1 31 (Rg.pick [Rg.cz (.bool true)]) (dw w [(w.heap.size + 2, 74, [.q (eu x q1)]), (w.heap.size + 1, 74, [.q (fe x q1)]), (w.heap.size, 74, [.q x])] wr) jb [] kr rfl (Rg.iq.pick ⟨Rg.ag _, trivial⟩) (dw.begin (aa HO))
    (ah (Em rfl (Rg.gm kr rfl) (Rg.gm kr rfl) rfl d1)
    Rg.fq) ?_
   intro v2 V2 hG2 hv2 hne2
   simp only [Rg.puts, ko, kg, jy, jw, Act.put, jr, jq, jo]
   have e0 : v2 0 = .bool true := hv2 0 (by decide)
   simp only [e0]
   have hO := hG2.1
   clear HO
   have HO := hide hO
   clear hO hG2 hv2 hne2
   try clear e0
   clear d1
   go_upto_region 4 with fail
   refine Rg.ik 3 31 (Rg.pick [Rg.cz (.pointer (some ⟨b0, 6 * q1.length, none⟩)), bg [.q y], uf 74 zQ V2.heap.size]) (dw w [(w.heap.size + 2, 74, [.q (eu x q1)]), (w.heap.size + 1, 74, [.q (fe x q1)]), (w.heap.size, 74, [.q x])] V2) jb [2] kr rfl (Rg.iq.pick ⟨Rg.ag _, cu _, ui _ _ _, trivial⟩) (dw.begin (aa HO))
    (ah (ban (i := q1.length) (m := qs.length) rfl (Rg.gm kr rfl) (Rg.gm kr rfl) (aa zu) rfl)
    (ah (vw (b := b0) (off := 6 * q1.length) (TB := 74) (pre := q1.map .q) (mid := [.q y]) (post := q2.map .q) oq rfl (Rg.ai 0 kr) (fun W h => (aa HB).below h.1.bel) (aiv q1) rfl rfl)
    (ah (vv Ps rfl dw.step dw.size rfl (xx (by intro j hj; simp at hj; (repeat' (first | (rcases hj with rfl | hj))) <;> first | (subst hj; exact ⟨_, _, _, rfl⟩) | exact ⟨_, _, _, rfl⟩)))
    Rg.fq))) ?_
   intro v3 V3 hG3 hv3 si
   simp only [Rg.puts, ko, kg, jy, jw, Act.put, jr, jq, jo]
   obtain ⟨Tv, e2, afz, hz2⟩ := (show uf 74 zQ V2.heap.size V3 (v3 2) from hv3 2 (by decide))
   simp only [e2]
   have hO := hG3.1
   replace hO := Own.add (aa HO) hG3.2 afz hz2
   clear afz hz2
   refine nz hO 0 [] zQ [.q y] [] rfl Br rfl (show bg [.q y] V3 (v3 1) from hv3 1 (by decide)) rfl rfl rfl ?_
   intro Ik ji hk0
   replace hO := ji
   clear ji
   clear HO
   have HO := hide hO
   clear hO hG3 hv3 si hk0
   try clear e2
   by_cases g1 : ja (y.num * (fe x q1).den - (fe x q1).num * y.den) < 0
   ·
    have d2 : decide (ja (y.num * (fe x q1).den - (fe x q1).num * y.den) < 0) = true := decide_eq_true g1
    have hm : fe x (q1 ++ [y]) = y := by rw [Px, if_pos g1]
    have HM := hide hm
    clear g1 hm
    go_upto_region 5 with fail
    refine Rg.ik 5 31 (Rg.pick [bg [.q y], IfT 74 [.q y], bg [.q (fe x q1)], Rg.cz (.int .i64 (ja (y.num * (fe x q1).den - (fe x q1).num * y.den))), Rg.cz (.bool true)]) (dw w [(Tv, 74, [.q y]), (w.heap.size + 2, 74, [.q (eu x q1)]), (w.heap.size + 1, 74, [.q (fe x q1)]), (w.heap.size, 74, [.q x])] Ik) jb [] kr rfl (Rg.iq.pick ⟨cu _, Nr _ _, cu _, Rg.ag _, Rg.ag _, trivial⟩) (dw.begin (aa HO))
     (ah (je oq me0 (Rg.gm kr rfl) [] [.q y] [])
     (ah (Ns rfl (Rg.ai 0 kr) rfl)
     (ah (je oq ug (Rg.gm kr rfl) [] [.q (fe x q1)] [])
     (ah (Ku rfl dw.step (Rg.ai 1 kr) (Rg.ai 2 kr) (fun W v0 v1 hG h0 h1 => Gy (aa HY) (Re (aa Oz) (aa Lj)) h0 h1))
     (ah (Em rfl (Rg.ai 3 kr) (Rg.lv _) rfl d2)
     Rg.fq))))) ?_
    intro v4 V4 hG4 hv4 xh
    simp only [Rg.puts, ko, kg, jy, jw, Act.put, jr, jq, jo]
    have e4 : v4 4 = .bool true := hv4 4 (by decide)
    simp only [e4]
    have hO := hG4.1
    clear HO
    have HO := hide hO
    clear hO hG4 hv4 xh
    try clear e4
    clear d2
    go_upto_region 6 with fail
    refine Rg.ik 1 31 (Rg.pick [bg [.q y]]) (dw w [(Tv, 74, [.q y]), (w.heap.size + 2, 74, [.q (eu x q1)]), (w.heap.size + 1, 74, [.q (fe x q1)]), (w.heap.size, 74, [.q x])] V4) jb [] kr rfl (Rg.iq.pick ⟨cu _, trivial⟩) (dw.begin (aa HO))
     (ah (je oq me0 (Rg.gm kr rfl) [] [.q y] [])
     Rg.fq) ?_
    intro v5 V5 zo hv5 hne5
    simp only [Rg.puts, ko, kg, jy, jw, Act.put, jr, jq, jo]
    have hO := zo.1
    refine nz hO 2 [] [.q (fe x q1)] [.q y] [] rfl Br rfl (show bg [.q y] V5 (v5 0) from hv5 0 (by decide)) rfl rfl rfl ?_
    intro Lh ji hk0
    replace hO := ji
    clear ji
    clear HO
    have HO := hide hO
    clear hO zo hv5 hne5 hk0
    by_cases g3 : 0 < ja (y.num * (eu x q1).den - (eu x q1).num * y.den)
    ·
     have d3 : decide (0 < ja (y.num * (eu x q1).den - (eu x q1).num * y.den)) = true := decide_eq_true g3
     have hx : eu x (q1 ++ [y]) = y := by rw [Gc, if_pos g3]
     have HX := hide hx
     clear g3 hx
     go_upto_region 7 with fail
     refine Rg.ik 5 31 (Rg.pick [bg [.q y], IfT 74 [.q y], bg [.q (eu x q1)], Rg.cz (.int .i64 (ja (y.num * (eu x q1).den - (eu x q1).num * y.den))), Rg.cz (.bool true)]) (dw w [(Tv, 74, [.q y]), (w.heap.size + 2, 74, [.q (eu x q1)]), (w.heap.size + 1, 74, [.q y]), (w.heap.size, 74, [.q x])] Lh) jb [] kr rfl (Rg.iq.pick ⟨cu _, Nr _ _, cu _, Rg.ag _, Rg.ag _, trivial⟩) (dw.begin (aa HO))
      (ah (je oq me0 (Rg.gm kr rfl) [] [.q y] [])
      (ah (Ns rfl (Rg.ai 0 kr) rfl)
      (ah (je oq rf (Rg.gm kr rfl) [] [.q (eu x q1)] [])
      (ah (Ku rfl dw.step (Rg.ai 1 kr) (Rg.ai 2 kr) (fun W v0 v1 hG h0 h1 => Gy (aa HY) (Kz (aa Oz) (aa Lj)) h0 h1))
      (ah (Fb rfl (Rg.ai 3 kr) (Rg.lv _) rfl d3)
      Rg.fq))))) ?_
     intro v6 V6 Hl hv6 Jb
     simp only [Rg.puts, ko, kg, jy, jw, Act.put, jr, jq, jo]
     have e4 : v6 4 = .bool true := hv6 4 (by decide)
     simp only [e4]
     have hO := Hl.1
     clear HO
     have HO := hide hO
     clear hO Hl hv6 Jb
     try clear e4
     clear d3
     go_upto_region 8 with fail
     refine Rg.ik 1 31 (Rg.pick [bg [.q y]]) (dw w [(Tv, 74, [.q y]), (w.heap.size + 2, 74, [.q (eu x q1)]), (w.heap.size + 1, 74, [.q y]), (w.heap.size, 74, [.q x])] V6) jb [] kr rfl (Rg.iq.pick ⟨cu _, trivial⟩) (dw.begin (aa HO))
      (ah (je oq me0 (Rg.gm kr rfl) [] [.q y] [])
      Rg.fq) ?_
     intro v7 V7 hG7 hv7 afu
     simp only [Rg.puts, ko, kg, jy, jw, Act.put, jr, jq, jo]
     have hO := hG7.1
     refine nz hO 1 [] [.q (eu x q1)] [.q y] [] rfl Br rfl (show bg [.q y] V7 (v7 0) from hv7 0 (by decide)) rfl rfl rfl ?_
     intro bkb ji hk0
     replace hO := ji
     clear ji
     clear HO
     have HO := hide hO
     clear hO hG7 hv7 afu hk0
     go_wp2_with fail
     go_roundw
     case rel =>
      refine ⟨q1 ++ [y], q2, by rw [aa Ir]; simp, by have h1 := aa zu; have h2 := aa HLEN; rw [List.length_append, List.length_singleton]; exact Yi h1 h2, hide ?_⟩
      rw [aa HM, aa HX]
      exact (aa HO).drop
     case measure =>
      have h1 := aa zu; have h2 := aa HLEN
      clear HO Ir HB
      rw [Vs h1 h2]
      exact measS h1
    ·
     have d3 : decide (0 < ja (y.num * (eu x q1).den - (eu x q1).num * y.den)) = false := decide_eq_false g3
     have hx : eu x (q1 ++ [y]) = eu x q1 := by rw [Gc, if_neg g3]
     have HX := hide hx
     clear g3 hx
     go_upto_region 7 with fail
     refine Rg.ik 5 31 (Rg.pick [bg [.q y], IfT 74 [.q y], bg [.q (eu x q1)], Rg.cz (.int .i64 (ja (y.num * (eu x q1).den - (eu x q1).num * y.den))), Rg.cz (.bool false)]) (dw w [(Tv, 74, [.q y]), (w.heap.size + 2, 74, [.q (eu x q1)]), (w.heap.size + 1, 74, [.q y]), (w.heap.size, 74, [.q x])] Lh) jb [] kr rfl (Rg.iq.pick ⟨cu _, Nr _ _, cu _, Rg.ag _, Rg.ag _, trivial⟩) (dw.begin (aa HO))
      (ah (je oq me0 (Rg.gm kr rfl) [] [.q y] [])
      (ah (Ns rfl (Rg.ai 0 kr) rfl)
      (ah (je oq rf (Rg.gm kr rfl) [] [.q (eu x q1)] [])
      (ah (Ku rfl dw.step (Rg.ai 1 kr) (Rg.ai 2 kr) (fun W v0 v1 hG h0 h1 => Gy (aa HY) (Kz (aa Oz) (aa Lj)) h0 h1))
      (ah (Fb rfl (Rg.ai 3 kr) (Rg.lv _) rfl d3)
      Rg.fq))))) ?_
     intro v6 V6 Hl hv6 Jb
     simp only [Rg.puts, ko, kg, jy, jw, Act.put, jr, jq, jo]
     have e4 : v6 4 = .bool false := hv6 4 (by decide)
     simp only [e4]
     have hO := Hl.1
     clear HO
     have HO := hide hO
     clear hO Hl hv6 Jb
     try clear e4
     clear d3
     go_wp2_with fail
     go_roundw
     case rel =>
      refine ⟨q1 ++ [y], q2, by rw [aa Ir]; simp, by have h1 := aa zu; have h2 := aa HLEN; rw [List.length_append, List.length_singleton]; exact Yi h1 h2, hide ?_⟩
      rw [aa HM, aa HX]
      exact (aa HO).drop
     case measure =>
      have h1 := aa zu; have h2 := aa HLEN
      clear HO Ir HB
      rw [Vs h1 h2]
      exact measS h1
   ·
    have d2 : decide (ja (y.num * (fe x q1).den - (fe x q1).num * y.den) < 0) = false := decide_eq_false g1
    have hm : fe x (q1 ++ [y]) = fe x q1 := by rw [Px, if_neg g1]
    have HM := hide hm
    clear g1 hm
    go_upto_region 5 with fail
    refine Rg.ik 5 31 (Rg.pick [bg [.q y], IfT 74 [.q y], bg [.q (fe x q1)], Rg.cz (.int .i64 (ja (y.num * (fe x q1).den - (fe x q1).num * y.den))), Rg.cz (.bool false)]) (dw w [(Tv, 74, [.q y]), (w.heap.size + 2, 74, [.q (eu x q1)]), (w.heap.size + 1, 74, [.q (fe x q1)]), (w.heap.size, 74, [.q x])] Ik) jb [] kr rfl (Rg.iq.pick ⟨cu _, Nr _ _, cu _, Rg.ag _, Rg.ag _, trivial⟩) (dw.begin (aa HO))
     (ah (je oq me0 (Rg.gm kr rfl) [] [.q y] [])
     (ah (Ns rfl (Rg.ai 0 kr) rfl)
     (ah (je oq ug (Rg.gm kr rfl) [] [.q (fe x q1)] [])
     (ah (Ku rfl dw.step (Rg.ai 1 kr) (Rg.ai 2 kr) (fun W v0 v1 hG h0 h1 => Gy (aa HY) (Re (aa Oz) (aa Lj)) h0 h1))
     (ah (Em rfl (Rg.ai 3 kr) (Rg.lv _) rfl d2)
     Rg.fq))))) ?_
    intro v4 V4 hG4 hv4 xh
    simp only [Rg.puts, ko, kg, jy, jw, Act.put, jr, jq, jo]
    have e4 : v4 4 = .bool false := hv4 4 (by decide)
    simp only [e4]
    have hO := hG4.1
    clear HO
    have HO := hide hO
    clear hO hG4 hv4 xh
    try clear e4
    clear d2
    by_cases g3 : 0 < ja (y.num * (eu x q1).den - (eu x q1).num * y.den)
    ·
     have d3 : decide (0 < ja (y.num * (eu x q1).den - (eu x q1).num * y.den)) = true := decide_eq_true g3
     have hx : eu x (q1 ++ [y]) = y := by rw [Gc, if_pos g3]
     have HX := hide hx
     clear g3 hx
     go_upto_region 7 with fail
     refine Rg.ik 5 31 (Rg.pick [bg [.q y], IfT 74 [.q y], bg [.q (eu x q1)], Rg.cz (.int .i64 (ja (y.num * (eu x q1).den - (eu x q1).num * y.den))), Rg.cz (.bool true)]) (dw w [(Tv, 74, [.q y]), (w.heap.size + 2, 74, [.q (eu x q1)]), (w.heap.size + 1, 74, [.q (fe x q1)]), (w.heap.size, 74, [.q x])] V4) jb [] kr rfl (Rg.iq.pick ⟨cu _, Nr _ _, cu _, Rg.ag _, Rg.ag _, trivial⟩) (dw.begin (aa HO))
      (ah (je oq me0 (Rg.gm kr rfl) [] [.q y] [])
      (ah (Ns rfl (Rg.ai 0 kr) rfl)
      (ah (je oq rf (Rg.gm kr rfl) [] [.q (eu x q1)] [])
      (ah (Ku rfl dw.step (Rg.ai 1 kr) (Rg.ai 2 kr) (fun W v0 v1 hG h0 h1 => Gy (aa HY) (Kz (aa Oz) (aa Lj)) h0 h1))
      (ah (Fb rfl (Rg.ai 3 kr) (Rg.lv _) rfl d3)
      Rg.fq))))) ?_
     intro v5 V5 zo hv5 hne5
     simp only [Rg.puts, ko, kg, jy, jw, Act.put, jr, jq, jo]
     have e4 : v5 4 = .bool true := hv5 4 (by decide)
     simp only [e4]
     have hO := zo.1
     clear HO
     have HO := hide hO
     clear hO zo hv5 hne5
     try clear e4
     clear d3
     go_upto_region 8 with fail
     refine Rg.ik 1 31 (Rg.pick [bg [.q y]]) (dw w [(Tv, 74, [.q y]), (w.heap.size + 2, 74, [.q (eu x q1)]), (w.heap.size + 1, 74, [.q (fe x q1)]), (w.heap.size, 74, [.q x])] V5) jb [] kr rfl (Rg.iq.pick ⟨cu _, trivial⟩) (dw.begin (aa HO))
      (ah (je oq me0 (Rg.gm kr rfl) [] [.q y] [])
      Rg.fq) ?_
     intro v6 V6 Hl hv6 Jb
     simp only [Rg.puts, ko, kg, jy, jw, Act.put, jr, jq, jo]
     have hO := Hl.1
     refine nz hO 1 [] [.q (eu x q1)] [.q y] [] rfl Br rfl (show bg [.q y] V6 (v6 0) from hv6 0 (by decide)) rfl rfl rfl ?_
     intro bdv ji hk0
     replace hO := ji
     clear ji
     clear HO
     have HO := hide hO
     clear hO Hl hv6 Jb hk0
     go_wp2_with fail
     go_roundw
     case rel =>
      refine ⟨q1 ++ [y], q2, by rw [aa Ir]; simp, by have h1 := aa zu; have h2 := aa HLEN; rw [List.length_append, List.length_singleton]; exact Yi h1 h2, hide ?_⟩
      rw [aa HM, aa HX]
      exact (aa HO).drop
     case measure =>
      have h1 := aa zu; have h2 := aa HLEN
      clear HO Ir HB
      rw [Vs h1 h2]
      exact measS h1
    ·
     have d3 : decide (0 < ja (y.num * (eu x q1).den - (eu x q1).num * y.den)) = false := decide_eq_false g3
     have hx : eu x (q1 ++ [y]) = eu x q1 := by rw [Gc, if_neg g3]
     have HX := hide hx
     clear g3 hx
     go_upto_region 7 with fail
     refine Rg.ik 5 31 (Rg.pick [bg [.q y], IfT 74 [.q y], bg [.q (eu x q1)], Rg.cz (.int .i64 (ja (y.num * (eu x q1).den - (eu x q1).num * y.den))), Rg.cz (.bool false)]) (dw w [(Tv, 74, [.q y]), (w.heap.size + 2, 74, [.q (eu x q1)]), (w.heap.size + 1, 74, [.q (fe x q1)]), (w.heap.size, 74, [.q x])] V4) jb [] kr rfl (Rg.iq.pick ⟨cu _, Nr _ _, cu _, Rg.ag _, Rg.ag _, trivial⟩) (dw.begin (aa HO))
      (ah (je oq me0 (Rg.gm kr rfl) [] [.q y] [])
      (ah (Ns rfl (Rg.ai 0 kr) rfl)
      (ah (je oq rf (Rg.gm kr rfl) [] [.q (eu x q1)] [])
      (ah (Ku rfl dw.step (Rg.ai 1 kr) (Rg.ai 2 kr) (fun W v0 v1 hG h0 h1 => Gy (aa HY) (Kz (aa Oz) (aa Lj)) h0 h1))
      (ah (Fb rfl (Rg.ai 3 kr) (Rg.lv _) rfl d3)
      Rg.fq))))) ?_
     intro v5 V5 zo hv5 hne5
     simp only [Rg.puts, ko, kg, jy, jw, Act.put, jr, jq, jo]
     have e4 : v5 4 = .bool false := hv5 4 (by decide)
     simp only [e4]
     have hO := zo.1
     clear HO
     have HO := hide hO
     clear hO zo hv5 hne5
     try clear e4
     clear d3
     go_wp2_with fail
     go_roundw
     case rel =>
      refine ⟨q1 ++ [y], q2, by rw [aa Ir]; simp, by have h1 := aa zu; have h2 := aa HLEN; rw [List.length_append, List.length_singleton]; exact Yi h1 h2, hide ?_⟩
      rw [aa HM, aa HX]
      exact (aa HO).drop
     case measure =>
      have h1 := aa zu; have h2 := aa HLEN
      clear HO Ir HB
      rw [Vs h1 h2]
      exact measS h1
end Sb

end Go.Proofs.YtfbcdfoohpkfeaaGreatDoor
