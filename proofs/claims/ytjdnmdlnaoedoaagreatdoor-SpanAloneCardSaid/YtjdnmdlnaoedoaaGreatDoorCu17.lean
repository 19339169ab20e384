/- Texts beneath a law of layer 1. -/
import Derived.Test.YtjdnmdlnaoedoaaGreatDoorCu16
set_option maxRecDepth 100000
set_option maxHeartbeats 16000000
namespace Go.Proofs.YtjdnmdlnaoedoaaGreatDoor
open Go.RowKit

namespace Sb
theorem ald {K : Nat} {a : Rat} (ha : Sm K a) : ∀ z ∈ [a], Sm K z := fun z hz => by rw [List.mem_singleton.1 hz]; exact ha
theorem asv {K : Nat} {a b : Rat} (ha : Sm K a) (hb : Sm K b) : ∀ z ∈ [a, b], Sm K z := fun z hz => by
 rcases List.mem_cons.1 hz with rfl | hz
 ·
  exact ha
 ·
  exact ald hb z hz
theorem Xd {K : Nat} {a : Rat} (ha : qd K a) : ∀ z ∈ [a], qd K z := fun z hz => by rw [List.mem_singleton.1 hz]; exact ha
theorem alc {K : Nat} {a b : Rat} (ha : qd K a) (hb : qd K b) : ∀ z ∈ [a, b], qd K z := fun z hz => by
 rcases List.mem_cons.1 hz with rfl | hz
 ·
  exact ha
 ·
  exact Xd hb z hz
theorem Kn {x : Rat} (h : Sm 1 x) {m : Nat} (hm : m ≤ 12) : Sm 13 (x ^ m) := (h.pow m om).mono om om
theorem Ir {x : Rat} (h : qd 2 x) {m : Nat} (hm : m ≤ 12) : qd 25 (x ^ m) := qd.mono (h.pow m om) om om
theorem Va : qd 2 (Rat.divInt 0 1) := aej (K := 1) (Wd.Sz.of_le (by rw [gp]; omega) Ha om) om
theorem apq {x y : Rat} {m : Nat} (hx : Sm 1 x) (hy : Sm 1 y) (hm : m ≤ 12) : Sm 13 (Hm x y m) ∧ Sm 13 (Ho x y m) := by
 have h0 : Sm 1 (Rat.divInt 0 1) := Rh om om
 unfold Hm Ho
 by_cases h : x ≤ Rat.divInt 0 1 ∧ Rat.divInt 0 1 ≤ y
 ·
  rw [if_pos h, if_pos h]; exact ⟨Ol (Kn hx hm) (asv (Kn hy hm) (Kn h0 hm)), Jm (Kn hx hm) (asv (Kn hy hm) (Kn h0 hm))⟩
 ·
  rw [if_neg h, if_neg h]; exact ⟨Ol (Kn hx hm) (ald (Kn hy hm)), Jm (Kn hx hm) (ald (Kn hy hm))⟩
theorem ajp {x y : Rat} {m : Nat} (hx : qd 2 x) (hy : qd 2 y) (hm : m ≤ 12) : qd 25 (Hm x y m) ∧ qd 25 (Ho x y m) := by
 unfold Hm Ho
 by_cases h : x ≤ Rat.divInt 0 1 ∧ Rat.divInt 0 1 ≤ y
 ·
  rw [if_pos h, if_pos h]; exact ⟨Pg (Ir hx hm) (alc (Ir hy hm) (Ir Va hm)), Ja (Ir hx hm) (alc (Ir hy hm) (Ir Va hm))⟩
 ·
  rw [if_neg h, if_neg h]; exact ⟨Pg (Ir hx hm) (Xd (Ir hy hm)), Ja (Ir hx hm) (Xd (Ir hy hm))⟩
theorem aqt {x y a b c X Y : Rat} {m : Nat} (sx : Sm 1 x) (sy : Sm 1 y) (hm : m ≤ 12) (w : World) (u0 : Value) (h0 : ai [.q x, .q y] w u0)
  (he : a = x ^ m ∧ b = y ^ m ∧ c = (Rat.divInt 0 1 : Rat) ^ m)
  (hx : ((x ≤ Rat.divInt 0 1 ∧ Rat.divInt 0 1 ≤ y) → X = ku a [b, c] ∧ Y = jg a [b, c]) ∧ (¬ (x ≤ Rat.divInt 0 1 ∧ Rat.divInt 0 1 ≤ y) → X = ku a [b] ∧ Y = jg a [b])) (hT : qy w) :
  Calls Tryz.prog 99 #[u0, .int .i64 (m : Int)] w (il (ai [.q X, .q Y]) w) := by
 have HM := hide (show Sm 13 a ∧ Sm 13 b ∧ Sm 13 c by rw [he.1, he.2.1, he.2.2]; exact ⟨Kn sx hm, Kn sy hm, Kn (Rh om om) hm⟩)
 have HS := hide (And.intro sx (And.intro sy hm))
 have HE := hide he
 have HX := hide hx
 clear sx sy hm he hx
 obtain ⟨zz, uy, ru, c0a, rq, Bv, ym, vg, c0b, ve, Lp, Lv, Nb, Mq, Me, Lm, Lu, Na, Mo, Md, rfl, f0a, Aw, Vz, Vy⟩ := Px h0
 go_enter Tryz.func99, Tryz.ntmps99
 go_upto_region 1 with fail
 have hO := (Own.push (T := 108) (ls := zE) (cs := [.int .i64 0, .bool false, .slice none 0 0, .int .i64 0, .bool false, .slice none 0 0, .int .i64 0, .bool false, .slice none 0 0, .int .i64 0, .bool false, .slice none 0 0]) (Own.push (T := 108) (ls := [.q x, .q y]) (cs := [.int .i64 zz, .bool uy, .slice ru (List.length rq) c0a, .int .i64 Bv, .bool ym, .slice vg (List.length ve) c0b, .int .i64 Lp, .bool Lv, .slice Nb (List.length Me) Mq, .int .i64 Lm, .bool Lu, .slice Na (List.length Md) Mo]) (Own.nil w) (gu.q f0a Aw (gu.q Vz Vy rfl)) (w.heap.size) rfl) (((gu.vs w [.int .i64 0, .bool false, .slice none 0 0, .int .i64 0, .bool false, .slice none 0 0, .int .i64 0, .bool false, .slice none 0 0, .int .i64 0, .bool false, .slice none 0 0] rfl) : gu w zE [.int .i64 0, .bool false, .slice none 0 0, .int .i64 0, .bool false, .slice none 0 0, .int .i64 0, .bool false, .slice none 0 0, .int .i64 0, .bool false, .slice none 0 0]).below (by repeat (first | exact Below.refl _ _ | refine jc ?_ _))) (w.heap.size + 1) (by simp only [World.size_alloc]))
 generalize (w.alloc (.cells #[.int .i64 zz, .bool uy, .slice ru (List.length rq) c0a, .int .i64 Bv, .bool ym, .slice vg (List.length ve) c0b, .int .i64 Lp, .bool Lv, .slice Nb (List.length Me) Mq, .int .i64 Lm, .bool Lu, .slice Na (List.length Md) Mo] 108)).alloc (.cells #[.int .i64 0, .bool false, .slice none 0 0, .int .i64 0, .bool false, .slice none 0 0, .int .i64 0, .bool false, .slice none 0 0, .int .i64 0, .bool false, .slice none 0 0] 108) = W0 at *
 have HO := hide hO
 clear hO
 go_upto_region 1 with fail
 go_upto_region 1 with fail
 refine Rg.Ri 12 31 (fun k => if k = 10 then 5 else 6) (Rg.pick [Rg.ax (.pointer (some ⟨w.heap.size, 0, none⟩)), ai [.q x], Rg.ax (.int .i64 (m : Int)), ai [.q a], Rg.ax (.pointer (some ⟨w.heap.size, 6, none⟩)), ai [.q y], Rg.ax (.int .i64 (m : Int)), ai [.q b], fun _ _ => True, fun _ _ => True, fun _ _ => True, fun _ _ => True]) (az w [(w.heap.size + 1, 108, zE), (w.heap.size, 108, [.q x, .q y])] W0) (EX W0.heap.size 74) (J2 74 6 W0.heap.size 8 9 10 11 [.q a] [.q b]) kr kr kr rfl (Rg.fq.pick ⟨(Eh _), (sw _), (Eh _), (sw _), (Eh _), (sw _), (Eh _), (sw _), (vw), (vw), (vw), (vw), trivial⟩) (az.start (aa HO)) (fun _ => J2.start) (fun _ _ _ _ h => J2.congr (n := 12) (by decide) h)
  (Rg.ja (Aj (Bu (b := w.heap.size) (off := 0) rfl aF rfl rfl))
   (Rg.ja (Aj (fw lu ky (aT 0) [] [.q x] [.q y]))
   (Rg.ja (Aj (dm rfl aF))
   (Rg.ja (Aj (yu Tryz.func58 kr rfl az.step (aT 1) (aT 2) (fun W v0 v1 hG h0 h1 => by cases h1; exact amu (K := 1) (aa HE).1 (aa HS).1 (by have := (aa HS).2.2; omega) (by have := (aa HS).2.2; omega) W _ h0)))
   (Rg.ja (Aj (Co (b := w.heap.size) (off := 0) rfl aF rfl rfl))
   (Rg.ja (Aj (fw lu ky (aT 4) [.q x] [.q y] []))
   (Rg.ja (Aj (dm rfl aF))
   (Rg.ja (Aj (yu Tryz.func58 kr rfl az.step (aT 5) (aT 6) (fun W v0 v1 hG h0 h1 => by cases h1; exact amu (K := 1) (aa HE).2.1 (aa HS).2.1 (by have := (aa HS).2.2; omega) (by have := (aa HS).2.2; omega) W _ h0)))
   (Rg.ja (Oc Tg rfl rfl rfl)
   (Rg.ja (Ot Tg rfl rfl rfl)
   (Rg.ja (Ob (aa HO) zb kr (aT 3) rfl rfl rfl)
   (Rg.ja (Oq (aa HO) zb kr (aT 7) rfl rfl rfl)
   Rg.Jt)))))))))))) ?_
 intro v1 V1 hG1 hJ1 hv1 hne1
 simp only [Rg.puts, Act.put, tA]
 obtain ⟨_, _, hd1, hf1, hg1⟩ := hJ1
 obtain ⟨bqw, e8, Vs, hz8⟩ := (hf1 trivial).2
 obtain ⟨bqv, e9, Vr, hz9⟩ := (hg1 trivial).2
 simp only [e8, e9]
 have hO := Own.Wn (aa HO) hG1.2 Vs hz8 Vr hz9 (fun h => hd1 trivial trivial (by rw [e8, e9, h]))
 clear Vs hz8 Vr hz9 hd1 hf1 hg1
 clear HO
 have HO := hide hO
 clear hO hG1 hv1 hne1
 try clear e8 e9
 go_upto_region 2 with fail
 refine Rg.dz 2 31 (Rg.pick [ai [.q (Rat.divInt 0 1)], qf 74 zQ V1.heap.size]) (az w _ V1) gm [1] kr rfl (Rg.fq.pick ⟨au _, qh _ _ _, trivial⟩) (az.begin (aa HO))
  (ag (sc1 Tryz.func77 (Rg.je _) (fun W v0 hG h0 => by cases h0; exact acg 0 om om W))
  (ag (si Tg rfl az.step az.size rfl (uw (by intro j hj; simp at hj; (repeat' (first | (rcases hj with rfl | hj))) <;> first | (subst hj; exact ⟨_, _, _, rfl⟩) | exact ⟨_, _, _, rfl⟩)))
  Rg.bg)) ?_
 intro v2 V2 hG2 hv2 hne2
 simp only [Rg.puts, Act.put, tA]
 obtain ⟨bep, e1, Vv, hz1⟩ := (show qf 74 zQ V1.heap.size V2 (v2 1) from hv2 1 (by decide))
 simp only [e1]
 have hO := hG2.1
 replace hO := Own.add (aa HO) hG2.2 Vv hz1
 clear Vv hz1
 refine jd hO 0 [] zQ [.q (Rat.divInt 0 1)] [] rfl zb rfl (show ai [.q (Rat.divInt 0 1)] V2 (v2 0) from hv2 0 (by decide)) rfl rfl rfl ?_
 intro yg gy hk0
 replace hO := gy
 clear gy
 clear HO
 have HO := hide hO
 clear hO hG2 hv2 hne2 hk0
 try clear e1
 by_cases g1 : x ≤ Rat.divInt 0 1 ∧ Rat.divInt 0 1 ≤ y
 ·
  have k2 : decide (x ≤ Rat.divInt 0 1 ∧ Rat.divInt 0 1 ≤ y) = true := decide_eq_true g1
  have Mv := hide ((aa HX).1 g1)
  clear HX
  go_upto_region 3 with fail
  refine Rg.dz 3 31 (Rg.pick [ai [.q x, .q y], ai [.q (Rat.divInt 0 1)], Rg.ax (.bool true)]) (az w _ yg) gm [] kr rfl (Rg.fq.pick ⟨au _, au _, Rg.ae _, trivial⟩) (az.begin (aa HO))
   (ag (fw afz Uk aF [] [.q x, .q y] [])
   (ag (fw lu me0 aF [] [.q (Rat.divInt 0 1)] [])
   (ag (sc2 Tryz.func109 (aT 0) (aT 1) (fun W v0 v1 hG h0 h1 => k2 ▸ ake (aa HS).1 (aa HS).2.1 (Rh om om) W _ h0 _ h1))
   Rg.bg))) ?_
  intro v3 V3 hG3 hv3 mf
  simp only [Rg.puts, Act.put, tA]
  have e2 : v3 2 = .bool true := hv3 2 (by decide)
  simp only [e2]
  have hO := hG3.1
  clear HO
  have HO := hide hO
  clear hO hG3 hv3 mf
  try clear e2
  clear k2 g1
  go_upto_region 4 with fail
  refine Rg.region 7 31 (Rg.pick [ai [.q a], ai [.q b], ai [.q (Rat.divInt 0 1)], Rg.ax (.int .i64 (m : Int)), ai [.q c], Qw 74 2 [.q b, .q c], ai [.q X, .q Y]]) (az w _ V3) gm [] kr kr rfl (Rg.fq.pick ⟨au _, au _, au _, Rg.ae _, au _, Jj _ _ _, au _, trivial⟩) (az.start (aa HO))
   (ag (fw lu rf aF [] [.q a] [])
   (ag (fw lu ky aF [] [.q b] [])
   (ag (fw lu me0 aF [] [.q (Rat.divInt 0 1)] [])
   (ag (dm rfl aF)
   (ag (sc2 Tryz.func58 (aT 2) (aT 3) (fun W v0 v1 hG h0 h1 => by cases h1; exact amu (K := 1) (aa HE).2.2 (Rh om om) (by have := (aa HS).2.2; omega) (by have := (aa HS).2.2; omega) W _ h0))
   (ag (Ey (ps := [(0, .tmp 21), (1, .tmp 24)]) (gs := [[.q b], [.q c]]) amz rfl az.step rfl (uq.cons (aT 1) rfl (uq.cons (aT 4) rfl uq.nil)) rfl)
   (ag (sc2 Tryz.func107 (aT 0) (aT 5) (fun W v0 v1 hG h0 h1 => aaf (aa Mv).1 (aa Mv).2 (Zi (qs := [b, c]) (aa HM).1 (asv (aa HM).2.1 (aa HM).2.2) (by simp) W _ _ h0 h1)))
   Rg.bg))))))) ?_
  intro v4 V4 hG4 hv4 ry
  simp only [Rg.puts, Act.put, tA]
  have hO := hG4.1
  refine jd hO 3 [] zE [.q X, .q Y] [] rfl Oe rfl (show ai [.q X, .q Y] V4 (v4 6) from hv4 6 (by decide)) rfl rfl rfl ?_
  intro Ig gy hk0
  replace hO := gy
  clear gy
  clear HO
  have HO := hide hO
  clear hO hG4 hv4 ry hk0
  go_wp2_with fail
  exact xu Tryz.results99 Om rfl (aa HO) Ed rfl rfl
 ·
  have k2 : decide (x ≤ Rat.divInt 0 1 ∧ Rat.divInt 0 1 ≤ y) = false := decide_eq_false g1
  have Mv := hide ((aa HX).2 g1)
  clear HX
  go_upto_region 3 with fail
  refine Rg.dz 3 31 (Rg.pick [ai [.q x, .q y], ai [.q (Rat.divInt 0 1)], Rg.ax (.bool false)]) (az w _ yg) gm [] kr rfl (Rg.fq.pick ⟨au _, au _, Rg.ae _, trivial⟩) (az.begin (aa HO))
   (ag (fw afz Uk aF [] [.q x, .q y] [])
   (ag (fw lu me0 aF [] [.q (Rat.divInt 0 1)] [])
   (ag (sc2 Tryz.func109 (aT 0) (aT 1) (fun W v0 v1 hG h0 h1 => k2 ▸ ake (aa HS).1 (aa HS).2.1 (Rh om om) W _ h0 _ h1))
   Rg.bg))) ?_
  intro v3 V3 hG3 hv3 mf
  simp only [Rg.puts, Act.put, tA]
  have e2 : v3 2 = .bool false := hv3 2 (by decide)
  simp only [e2]
  have hO := hG3.1
  clear HO
  have HO := hide hO
  clear hO hG3 hv3 mf
  try clear e2
  clear k2 g1
  go_upto_region 5 with fail
  refine Rg.dz 4 31 (Rg.pick [ai [.q a], ai [.q b], Qw 74 1 [.q b], ai [.q X, .q Y]]) (az w _ V3) gm [] kr rfl (Rg.fq.pick ⟨au _, au _, Jj _ _ _, au _, trivial⟩) (az.begin (aa HO))
   (ag (fw lu rf aF [] [.q a] [])
   (ag (fw lu ky aF [] [.q b] [])
   (ag (Ey (ps := [(0, .tmp 28)]) (gs := [[.q b]]) ana rfl az.step rfl (uq.cons (aT 1) rfl uq.nil) rfl)
   (ag (sc2 Tryz.func107 (aT 0) (aT 2) (fun W v0 v1 hG h0 h1 => aaf (aa Mv).1 (aa Mv).2 (Zi (qs := [b]) (aa HM).1 (ald (aa HM).2.1) (by simp) W _ _ h0 h1)))
   Rg.bg)))) ?_
  intro v4 V4 hG4 hv4 ry
  simp only [Rg.puts, Act.put, tA]
  have hO := hG4.1
  refine jd hO 3 [] zE [.q X, .q Y] [] rfl Oe rfl (show ai [.q X, .q Y] V4 (v4 3) from hv4 3 (by decide)) rfl rfl rfl ?_
  intro Ig gy hk0
  replace hO := gy
  clear gy
  clear HO
  have HO := hide hO
  clear hO hG4 hv4 ry hk0
  go_wp2_with fail
  exact xu Tryz.results99 Om rfl (aa HO) Ed rfl rfl
theorem bej {x y : Rat} {m : Nat} (sx : Sm 1 x) (sy : Sm 1 y) (hm : m ≤ 12) (w : World) (hT : qy w) (u0 : Value) (h0 : ai [.q x, .q y] w u0) :
  Calls Tryz.prog 99 #[u0, .int .i64 (m : Int)] w (il (ai [.q (Hm x y m), .q (Ho x y m)]) w) :=
 aqt sx sy hm w u0 h0 ⟨rfl, rfl, rfl⟩ ⟨fun h => ⟨if_pos h, if_pos h⟩, fun h => ⟨if_neg h, if_neg h⟩⟩ hT
theorem ata {ρ : Operand → Value} {w : World} {d : Option Tmp} {x : Operand} {m : Nat} {ty : TypeId} {pos : String} {af : Array Edge} {gd : Option (Nat × Bool)} (hm : m ≤ 12) (h : ρ x = .int .i64 (m : Int)) (h' : ρ (.const (.int .i64 2)) = .int .i64 2) :
  (execOp ρ { dst := d, op := .binOp .rem 3 x (.const (.int .i64 2)) 3, type := ty, pos := pos, after := af, guard := gd }).run Tryz.prog w = .ok (.value (.int .i64 ((m % 2 : Nat) : Int))) w := by
 simp only [execOp, h, h']
 have hc : m = 0 ∨ m = 1 ∨ m = 2 ∨ m = 3 ∨ m = 4 ∨ m = 5 ∨ m = 6 ∨ m = 7 ∨ m = 8 ∨ m = 9 ∨ m = 10 ∨ m = 11 ∨ m = 12 := by omega
 rcases hc with rfl | rfl | rfl | rfl | rfl | rfl | rfl | rfl | rfl | rfl | rfl | rfl | rfl <;> (simp [go_sem, Tryz.underlying3]; try rfl)
theorem aff {Q : Exit → Act → World → Prop} {l : List Oper} {n : Nat} {T : Nat → World → Value → Prop} {G : World → Prop} {al : List Nat} {a0 : Act} {k d : Nat} {ty : TypeId} {pos : String} {af : Array Edge} {gd : Option (Nat × Bool)} {x : Operand} {m : Nat} (hm : m ≤ 12) (hal : al.contains k = false) (hx : Rg.ji l n T a0 k x (Rg.ax (.int .i64 (m : Int)))) (hT : T k = Rg.ax (.int .i64 ((m % 2 : Nat) : Int))) :
  Rg.Step Tryz.prog Q l n T G gm al a0 k { dst := some d, op := .binOp .rem 3 x (.const (.int .i64 2)) 3, type := ty, pos := pos, after := af, guard := gd } := by
 intro a w hG hO hN
 exact pz (P := Tryz.prog) (ata hm (hx a w hO hN) rfl) ⟨_, rfl, hG, Below.refl _ _, by rw [hT]; rfl, fun h => by rw [hal] at h; cases h⟩
theorem afj {x y a b X Y : Rat} {m : Nat} (sx : qd 2 x) (sy : qd 2 y) (hm : m ≤ 12) (w : World) (u0 : Value) (h0 : ai [.r x, .r y] w u0)
  (he : a = x ^ m ∧ b = y ^ m)
  (hx : ((0 < m ∧ m % 2 = 0 ∧ x ≤ Rat.divInt 0 1 ∧ Rat.divInt 0 1 ≤ y) → X = ku (Rat.divInt 0 1) [a, b] ∧ Y = jg (Rat.divInt 0 1) [a, b]) ∧ (¬ (0 < m ∧ m % 2 = 0 ∧ x ≤ Rat.divInt 0 1 ∧ Rat.divInt 0 1 ≤ y) → X = ku a [b] ∧ Y = jg a [b])) :
  Calls Tryz.prog 100 #[u0, .int .i64 (m : Int)] w (il (ai [.r X, .r Y]) w) := by
 have HM := hide (show qd 25 a ∧ qd 25 b by rw [he.1, he.2]; exact ⟨Ir sx hm, Ir sy hm⟩)
 have HS := hide (And.intro sx (And.intro sy hm))
 have HE := hide he
 have HX := hide hx
 clear sx sy hm he hx
 obtain ⟨ru, c0a, rq, Ee, Mx, Mm, Mf, uy, vg, c0b, ve, Ff, Qx, Qr, Qn, ym, rfl, f0a, Aw⟩ := Wm h0
 go_enter Tryz.func100, Tryz.ntmps100
 go_upto_region 1 with fail
 have hO := (Own.push (T := 100) (ls := zY) (cs := [.slice none 0 0, .bool false, .slice none 0 0, .bool false, .slice none 0 0, .bool false, .slice none 0 0, .bool false]) (Own.push (T := 100) (ls := [.r x, .r y]) (cs := [.slice ru (List.length rq) c0a, .bool Ee, .slice Mx (List.length Mf) Mm, .bool uy, .slice vg (List.length ve) c0b, .bool Ff, .slice Qx (List.length Qn) Qr, .bool ym]) (Own.nil w) (gu.r f0a (gu.r Aw rfl)) (w.heap.size) rfl) (((gu.vs w [.slice none 0 0, .bool false, .slice none 0 0, .bool false, .slice none 0 0, .bool false, .slice none 0 0, .bool false] rfl) : gu w zY [.slice none 0 0, .bool false, .slice none 0 0, .bool false, .slice none 0 0, .bool false, .slice none 0 0, .bool false]).below (by repeat (first | exact Below.refl _ _ | refine jc ?_ _))) (w.heap.size + 1) (by simp only [World.size_alloc]))
 generalize (w.alloc (.cells #[.slice ru (List.length rq) c0a, .bool Ee, .slice Mx (List.length Mf) Mm, .bool uy, .slice vg (List.length ve) c0b, .bool Ff, .slice Qx (List.length Qn) Qr, .bool ym] 100)).alloc (.cells #[.slice none 0 0, .bool false, .slice none 0 0, .bool false, .slice none 0 0, .bool false, .slice none 0 0, .bool false] 100) = W0 at *
 have HO := hide hO
 clear hO
 by_cases g1 : 0 < m
 ·
  by_cases g2 : m % 2 = 0
  ·
   by_cases g3 : x ≤ Rat.divInt 0 1 ∧ Rat.divInt 0 1 ≤ y
   ·
    have k1 : decide ((0 : Int) < (m : Int)) = true := decide_eq_true om
    have k2 : (((m % 2 : Nat) : Int) == 0) = true := beq_iff_eq.2 om
    have k3 : decide (x ≤ Rat.divInt 0 1 ∧ Rat.divInt 0 1 ≤ y) = true := decide_eq_true g3
    have Mv := hide ((aa HX).1 ⟨g1, g2, g3⟩)
    clear HX
    go_upto_region 1 with fail
    refine Rg.dz 12 38 (Rg.pick [Rg.ax (.int .i64 (m : Int)), Rg.ax (.bool true), Rg.ax (.bool true), Rg.ax (.int .i64 (m : Int)), Rg.ax (.int .i64 ((m % 2 : Nat) : Int)), Rg.ax (.bool true), Rg.ax (.bool true), Rg.ax (.bool true), ai [.r x, .r y], ai [.r (Rat.divInt 0 1)], Rg.ax (.bool true), Rg.ax (.bool true)]) (az w _ W0) gm [] kr rfl (Rg.fq.pick ⟨Rg.ae _, Rg.ae _, Rg.ae _, Rg.ae _, Rg.ae _, Rg.ae _, Rg.ae _, Rg.ae _, au _, au _, Rg.ae _, Rg.ae _, trivial⟩) (az.begin (aa HO))
     (ag (dm rfl aF)
     (ag (Bj rfl (aT 0) (Rg.je _) rfl k1)
     (ag (dm rfl (aT 1))
     (Rg.ay (Rg.fe (d := 7) rfl kr rfl (dm rfl aF))
     (Rg.ay (Rg.fe (d := 7) rfl kr rfl (aff (aa HS).2.2 rfl (aT 3) rfl))
     (Rg.ay (Rg.fe (d := 7) rfl kr rfl (alk rfl (aT 4) (Rg.je _) rfl k2))
     (ag (mr rfl (aT 2) (aT 5))
     (ag (dm rfl (aT 6))
     (Rg.ay (Rg.fe (d := 12) rfl kr rfl (fw afy ky aF [] [.r x, .r y] []))
     (Rg.ay (Rg.fe (d := 12) rfl kr rfl (asx rfl rfl))
     (Rg.ay (Rg.fe (d := 12) rfl kr rfl (yu Tryz.func90 kr rfl az.step (aT 8) (aT 9) (fun W v0 v1 hG h0 h1 => k3 ▸ adv (aa HS).1 (aa HS).2.1 Va W _ h0 _ h1)))
     (ag (mr rfl (aT 7) (aT 10))
     Rg.bg)))))))))))) ?_
    intro v1 V1 hG1 hv1 hne1
    simp only [Rg.puts, Act.put, tA]
    have e11 : v1 11 = .bool true := hv1 11 (by decide)
    simp only [e11]
    have hO := hG1.1
    clear HO
    have HO := hide hO
    clear hO hG1 hv1 hne1
    try clear e11
    clear k1 k2 k3 g1 g2 g3
    go_upto_region 2 with fail
    refine Rg.region 11 38 (Rg.pick [ai [.r (Rat.divInt 0 1)], Rg.ax (.pointer (some ⟨w.heap.size, 0, none⟩)), ai [.r x], Rg.ax (.int .i64 (m : Int)), ai [.r a], Rg.ax (.pointer (some ⟨w.heap.size, 4, none⟩)), ai [.r y], Rg.ax (.int .i64 (m : Int)), ai [.r b], Qw 63 3 [.r (Rat.divInt 0 1), .r a, .r b], ai [.r X, .r Y]]) (az w _ V1) gm [] kr kr rfl (Rg.fq.pick ⟨au _, Rg.ae _, au _, Rg.ae _, au _, Rg.ae _, au _, Rg.ae _, au _, Jj _ _ _, au _, trivial⟩) (az.start (aa HO))
     (ag (asx rfl rfl)
     (ag (zf (b := w.heap.size) (off := 0) rfl aF rfl rfl)
     (ag (fw ll ky (aT 1) [] [.r x] [.r y])
     (ag (dm rfl aF)
     (ag (sc2 Tryz.func61 (aT 2) (aT 3) (fun W v0 v1 hG h0 h1 => by cases h1; exact Qj (K := 2) (aa HE).1 (aa HS).1 (by have := (aa HS).2.2; omega) (by have := (aa HS).2.2; omega) W _ h0))
     (ag (xm (b := w.heap.size) (off := 0) rfl aF rfl rfl)
     (ag (fw ll ky (aT 5) [.r x] [.r y] [])
     (ag (dm rfl aF)
     (ag (sc2 Tryz.func61 (aT 6) (aT 7) (fun W v0 v1 hG h0 h1 => by cases h1; exact Qj (K := 2) (aa HE).2 (aa HS).2.1 (by have := (aa HS).2.2; omega) (by have := (aa HS).2.2; omega) W _ h0))
     (ag (Ey (ps := [(0, .tmp 17), (1, .tmp 21), (2, .tmp 25)]) (gs := [[.r (Rat.divInt 0 1)], [.r a], [.r b]]) amw rfl az.step rfl (uq.cons (aT 0) rfl (uq.cons (aT 4) rfl (uq.cons (aT 8) rfl uq.nil))) rfl)
     (ag (sc1 Tryz.func108 (aT 9) (fun W v0 hG h0 => aae (aa Mv).1 (aa Mv).2 (Ub (qs := [a, b]) (qd.mono Va om om) (alc (aa HM).1 (aa HM).2) (by simp) W _ h0)))
     Rg.bg))))))))))) ?_
    intro v2 V2 hG2 hv2 hne2
    simp only [Rg.puts, Act.put, tA]
    have hO := hG2.1
    refine jd hO 0 [] zY [.r X, .r Y] [] rfl Jh rfl (show ai [.r X, .r Y] V2 (v2 10) from hv2 10 (by decide)) rfl rfl rfl ?_
    intro yg gy hk0
    replace hO := gy
    clear gy
    clear HO
    have HO := hide hO
    clear hO hG2 hv2 hne2 hk0
    go_wp2_with fail
    exact xu Tryz.results100 Kv rfl (aa HO) me0 rfl rfl
   ·
    have k1 : decide ((0 : Int) < (m : Int)) = true := decide_eq_true om
    have k2 : (((m % 2 : Nat) : Int) == 0) = true := beq_iff_eq.2 om
    have k3 : decide (x ≤ Rat.divInt 0 1 ∧ Rat.divInt 0 1 ≤ y) = false := decide_eq_false g3
    have gn : ¬ (0 < m ∧ m % 2 = 0 ∧ x ≤ Rat.divInt 0 1 ∧ Rat.divInt 0 1 ≤ y) := fun h => g3 h.2.2
    have Mv := hide ((aa HX).2 gn)
    clear HX gn
    go_upto_region 1 with fail
    refine Rg.dz 12 38 (Rg.pick [Rg.ax (.int .i64 (m : Int)), Rg.ax (.bool true), Rg.ax (.bool true), Rg.ax (.int .i64 (m : Int)), Rg.ax (.int .i64 ((m % 2 : Nat) : Int)), Rg.ax (.bool true), Rg.ax (.bool true), Rg.ax (.bool true), ai [.r x, .r y], ai [.r (Rat.divInt 0 1)], Rg.ax (.bool false), Rg.ax (.bool false)]) (az w _ W0) gm [] kr rfl (Rg.fq.pick ⟨Rg.ae _, Rg.ae _, Rg.ae _, Rg.ae _, Rg.ae _, Rg.ae _, Rg.ae _, Rg.ae _, au _, au _, Rg.ae _, Rg.ae _, trivial⟩) (az.begin (aa HO))
     (ag (dm rfl aF)
     (ag (Bj rfl (aT 0) (Rg.je _) rfl k1)
     (ag (dm rfl (aT 1))
     (Rg.ay (Rg.fe (d := 7) rfl kr rfl (dm rfl aF))
     (Rg.ay (Rg.fe (d := 7) rfl kr rfl (aff (aa HS).2.2 rfl (aT 3) rfl))
     (Rg.ay (Rg.fe (d := 7) rfl kr rfl (alk rfl (aT 4) (Rg.je _) rfl k2))
     (ag (mr rfl (aT 2) (aT 5))
     (ag (dm rfl (aT 6))
     (Rg.ay (Rg.fe (d := 12) rfl kr rfl (fw afy ky aF [] [.r x, .r y] []))
     (Rg.ay (Rg.fe (d := 12) rfl kr rfl (asx rfl rfl))
     (Rg.ay (Rg.fe (d := 12) rfl kr rfl (yu Tryz.func90 kr rfl az.step (aT 8) (aT 9) (fun W v0 v1 hG h0 h1 => k3 ▸ adv (aa HS).1 (aa HS).2.1 Va W _ h0 _ h1)))
     (ag (mr rfl (aT 7) (aT 10))
     Rg.bg)))))))))))) ?_
    intro v1 V1 hG1 hv1 hne1
    simp only [Rg.puts, Act.put, tA]
    have e11 : v1 11 = .bool false := hv1 11 (by decide)
    simp only [e11]
    have hO := hG1.1
    clear HO
    have HO := hide hO
    clear hO hG1 hv1 hne1
    try clear e11
    clear k1 k2 k3 g1 g2 g3
    go_upto_region 3 with fail
    refine Rg.region 10 38 (Rg.pick [Rg.ax (.pointer (some ⟨w.heap.size, 0, none⟩)), ai [.r x], Rg.ax (.int .i64 (m : Int)), ai [.r a], Rg.ax (.pointer (some ⟨w.heap.size, 4, none⟩)), ai [.r y], Rg.ax (.int .i64 (m : Int)), ai [.r b], Qw 63 2 [.r a, .r b], ai [.r X, .r Y]]) (az w _ V1) gm [] kr kr rfl (Rg.fq.pick ⟨Rg.ae _, au _, Rg.ae _, au _, Rg.ae _, au _, Rg.ae _, au _, Jj _ _ _, au _, trivial⟩) (az.start (aa HO))
     (ag (zf (b := w.heap.size) (off := 0) rfl aF rfl rfl)
     (ag (fw ll ky (aT 0) [] [.r x] [.r y])
     (ag (dm rfl aF)
     (ag (sc2 Tryz.func61 (aT 1) (aT 2) (fun W v0 v1 hG h0 h1 => by cases h1; exact Qj (K := 2) (aa HE).1 (aa HS).1 (by have := (aa HS).2.2; omega) (by have := (aa HS).2.2; omega) W _ h0))
     (ag (xm (b := w.heap.size) (off := 0) rfl aF rfl rfl)
     (ag (fw ll ky (aT 4) [.r x] [.r y] [])
     (ag (dm rfl aF)
     (ag (sc2 Tryz.func61 (aT 5) (aT 6) (fun W v0 v1 hG h0 h1 => by cases h1; exact Qj (K := 2) (aa HE).2 (aa HS).2.1 (by have := (aa HS).2.2; omega) (by have := (aa HS).2.2; omega) W _ h0))
     (ag (Ey (ps := [(0, .tmp 31), (1, .tmp 35)]) (gs := [[.r a], [.r b]]) Uc rfl az.step rfl (uq.cons (aT 3) rfl (uq.cons (aT 7) rfl uq.nil)) rfl)
     (ag (sc1 Tryz.func108 (aT 8) (fun W v0 hG h0 => aae (aa Mv).1 (aa Mv).2 (Ub (qs := [b]) (aa HM).1 (Xd (aa HM).2) (by simp) W _ h0)))
     Rg.bg)))))))))) ?_
    intro v2 V2 hG2 hv2 hne2
    simp only [Rg.puts, Act.put, tA]
    have hO := hG2.1
    refine jd hO 0 [] zY [.r X, .r Y] [] rfl Jh rfl (show ai [.r X, .r Y] V2 (v2 9) from hv2 9 (by decide)) rfl rfl rfl ?_
    intro yg gy hk0
    replace hO := gy
    clear gy
    clear HO
    have HO := hide hO
    clear hO hG2 hv2 hne2 hk0
    go_wp2_with fail
    exact xu Tryz.results100 Kv rfl (aa HO) me0 rfl rfl
  ·
   have k1 : decide ((0 : Int) < (m : Int)) = true := decide_eq_true om
   have k2 : (((m % 2 : Nat) : Int) == 0) = false := beq_eq_false_iff_ne.2 om
   have gn : ¬ (0 < m ∧ m % 2 = 0 ∧ x ≤ Rat.divInt 0 1 ∧ Rat.divInt 0 1 ≤ y) := fun h => g2 h.2.1
   have Mv := hide ((aa HX).2 gn)
   clear HX gn
   go_upto_region 1 with fail
   refine Rg.dz 12 38 (Rg.pick [Rg.ax (.int .i64 (m : Int)), Rg.ax (.bool true), Rg.ax (.bool true), Rg.ax (.int .i64 (m : Int)), Rg.ax (.int .i64 ((m % 2 : Nat) : Int)), Rg.ax (.bool false), Rg.ax (.bool false), Rg.ax (.bool false), Rg.ax undef, Rg.ax undef, Rg.ax undef, Rg.ax (.bool false)]) (az w _ W0) gm [] kr rfl (Rg.fq.pick ⟨Rg.ae _, Rg.ae _, Rg.ae _, Rg.ae _, Rg.ae _, Rg.ae _, Rg.ae _, Rg.ae _, Rg.ae _, Rg.ae _, Rg.ae _, Rg.ae _, trivial⟩) (az.begin (aa HO))
    (ag (dm rfl aF)
    (ag (Bj rfl (aT 0) (Rg.je _) rfl k1)
    (ag (dm rfl (aT 1))
    (Rg.ay (Rg.fe (d := 7) rfl kr rfl (dm rfl aF))
    (Rg.ay (Rg.fe (d := 7) rfl kr rfl (aff (aa HS).2.2 rfl (aT 3) rfl))
    (Rg.ay (Rg.fe (d := 7) rfl kr rfl (alk rfl (aT 4) (Rg.je _) rfl k2))
    (ag (mr rfl (aT 2) (aT 5))
    (ag (dm rfl (aT 6))
    (Rg.ay (Rg.jb (d := 12) rfl kr rfl rfl iy rfl rfl)
    (Rg.ay (Rg.jb (d := 12) rfl kr rfl rfl iy rfl rfl)
    (Rg.ay (Rg.jb (d := 12) rfl kr rfl rfl iy rfl rfl)
    (ag (qi rfl (aT 7) (Rg.je _))
    Rg.bg)))))))))))) ?_
   intro v1 V1 hG1 hv1 hne1
   simp only [Rg.puts, Act.put, tA]
   have e11 : v1 11 = .bool false := hv1 11 (by decide)
   simp only [e11]
   have hO := hG1.1
   clear HO
   have HO := hide hO
   clear hO hG1 hv1 hne1
   try clear e11
   clear k1 k2 g1 g2
   go_upto_region 3 with fail
   refine Rg.region 10 38 (Rg.pick [Rg.ax (.pointer (some ⟨w.heap.size, 0, none⟩)), ai [.r x], Rg.ax (.int .i64 (m : Int)), ai [.r a], Rg.ax (.pointer (some ⟨w.heap.size, 4, none⟩)), ai [.r y], Rg.ax (.int .i64 (m : Int)), ai [.r b], Qw 63 2 [.r a, .r b], ai [.r X, .r Y]]) (az w _ V1) gm [] kr kr rfl (Rg.fq.pick ⟨Rg.ae _, au _, Rg.ae _, au _, Rg.ae _, au _, Rg.ae _, au _, Jj _ _ _, au _, trivial⟩) (az.start (aa HO))
    (ag (zf (b := w.heap.size) (off := 0) rfl aF rfl rfl)
    (ag (fw ll ky (aT 0) [] [.r x] [.r y])
    (ag (dm rfl aF)
    (ag (sc2 Tryz.func61 (aT 1) (aT 2) (fun W v0 v1 hG h0 h1 => by cases h1; exact Qj (K := 2) (aa HE).1 (aa HS).1 (by have := (aa HS).2.2; omega) (by have := (aa HS).2.2; omega) W _ h0))
    (ag (xm (b := w.heap.size) (off := 0) rfl aF rfl rfl)
    (ag (fw ll ky (aT 4) [.r x] [.r y] [])
    (ag (dm rfl aF)
    (ag (sc2 Tryz.func61 (aT 5) (aT 6) (fun W v0 v1 hG h0 h1 => by cases h1; exact Qj (K := 2) (aa HE).2 (aa HS).2.1 (by have := (aa HS).2.2; omega) (by have := (aa HS).2.2; omega) W _ h0))
    (ag (Ey (ps := [(0, .tmp 31), (1, .tmp 35)]) (gs := [[.r a], [.r b]]) Uc rfl az.step rfl (uq.cons (aT 3) rfl (uq.cons (aT 7) rfl uq.nil)) rfl)
    (ag (sc1 Tryz.func108 (aT 8) (fun W v0 hG h0 => aae (aa Mv).1 (aa Mv).2 (Ub (qs := [b]) (aa HM).1 (Xd (aa HM).2) (by simp) W _ h0)))
    Rg.bg)))))))))) ?_
   intro v2 V2 hG2 hv2 hne2
   simp only [Rg.puts, Act.put, tA]
   have hO := hG2.1
   refine jd hO 0 [] zY [.r X, .r Y] [] rfl Jh rfl (show ai [.r X, .r Y] V2 (v2 9) from hv2 9 (by decide)) rfl rfl rfl ?_
   intro yg gy hk0
   replace hO := gy
   clear gy
   clear HO
   have HO := hide hO
   clear hO hG2 hv2 hne2 hk0
   go_wp2_with fail
   exact xu Tryz.results100 Kv rfl (aa HO) me0 rfl rfl
 ·
  have k1 : decide ((0 : Int) < (m : Int)) = false := decide_eq_false om
  have gn : ¬ (0 < m ∧ m % 2 = 0 ∧ x ≤ Rat.divInt 0 1 ∧ Rat.divInt 0 1 ≤ y) := fun h => g1 h.1
  have Mv := hide ((aa HX).2 gn)
  clear HX gn
  go_upto_region 1 with fail
  refine Rg.dz 12 38 (Rg.pick [Rg.ax (.int .i64 (m : Int)), Rg.ax (.bool false), Rg.ax (.bool false), Rg.ax undef, Rg.ax undef, Rg.ax undef, Rg.ax (.bool false), Rg.ax (.bool false), Rg.ax undef, Rg.ax undef, Rg.ax undef, Rg.ax (.bool false)]) (az w _ W0) gm [] kr rfl (Rg.fq.pick ⟨Rg.ae _, Rg.ae _, Rg.ae _, Rg.ae _, Rg.ae _, Rg.ae _, Rg.ae _, Rg.ae _, Rg.ae _, Rg.ae _, Rg.ae _, Rg.ae _, trivial⟩) (az.begin (aa HO))
   (ag (dm rfl aF)
   (ag (Bj rfl (aT 0) (Rg.je _) rfl k1)
   (ag (dm rfl (aT 1))
   (Rg.ay (Rg.jb (d := 7) rfl kr rfl rfl iy rfl rfl)
   (Rg.ay (Rg.jb (d := 7) rfl kr rfl rfl iy rfl rfl)
   (Rg.ay (Rg.jb (d := 7) rfl kr rfl rfl iy rfl rfl)
   (ag (qi rfl (aT 2) (Rg.je _))
   (ag (dm rfl (aT 6))
   (Rg.ay (Rg.jb (d := 12) rfl kr rfl rfl iy rfl rfl)
   (Rg.ay (Rg.jb (d := 12) rfl kr rfl rfl iy rfl rfl)
   (Rg.ay (Rg.jb (d := 12) rfl kr rfl rfl iy rfl rfl)
   (ag (qi rfl (aT 7) (Rg.je _))
   Rg.bg)))))))))))) ?_
  intro v1 V1 hG1 hv1 hne1
  simp only [Rg.puts, Act.put, tA]
  have e11 : v1 11 = .bool false := hv1 11 (by decide)
  simp only [e11]
  have hO := hG1.1
  clear HO
  have HO := hide hO
  clear hO hG1 hv1 hne1
  try clear e11
  clear k1 g1
  go_upto_region 3 with fail
  refine Rg.region 10 38 (Rg.pick [Rg.ax (.pointer (some ⟨w.heap.size, 0, none⟩)), ai [.r x], Rg.ax (.int .i64 (m : Int)), ai [.r a], Rg.ax (.pointer (some ⟨w.heap.size, 4, none⟩)), ai [.r y], Rg.ax (.int .i64 (m : Int)), ai [.r b], Qw 63 2 [.r a, .r b], ai [.r X, .r Y]]) (az w _ V1) gm [] kr kr rfl (Rg.fq.pick ⟨Rg.ae _, au _, Rg.ae _, au _, Rg.ae _, au _, Rg.ae _, au _, Jj _ _ _, au _, trivial⟩) (az.start (aa HO))
   (ag (zf (b := w.heap.size) (off := 0) rfl aF rfl rfl)
   (ag (fw ll ky (aT 0) [] [.r x] [.r y])
   (ag (dm rfl aF)
   (ag (sc2 Tryz.func61 (aT 1) (aT 2) (fun W v0 v1 hG h0 h1 => by cases h1; exact Qj (K := 2) (aa HE).1 (aa HS).1 (by have := (aa HS).2.2; omega) (by have := (aa HS).2.2; omega) W _ h0))
   (ag (xm (b := w.heap.size) (off := 0) rfl aF rfl rfl)
   (ag (fw ll ky (aT 4) [.r x] [.r y] [])
   (ag (dm rfl aF)
   (ag (sc2 Tryz.func61 (aT 5) (aT 6) (fun W v0 v1 hG h0 h1 => by cases h1; exact Qj (K := 2) (aa HE).2 (aa HS).2.1 (by have := (aa HS).2.2; omega) (by have := (aa HS).2.2; omega) W _ h0))
   (ag (Ey (ps := [(0, .tmp 31), (1, .tmp 35)]) (gs := [[.r a], [.r b]]) Uc rfl az.step rfl (uq.cons (aT 3) rfl (uq.cons (aT 7) rfl uq.nil)) rfl)
   (ag (sc1 Tryz.func108 (aT 8) (fun W v0 hG h0 => aae (aa Mv).1 (aa Mv).2 (Ub (qs := [b]) (aa HM).1 (Xd (aa HM).2) (by simp) W _ h0)))
   Rg.bg)))))))))) ?_
  intro v2 V2 hG2 hv2 hne2
  simp only [Rg.puts, Act.put, tA]
  have hO := hG2.1
  refine jd hO 0 [] zY [.r X, .r Y] [] rfl Jh rfl (show ai [.r X, .r Y] V2 (v2 9) from hv2 9 (by decide)) rfl rfl rfl ?_
  intro yg gy hk0
  replace hO := gy
  clear gy
  clear HO
  have HO := hide hO
  clear hO hG2 hv2 hne2 hk0
  go_wp2_with fail
  exact xu Tryz.results100 Kv rfl (aa HO) me0 rfl rfl
theorem arb {x y : Rat} {m : Nat} (sx : qd 2 x) (sy : qd 2 y) (hm : m ≤ 12) (w : World) (u0 : Value) (h0 : ai [.r x, .r y] w u0) :
  Calls Tryz.prog 100 #[u0, .int .i64 (m : Int)] w (il (ai [.r (Hm x y m), .r (Ho x y m)]) w) :=
 afj sx sy hm w u0 h0 ⟨rfl, rfl⟩ ⟨fun h => pow_even h.1 h.2.2, fun h => atn h⟩
theorem bks {g : Int} (h : oq 0 g = 0) : 1 ≤ g ∧ g ≤ 1000000 := by
 unfold oq at h
 by_cases k : g < 1 ∨ 1000000 < g
 ·
  rw [if_pos ⟨rfl, k⟩] at h; omega
 ·
  omega
theorem aiz {df cz di dh n g : Int} {m : Nat} {X Y : Rat} (t : Er) (w : World) (hT : qy w) (u0 : Value) (h0 : ai [iv df, iv cz, iv di, iv dh] w u0)
  (hm : 0 ≤ n → n = (m : Int)) (hx : X = Hm (Wd.qR df cz) (Wd.qR di dh) m ∧ Y = Ho (Wd.qR df cz) (Wd.qR di dh) m)
  (hr : (nk df cz di dh ≠ 0 → t = ⟨0, 0, 0, 0, nk df cz di dh⟩) ∧ (nk df cz di dh = 0 → (n < 0 ∨ 12 < n → t = ⟨0, 0, 0, 0, 1⟩) ∧ (0 ≤ n ∧ n ≤ 12 → (oq 0 g ≠ 0 → t = ⟨0, 0, 0, 0, oq 0 g⟩) ∧ (oq 0 g = 0 → t = Ea (xw X g) (Dj Y g))))) :
  Calls Tryz.prog 33 #[u0, .int .i64 n, .int .i64 g] w (il (Im t) w) := by
 have HR := hide hr
 have HM := hide hm
 have HX := hide hx
 have HT := hide hT
 clear hr hm hx hT
 have hu0 := Bg h0
 subst hu0
 go_enter Tryz.func33, Tryz.ntmps33
 go_upto_region 1 with fail
 have hO := (Own.push (T := 41) (ls := zS) (cs := [.int .i64 0, .int .i64 0, .int .i64 0, .int .i64 0]) (Own.push (T := 41) (ls := [iv df, iv cz, iv di, iv dh]) (cs := [.int .i64 df, .int .i64 cz, .int .i64 di, .int .i64 dh]) (Own.nil w) (gu.v (jm _) (gu.v (jm _) (gu.v (jm _) (gu.v (jm _) rfl)))) (w.heap.size) rfl) (((gu.vs w [.int .i64 0, .int .i64 0, .int .i64 0, .int .i64 0] rfl) : gu w zS [.int .i64 0, .int .i64 0, .int .i64 0, .int .i64 0]).below (by repeat (first | exact Below.refl _ _ | refine jc ?_ _))) (w.heap.size + 1) (by simp only [World.size_alloc]))
 generalize (w.alloc (.cells #[.int .i64 df, .int .i64 cz, .int .i64 di, .int .i64 dh] 41)).alloc (.cells #[.int .i64 0, .int .i64 0, .int .i64 0, .int .i64 0] 41) = W0 at *
 have HO := hide hO
 clear hO
 go_upto_region 1 with fail
 refine Rg.dz 3 38 (Rg.pick [ai [iv df, iv cz, iv di, iv dh], Rg.ax (.int .i64 (nk df cz di dh)), Rg.ax (.int .i64 (nk df cz di dh))]) (az w _ W0) gm [] kr rfl (Rg.fq.pick ⟨au _, Rg.ae _, Rg.ae _, trivial⟩) (az.begin (aa HO))
  (ag (fw oh ky aF [] [iv df, iv cz, iv di, iv dh] [])
  (ag (sc1 Tryz.func31 (aT 0) (fun W v0 hG h0 => Wh W ((aa HT).below hG.bel) _ h0))
  (ag (nz rfl (aT 1))
  Rg.bg))) ?_
 intro v1 V1 hG1 hv1 hne1
 simp only [Rg.puts, Act.put, tA]
 have e1 : v1 1 = .int .i64 (nk df cz di dh) := hv1 1 (by decide)
 have e2 : v1 2 = .int .i64 (nk df cz di dh) := hv1 2 (by decide)
 simp only [e1, e2]
 have hO := hG1.1
 clear HO
 have HO := hide hO
 clear hO hG1 hv1 hne1
 try clear e1 e2
 by_cases g0 : nk df cz di dh = 0
 ·
  have k1 : (nk df cz di dh != 0) = false := by simp [bne, beq_iff_eq.2 g0]
  have HR2 := hide ((aa HR).2 g0)
  have HQ := hide (aji g0)
  clear HR
  go_upto_region 2 with fail
  refine Rg.dz 2 38 (Rg.pick [Rg.ax (.int .i64 (nk df cz di dh)), Rg.ax (.bool false)]) (az w _ V1) gm [] kr rfl (Rg.fq.pick ⟨Rg.ae _, Rg.ae _, trivial⟩) (az.begin (aa HO))
   (ag (dm rfl aF)
   (ag (Au rfl (aT 0) (Rg.je _) rfl k1)
   Rg.bg)) ?_
  intro v2 V2 hG2 hv2 hne2
  simp only [Rg.puts, Act.put, tA]
  have e1 : v2 1 = .bool false := hv2 1 (by decide)
  simp only [e1]
  have hO := hG2.1
  clear HO
  have HO := hide hO
  clear hO hG2 hv2 hne2
  try clear e1
  clear k1 g0
  by_cases g1 : n < 0
  ·
   have k1 : decide (n < 0) = true := decide_eq_true g1
   have hr := (aa HR2).1 (.inl g1)
   clear HR2
   subst hr
   go_upto_region 4 with fail
   refine Rg.dz 6 38 (Rg.pick [Rg.ax (.int .i64 n), Rg.ax (.bool true), Rg.ax (.bool true), Rg.ax undef, Rg.ax undef, Rg.ax (.bool true)]) (az w _ V2) gm [] kr rfl (Rg.fq.pick ⟨Rg.ae _, Rg.ae _, Rg.ae _, Rg.ae _, Rg.ae _, Rg.ae _, trivial⟩) (az.begin (aa HO))
    (ag (dm rfl aF)
    (ag (Aq rfl (aT 0) (Rg.je _) rfl k1)
    (ag (dm rfl (aT 1))
    (Rg.ay (Rg.jb (d := 18) rfl kr rfl rfl iy rfl rfl)
    (Rg.ay (Rg.jb (d := 18) rfl kr rfl rfl iy rfl rfl)
    (ag (mr rfl (aT 2) (Rg.je _))
    Rg.bg)))))) ?_
   intro v3 V3 hG3 hv3 mf
   simp only [Rg.puts, Act.put, tA]
   have e5 : v3 5 = .bool true := hv3 5 (by decide)
   simp only [e5]
   have hO := hG3.1
   clear HO
   have HO := hide hO
   clear hO hG3 hv3 mf
   try clear e5
   go_upto_region 5 with fail
   refine Rg.dz 1 38 (Rg.pick [ai zS]) (az w _ V3) gm [] kr rfl (Rg.fq.pick ⟨au _, trivial⟩) (az.begin (aa HO))
    (ag (ui uj rfl rfl rfl)
    Rg.bg) ?_
   intro v4 V4 hG4 hv4 ry
   simp only [Rg.puts, Act.put, tA]
   have hO := hG4.1
   refine jd hO 0 [] zS zS [] rfl mg rfl (show ai zS V4 (v4 0) from hv4 0 (by decide)) rfl rfl rfl ?_
   intro Ig gy hk0
   replace hO := gy
   clear gy
   clear HO
   have HO := hide hO
   clear hO hG4 hv4 ry hk0
   go_wp2_with fail
   exact yz Tryz.results33 qg rfl rfl (aa HO) me0 rfl rfl
  ·
   by_cases g2 : 12 < n
   ·
    have k1 : decide (n < 0) = false := decide_eq_false g1
    have k2 : decide (12 < n) = true := decide_eq_true g2
    have hr := (aa HR2).1 (.inr g2)
    clear HR2
    subst hr
    go_upto_region 4 with fail
    refine Rg.dz 6 38 (Rg.pick [Rg.ax (.int .i64 n), Rg.ax (.bool false), Rg.ax (.bool false), Rg.ax (.int .i64 n), Rg.ax (.bool true), Rg.ax (.bool true)]) (az w _ V2) gm [] kr rfl (Rg.fq.pick ⟨Rg.ae _, Rg.ae _, Rg.ae _, Rg.ae _, Rg.ae _, Rg.ae _, trivial⟩) (az.begin (aa HO))
     (ag (dm rfl aF)
     (ag (Aq rfl (aT 0) (Rg.je _) rfl k1)
     (ag (dm rfl (aT 1))
     (Rg.ay (Rg.fe (d := 18) rfl kr rfl (dm rfl aF))
     (Rg.ay (Rg.fe (d := 18) rfl kr rfl (Bj rfl (aT 3) (Rg.je _) rfl k2))
     (ag (qi rfl (aT 2) (aT 4))
     Rg.bg)))))) ?_
    intro v3 V3 hG3 hv3 mf
    simp only [Rg.puts, Act.put, tA]
    have e5 : v3 5 = .bool true := hv3 5 (by decide)
    simp only [e5]
    have hO := hG3.1
    clear HO
    have HO := hide hO
    clear hO hG3 hv3 mf
    try clear e5
    go_upto_region 5 with fail
    refine Rg.dz 1 38 (Rg.pick [ai zS]) (az w _ V3) gm [] kr rfl (Rg.fq.pick ⟨au _, trivial⟩) (az.begin (aa HO))
     (ag (ui uj rfl rfl rfl)
     Rg.bg) ?_
    intro v4 V4 hG4 hv4 ry
    simp only [Rg.puts, Act.put, tA]
    have hO := hG4.1
    refine jd hO 0 [] zS zS [] rfl mg rfl (show ai zS V4 (v4 0) from hv4 0 (by decide)) rfl rfl rfl ?_
    intro Ig gy hk0
    replace hO := gy
    clear gy
    clear HO
    have HO := hide hO
    clear hO hG4 hv4 ry hk0
    go_wp2_with fail
    exact yz Tryz.results33 qg rfl rfl (aa HO) me0 rfl rfl
   ·
    have k1 : decide (n < 0) = false := decide_eq_false g1
    have k2 : decide (12 < n) = false := decide_eq_false g2
    have HR3 := hide ((aa HR2).2 om)
    have HN := hide ((aa HM) om)
    have H12 := hide (show m ≤ 12 by have := aa HN; omega)
    clear HR2 HM
    go_upto_region 4 with fail
    refine Rg.dz 6 38 (Rg.pick [Rg.ax (.int .i64 n), Rg.ax (.bool false), Rg.ax (.bool false), Rg.ax (.int .i64 n), Rg.ax (.bool false), Rg.ax (.bool false)]) (az w _ V2) gm [] kr rfl (Rg.fq.pick ⟨Rg.ae _, Rg.ae _, Rg.ae _, Rg.ae _, Rg.ae _, Rg.ae _, trivial⟩) (az.begin (aa HO))
     (ag (dm rfl aF)
     (ag (Aq rfl (aT 0) (Rg.je _) rfl k1)
     (ag (dm rfl (aT 1))
     (Rg.ay (Rg.fe (d := 18) rfl kr rfl (dm rfl aF))
     (Rg.ay (Rg.fe (d := 18) rfl kr rfl (Bj rfl (aT 3) (Rg.je _) rfl k2))
     (ag (qi rfl (aT 2) (aT 4))
     Rg.bg)))))) ?_
    intro v3 V3 hG3 hv3 mf
    simp only [Rg.puts, Act.put, tA]
    have e5 : v3 5 = .bool false := hv3 5 (by decide)
    simp only [e5]
    have hO := hG3.1
    clear HO
    have HO := hide hO
    clear hO hG3 hv3 mf
    try clear e5
    clear k1 k2 g1 g2
    go_upto_region 6 with fail
    refine Rg.dz 3 38 (Rg.pick [Rg.ax (.int .i64 g), Rg.ax (.int .i64 (oq 0 g)), Rg.ax (.int .i64 (oq 0 g))]) (az w _ V3) gm [] kr rfl (Rg.fq.pick ⟨Rg.ae _, Rg.ae _, Rg.ae _, trivial⟩) (az.begin (aa HO))
     (ag (dm rfl aF)
     (ag (sc2 Tryz.func94 (Rg.je _) (aT 0) (fun W v0 v1 hG h0 h1 => by cases h0; cases h1; exact ahu _ _ W))
     (ag (nz rfl (aT 1))
     Rg.bg))) ?_
    intro v4 V4 hG4 hv4 ry
    simp only [Rg.puts, Act.put, tA]
    have e1 : v4 1 = .int .i64 (oq 0 g) := hv4 1 (by decide)
    have e2 : v4 2 = .int .i64 (oq 0 g) := hv4 2 (by decide)
    simp only [e1, e2]
    have hO := hG4.1
    clear HO
    have HO := hide hO
    clear hO hG4 hv4 ry
    try clear e1 e2
    by_cases g3 : oq 0 g = 0
    ·
     have k1 : (oq 0 g != 0) = false := by simp [bne, beq_iff_eq.2 g3]
     have HT2 := hide ((aa HR3).2 g3)
     have HG := hide (bks g3)
     clear HR3
     go_upto_region 7 with fail
     refine Rg.dz 2 38 (Rg.pick [Rg.ax (.int .i64 (oq 0 g)), Rg.ax (.bool false)]) (az w _ V4) gm [] kr rfl (Rg.fq.pick ⟨Rg.ae _, Rg.ae _, trivial⟩) (az.begin (aa HO))
      (ag (dm rfl aF)
      (ag (Au rfl (aT 0) (Rg.je _) rfl k1)
      Rg.bg)) ?_
     intro v5 V5 xq hv5 hne5
     simp only [Rg.puts, Act.put, tA]
     have e1 : v5 1 = .bool false := hv5 1 (by decide)
     simp only [e1]
     have hO := xq.1
     clear HO
     have HO := hide hO
     clear hO xq hv5 hne5
     try clear e1
     clear k1 g3
     go_upto_region 9 with fail
     refine Rg.dz 9 38 (Rg.pick [ai [iv df, iv cz, iv di, iv dh], ai [.q (Wd.qR df cz), .q (Wd.qR di dh)], Rg.ax (.int .i64 n), ai [.q X, .q Y], Rg.ax (.int .i64 g), ai [.q (xw X g), .q (Dj Y g)], qa [ai [iv t.a, iv t.b, iv t.c, iv t.d], Rg.ax (.int .i64 t.e)], ai [iv t.a, iv t.b, iv t.c, iv t.d], Rg.ax (.int .i64 t.e)]) (az w _ V5) gm [] kr rfl (Rg.fq.pick ⟨au _, au _, Rg.ae _, au _, Rg.ae _, au _, ko ⟨(au _), (Rg.ae _), trivial⟩, au _, Rg.ae _, trivial⟩) (az.begin (aa HO))
      (ag (fw oh ky aF [] [iv df, iv cz, iv di, iv dh] [])
      (ag (sc1 Tryz.func95 (aT 0) (fun W v0 hG h0 => Wi ⟨(aa HQ).1, (aa HQ).2.1⟩ W _ h0))
      (ag (dm rfl aF)
      (ag (sc2 Tryz.func99 (aT 1) (aT 2) (fun W v0 v1 hG h0 h1 => by cases h1; rw [aa HN]; exact aaf (aa HX).1 (aa HX).2 (bej (Cg (aa HQ).1) (Cg (aa HQ).2.1) (aa H12) W ((aa HT).below hG.bel) _ h0)))
      (ag (dm rfl aF)
      (ag (sc2 Tryz.func96 (aT 3) (aT 4) (fun W v0 v1 hG h0 h1 => by cases h1; exact Wj (K := 12) ((aa HX).1 ▸ (apq (Cg (aa HQ).1) (Cg (aa HQ).2.1) (aa H12)).1) ((aa HX).2 ▸ (apq (Cg (aa HQ).1) (Cg (aa HQ).2.1) (aa H12)).2) (aa HG).1 (aa HG).2 om W ((aa HT).below hG.bel) _ h0))
      (ag (sc1 Tryz.func97 (aT 5) (fun W v0 hG h0 => aac (aa HT2) (ahr W _ h0)))
      (ag (ma (ts := [ai [iv t.a, iv t.b, iv t.c, iv t.d], Rg.ax (.int .i64 t.e)]) rfl (aT 6) (of_decide_eq_true rfl) rfl)
      (ag (ma (ts := [ai [iv t.a, iv t.b, iv t.c, iv t.d], Rg.ax (.int .i64 t.e)]) rfl (aT 6) (of_decide_eq_true rfl) rfl)
      Rg.bg))))))))) ?_
     intro v6 V6 Fh hv6 Gv
     simp only [Rg.puts, Act.put, tA]
     have e8 : v6 8 = .int .i64 t.e := hv6 8 (by decide)
     simp only [e8]
     have hO := Fh.1
     refine jd hO 0 [] zS [iv t.a, iv t.b, iv t.c, iv t.d] [] rfl mg rfl (show ai [iv t.a, iv t.b, iv t.c, iv t.d] V6 (v6 7) from hv6 7 (by decide)) rfl rfl rfl ?_
     intro avz gy hk0
     replace hO := gy
     clear gy
     clear HO
     have HO := hide hO
     clear hO Fh hv6 Gv hk0
     try clear e8
     go_wp2_with fail
     exact yz Tryz.results33 qg rfl rfl (aa HO) me0 rfl rfl
    ·
     have k1 : (oq 0 g != 0) = true := by simp [bne, beq_eq_false_iff_ne.2 g3]
     have hr := (aa HR3).1 g3
     clear HR3
     subst hr
     go_upto_region 7 with fail
     refine Rg.dz 2 38 (Rg.pick [Rg.ax (.int .i64 (oq 0 g)), Rg.ax (.bool true)]) (az w _ V4) gm [] kr rfl (Rg.fq.pick ⟨Rg.ae _, Rg.ae _, trivial⟩) (az.begin (aa HO))
      (ag (dm rfl aF)
      (ag (Au rfl (aT 0) (Rg.je _) rfl k1)
      Rg.bg)) ?_
     intro v5 V5 xq hv5 hne5
     simp only [Rg.puts, Act.put, tA]
     have e1 : v5 1 = .bool true := hv5 1 (by decide)
     simp only [e1]
     have hO := xq.1
     clear HO
     have HO := hide hO
     clear hO xq hv5 hne5
     try clear e1
     go_upto_region 8 with fail
     refine Rg.dz 2 38 (Rg.pick [ai zS, Rg.ax (.int .i64 (oq 0 g))]) (az w _ V5) gm [] kr rfl (Rg.fq.pick ⟨au _, Rg.ae _, trivial⟩) (az.begin (aa HO))
      (ag (ui uj rfl rfl rfl)
      (ag (dm rfl aF)
      Rg.bg)) ?_
     intro v6 V6 Fh hv6 Gv
     simp only [Rg.puts, Act.put, tA]
     have e1 : v6 1 = .int .i64 (oq 0 g) := hv6 1 (by decide)
     simp only [e1]
     have hO := Fh.1
     refine jd hO 0 [] zS zS [] rfl mg rfl (show ai zS V6 (v6 0) from hv6 0 (by decide)) rfl rfl rfl ?_
     intro avz gy hk0
     replace hO := gy
     clear gy
     clear HO
     have HO := hide hO
     clear hO Fh hv6 Gv hk0
     try clear e1
     go_wp2_with fail
     exact yz Tryz.results33 qg rfl rfl (aa HO) me0 rfl rfl
 ·
  have k1 : (nk df cz di dh != 0) = true := by simp [bne, beq_eq_false_iff_ne.2 g0]
  have hr := (aa HR).1 g0
  clear HR
  subst hr
  go_upto_region 2 with fail
  refine Rg.dz 2 38 (Rg.pick [Rg.ax (.int .i64 (nk df cz di dh)), Rg.ax (.bool true)]) (az w _ V1) gm [] kr rfl (Rg.fq.pick ⟨Rg.ae _, Rg.ae _, trivial⟩) (az.begin (aa HO))
   (ag (dm rfl aF)
   (ag (Au rfl (aT 0) (Rg.je _) rfl k1)
   Rg.bg)) ?_
  intro v2 V2 hG2 hv2 hne2
  simp only [Rg.puts, Act.put, tA]
  have e1 : v2 1 = .bool true := hv2 1 (by decide)
  simp only [e1]
  have hO := hG2.1
  clear HO
  have HO := hide hO
  clear hO hG2 hv2 hne2
  try clear e1
  go_upto_region 3 with fail
  refine Rg.dz 2 38 (Rg.pick [ai zS, Rg.ax (.int .i64 (nk df cz di dh))]) (az w _ V2) gm [] kr rfl (Rg.fq.pick ⟨au _, Rg.ae _, trivial⟩) (az.begin (aa HO))
   (ag (ui uj rfl rfl rfl)
   (ag (dm rfl aF)
   Rg.bg)) ?_
  intro v3 V3 hG3 hv3 mf
  simp only [Rg.puts, Act.put, tA]
  have e1 : v3 1 = .int .i64 (nk df cz di dh) := hv3 1 (by decide)
  simp only [e1]
  have hO := hG3.1
  refine jd hO 0 [] zS zS [] rfl mg rfl (show ai zS V3 (v3 0) from hv3 0 (by decide)) rfl rfl rfl ?_
  intro Da gy hk0
  replace hO := gy
  clear gy
  clear HO
  have HO := hide hO
  clear hO hG3 hv3 mf hk0
  try clear e1
  go_wp2_with fail
  exact yz Tryz.results33 qg rfl rfl (aa HO) me0 rfl rfl
theorem aix {df cz di dh n g : Int} {m : Nat} {X Y : Rat} (t : Er) (w : World) (u0 : Value) (h0 : ai [iv df, iv cz, iv di, iv dh] w u0)
  (hm : 0 ≤ n → n = (m : Int)) (hx : X = Hm (Wd.qR df cz) (Wd.qR di dh) m ∧ Y = Ho (Wd.qR df cz) (Wd.qR di dh) m)
  (hr : (¬ (xy df cz di dh ∧ 0 ≤ n ∧ n ≤ 12 ∧ 1 ≤ g ∧ g ≤ 1000000) → t = ⟨0, 0, 0, 0, 1⟩) ∧ ((xy df cz di dh ∧ 0 ≤ n ∧ n ≤ 12 ∧ 1 ≤ g ∧ g ≤ 1000000) → t = Ea (xw X g) (Dj Y g))) :
  Calls Tryz.prog 34 #[u0, .int .i64 n, .int .i64 g] w (il (Im t) w) := by
 have HR := hide hr
 have HM := hide hm
 have HX := hide hx
 clear hr hm hx
 have hu0 := Bg h0
 subst hu0
 go_enter Tryz.func34, Tryz.ntmps34
 go_upto_region 1 with fail
 have hO := (Own.push (T := 41) (ls := zS) (cs := [.int .i64 0, .int .i64 0, .int .i64 0, .int .i64 0]) (Own.push (T := 41) (ls := [iv df, iv cz, iv di, iv dh]) (cs := [.int .i64 df, .int .i64 cz, .int .i64 di, .int .i64 dh]) (Own.nil w) (gu.v (jm _) (gu.v (jm _) (gu.v (jm _) (gu.v (jm _) rfl)))) (w.heap.size) rfl) (((gu.vs w [.int .i64 0, .int .i64 0, .int .i64 0, .int .i64 0] rfl) : gu w zS [.int .i64 0, .int .i64 0, .int .i64 0, .int .i64 0]).below (by repeat (first | exact Below.refl _ _ | refine jc ?_ _))) (w.heap.size + 1) (by simp only [World.size_alloc]))
 generalize (w.alloc (.cells #[.int .i64 df, .int .i64 cz, .int .i64 di, .int .i64 dh] 41)).alloc (.cells #[.int .i64 0, .int .i64 0, .int .i64 0, .int .i64 0] 41) = W0 at *
 have HO := hide hO
 clear hO
 by_cases g1 : xy df cz di dh
 ·
  by_cases g2 : n < 0
  ·
   have k1 : decide (xy df cz di dh) = true := decide_eq_true g1
   have k2 : decide (n < 0) = true := decide_eq_true g2
   go_upto_region 1 with fail
   refine Rg.dz 16 34 (Rg.pick [ai [iv df, iv cz, iv di, iv dh], Rg.ax (.bool true), Rg.ax (.bool false), Rg.ax (.bool false), Rg.ax (.int .i64 n), Rg.ax (.bool true), Rg.ax (.bool true), Rg.ax (.bool true), Rg.ax undef, Rg.ax undef, Rg.ax (.bool true), Rg.ax (.bool true), Rg.ax undef, Rg.ax undef, Rg.ax undef, Rg.ax (.bool true)]) (az w _ W0) gm [] kr rfl (Rg.fq.pick ⟨au _, Rg.ae _, Rg.ae _, Rg.ae _, Rg.ae _, Rg.ae _, Rg.ae _, Rg.ae _, Rg.ae _, Rg.ae _, Rg.ae _, Rg.ae _, Rg.ae _, Rg.ae _, Rg.ae _, Rg.ae _, trivial⟩) (az.begin (aa HO))
    (ag (fw oh ky aF [] [iv df, iv cz, iv di, iv dh] [])
    (ag (sc1 Tryz.func85 (aT 0) (fun W v0 hG h0 => k1 ▸ Iu W _ h0))
    (ag (Bh rfl (aT 1) rfl rfl)
    (ag (dm rfl (aT 2))
    (Rg.ay (Rg.fe (d := 11) rfl kr rfl (dm rfl aF))
    (Rg.ay (Rg.fe (d := 11) rfl kr rfl (Aq rfl (aT 4) (Rg.je _) rfl k2))
    (ag (qi rfl (aT 3) (aT 5))
    (ag (dm rfl (aT 6))
    (Rg.ay (Rg.jb (d := 15) rfl kr rfl rfl iy rfl rfl)
    (Rg.ay (Rg.jb (d := 15) rfl kr rfl rfl iy rfl rfl)
    (ag (mr rfl (aT 7) (Rg.je _))
    (ag (dm rfl (aT 10))
    (Rg.ay (Rg.jb (d := 19) rfl kr rfl rfl iy rfl rfl)
    (Rg.ay (Rg.jb (d := 19) rfl kr rfl rfl iy rfl rfl)
    (Rg.ay (Rg.jb (d := 19) rfl kr rfl rfl iy rfl rfl)
    (ag (mr rfl (aT 11) (Rg.je _))
    Rg.bg)))))))))))))))) ?_
   intro v1 V1 hG1 hv1 hne1
   simp only [Rg.puts, Act.put, tA]
   have e15 : v1 15 = .bool true := hv1 15 (by decide)
   simp only [e15]
   have hO := hG1.1
   clear HO
   have HO := hide hO
   clear hO hG1 hv1 hne1
   try clear e15
   have hr := (aa HR).1 (fun h => absurd h.2.1 om)
   clear HR
   subst hr
   go_upto_region 2 with fail
   refine Rg.dz 1 34 (Rg.pick [ai zS]) (az w _ V1) gm [] kr rfl (Rg.fq.pick ⟨au _, trivial⟩) (az.begin (aa HO))
    (ag (ui uj rfl rfl rfl)
    Rg.bg) ?_
   intro v2 V2 hG2 hv2 hne2
   simp only [Rg.puts, Act.put, tA]
   have hO := hG2.1
   refine jd hO 0 [] zS zS [] rfl mg rfl (show ai zS V2 (v2 0) from hv2 0 (by decide)) rfl rfl rfl ?_
   intro yg gy hk0
   replace hO := gy
   clear gy
   clear HO
   have HO := hide hO
   clear hO hG2 hv2 hne2 hk0
   go_wp2_with fail
   exact yz Tryz.results34 qg rfl rfl (aa HO) me0 rfl rfl
  ·
   by_cases g3 : 12 < n
   ·
    have k1 : decide (xy df cz di dh) = true := decide_eq_true g1
    have k2 : decide (n < 0) = false := decide_eq_false g2
    have k3 : decide (12 < n) = true := decide_eq_true g3
    go_upto_region 1 with fail
    refine Rg.dz 16 34 (Rg.pick [ai [iv df, iv cz, iv di, iv dh], Rg.ax (.bool true), Rg.ax (.bool false), Rg.ax (.bool false), Rg.ax (.int .i64 n), Rg.ax (.bool false), Rg.ax (.bool false), Rg.ax (.bool false), Rg.ax (.int .i64 n), Rg.ax (.bool true), Rg.ax (.bool true), Rg.ax (.bool true), Rg.ax undef, Rg.ax undef, Rg.ax undef, Rg.ax (.bool true)]) (az w _ W0) gm [] kr rfl (Rg.fq.pick ⟨au _, Rg.ae _, Rg.ae _, Rg.ae _, Rg.ae _, Rg.ae _, Rg.ae _, Rg.ae _, Rg.ae _, Rg.ae _, Rg.ae _, Rg.ae _, Rg.ae _, Rg.ae _, Rg.ae _, Rg.ae _, trivial⟩) (az.begin (aa HO))
     (ag (fw oh ky aF [] [iv df, iv cz, iv di, iv dh] [])
     (ag (sc1 Tryz.func85 (aT 0) (fun W v0 hG h0 => k1 ▸ Iu W _ h0))
     (ag (Bh rfl (aT 1) rfl rfl)
     (ag (dm rfl (aT 2))
     (Rg.ay (Rg.fe (d := 11) rfl kr rfl (dm rfl aF))
     (Rg.ay (Rg.fe (d := 11) rfl kr rfl (Aq rfl (aT 4) (Rg.je _) rfl k2))
     (ag (qi rfl (aT 3) (aT 5))
     (ag (dm rfl (aT 6))
     (Rg.ay (Rg.fe (d := 15) rfl kr rfl (dm rfl aF))
     (Rg.ay (Rg.fe (d := 15) rfl kr rfl (Bj rfl (aT 8) (Rg.je _) rfl k3))
     (ag (qi rfl (aT 7) (aT 9))
     (ag (dm rfl (aT 10))
     (Rg.ay (Rg.jb (d := 19) rfl kr rfl rfl iy rfl rfl)
     (Rg.ay (Rg.jb (d := 19) rfl kr rfl rfl iy rfl rfl)
     (Rg.ay (Rg.jb (d := 19) rfl kr rfl rfl iy rfl rfl)
     (ag (mr rfl (aT 11) (Rg.je _))
     Rg.bg)))))))))))))))) ?_
    intro v1 V1 hG1 hv1 hne1
    simp only [Rg.puts, Act.put, tA]
    have e15 : v1 15 = .bool true := hv1 15 (by decide)
    simp only [e15]
    have hO := hG1.1
    clear HO
    have HO := hide hO
    clear hO hG1 hv1 hne1
    try clear e15
    have hr := (aa HR).1 (fun h => absurd h.2.2.1 om)
    clear HR
    subst hr
    go_upto_region 2 with fail
    refine Rg.dz 1 34 (Rg.pick [ai zS]) (az w _ V1) gm [] kr rfl (Rg.fq.pick ⟨au _, trivial⟩) (az.begin (aa HO))
     (ag (ui uj rfl rfl rfl)
     Rg.bg) ?_
    intro v2 V2 hG2 hv2 hne2
    simp only [Rg.puts, Act.put, tA]
    have hO := hG2.1
    refine jd hO 0 [] zS zS [] rfl mg rfl (show ai zS V2 (v2 0) from hv2 0 (by decide)) rfl rfl rfl ?_
    intro yg gy hk0
    replace hO := gy
    clear gy
    clear HO
    have HO := hide hO
    clear hO hG2 hv2 hne2 hk0
    go_wp2_with fail
    exact yz Tryz.results34 qg rfl rfl (aa HO) me0 rfl rfl
   ·
    by_cases g4 : 1 ≤ g ∧ g ≤ 1000000
    ·
     have k1 : decide (xy df cz di dh) = true := decide_eq_true g1
     have k2 : decide (n < 0) = false := decide_eq_false g2
     have k3 : decide (12 < n) = false := decide_eq_false g3
     go_upto_region 1 with fail
     refine Rg.dz 16 34 (Rg.pick [ai [iv df, iv cz, iv di, iv dh], Rg.ax (.bool true), Rg.ax (.bool false), Rg.ax (.bool false), Rg.ax (.int .i64 n), Rg.ax (.bool false), Rg.ax (.bool false), Rg.ax (.bool false), Rg.ax (.int .i64 n), Rg.ax (.bool false), Rg.ax (.bool false), Rg.ax (.bool false), Rg.ax (.int .i64 g), Rg.ax (.bool true), Rg.ax (.bool false), Rg.ax (.bool false)]) (az w _ W0) gm [] kr rfl (Rg.fq.pick ⟨au _, Rg.ae _, Rg.ae _, Rg.ae _, Rg.ae _, Rg.ae _, Rg.ae _, Rg.ae _, Rg.ae _, Rg.ae _, Rg.ae _, Rg.ae _, Rg.ae _, Rg.ae _, Rg.ae _, Rg.ae _, trivial⟩) (az.begin (aa HO))
      (ag (fw oh ky aF [] [iv df, iv cz, iv di, iv dh] [])
      (ag (sc1 Tryz.func85 (aT 0) (fun W v0 hG h0 => k1 ▸ Iu W _ h0))
      (ag (Bh rfl (aT 1) rfl rfl)
      (ag (dm rfl (aT 2))
      (Rg.ay (Rg.fe (d := 11) rfl kr rfl (dm rfl aF))
      (Rg.ay (Rg.fe (d := 11) rfl kr rfl (Aq rfl (aT 4) (Rg.je _) rfl k2))
      (ag (qi rfl (aT 3) (aT 5))
      (ag (dm rfl (aT 6))
      (Rg.ay (Rg.fe (d := 15) rfl kr rfl (dm rfl aF))
      (Rg.ay (Rg.fe (d := 15) rfl kr rfl (Bj rfl (aT 8) (Rg.je _) rfl k3))
      (ag (qi rfl (aT 7) (aT 9))
      (ag (dm rfl (aT 10))
      (Rg.ay (Rg.fe (d := 19) rfl kr rfl (dm rfl aF))
      (Rg.ay (Rg.fe (d := 19) rfl kr rfl (wh Tryz.func65 kr rfl az.step (aT 12) (fun W v0 hG h0 => by cases h0; exact (Qf g true (decide_eq_true g4).symm W).mono fun e w' h => ⟨_, h.1, h.2 ▸ Below.refl _ _, rfl⟩)))
      (Rg.ay (Rg.fe (d := 19) rfl kr rfl (Bh rfl (aT 13) rfl rfl))
      (ag (qi rfl (aT 11) (aT 14))
      Rg.bg)))))))))))))))) ?_
     intro v1 V1 hG1 hv1 hne1
     simp only [Rg.puts, Act.put, tA]
     have e15 : v1 15 = .bool false := hv1 15 (by decide)
     simp only [e15]
     have hO := hG1.1
     clear HO
     have HO := hide hO
     clear hO hG1 hv1 hne1
     try clear e15
     have HT2 := hide ((aa HR).2 ⟨g1, by omega, by omega, g4⟩)
     have HN := hide ((aa HM) om)
     have H12 := hide (show m ≤ 12 by have := aa HN; omega)
     have HQ := hide (And.intro g1 g4)
     clear HR HM g1 g2 g3 g4 k1 k2 k3
     go_upto_region 3 with fail
     refine Rg.dz 9 34 (Rg.pick [ai [iv df, iv cz, iv di, iv dh], ai [.r (Wd.qR df cz), .r (Wd.qR di dh)], Rg.ax (.int .i64 n), ai [.r X, .r Y], Rg.ax (.int .i64 g), ai [.r (xw X g), .r (Dj Y g)], qa [ai [iv t.a, iv t.b, iv t.c, iv t.d], Rg.ax (.int .i64 t.e)], ai [iv t.a, iv t.b, iv t.c, iv t.d], Rg.ax (.int .i64 t.e)]) (az w _ V1) gm [] kr rfl (Rg.fq.pick ⟨au _, au _, Rg.ae _, au _, Rg.ae _, au _, ko ⟨(au _), (Rg.ae _), trivial⟩, au _, Rg.ae _, trivial⟩) (az.begin (aa HO))
      (ag (fw oh ky aF [] [iv df, iv cz, iv di, iv dh] [])
      (ag (sc1 Tryz.func86 (aT 0) (fun W v0 hG h0 => aen ⟨(aa HQ).1.1, (aa HQ).1.2.1⟩ W _ h0))
      (ag (dm rfl aF)
      (ag (sc2 Tryz.func100 (aT 1) (aT 2) (fun W v0 v1 hG h0 h1 => by cases h1; rw [aa HN]; exact aae (aa HX).1 (aa HX).2 (arb (Bq (aa HQ).1.1) (Bq (aa HQ).1.2.1) (aa H12) W _ h0)))
      (ag (dm rfl aF)
      (ag (sc2 Tryz.func93 (aT 3) (aT 4) (fun W v0 v1 hG h0 h1 => by cases h1; exact akc (K := 24) ((aa HX).1 ▸ (ajp (Bq (aa HQ).1.1) (Bq (aa HQ).1.2.1) (aa H12)).1) ((aa HX).2 ▸ (ajp (Bq (aa HQ).1.1) (Bq (aa HQ).1.2.1) (aa H12)).2) (aa HQ).2.1 (aa HQ).2.2 om W _ h0))
      (ag (sc1 Tryz.func92 (aT 5) (fun W v0 hG h0 => aac (aa HT2) (akd W _ h0)))
      (ag (ma (ts := [ai [iv t.a, iv t.b, iv t.c, iv t.d], Rg.ax (.int .i64 t.e)]) rfl (aT 6) (of_decide_eq_true rfl) rfl)
      (ag (ma (ts := [ai [iv t.a, iv t.b, iv t.c, iv t.d], Rg.ax (.int .i64 t.e)]) rfl (aT 6) (of_decide_eq_true rfl) rfl)
      Rg.bg))))))))) ?_
     intro v2 V2 hG2 hv2 hne2
     simp only [Rg.puts, Act.put, tA]
     have e8 : v2 8 = .int .i64 t.e := hv2 8 (by decide)
     simp only [e8]
     have hO := hG2.1
     refine jd hO 0 [] zS [iv t.a, iv t.b, iv t.c, iv t.d] [] rfl mg rfl (show ai [iv t.a, iv t.b, iv t.c, iv t.d] V2 (v2 7) from hv2 7 (by decide)) rfl rfl rfl ?_
     intro yg gy hk0
     replace hO := gy
     clear gy
     clear HO
     have HO := hide hO
     clear hO hG2 hv2 hne2 hk0
     try clear e8
     go_wp2_with fail
     exact yz Tryz.results34 qg rfl rfl (aa HO) me0 rfl rfl
    ·
     have k1 : decide (xy df cz di dh) = true := decide_eq_true g1
     have k2 : decide (n < 0) = false := decide_eq_false g2
     have k3 : decide (12 < n) = false := decide_eq_false g3
     go_upto_region 1 with fail
     refine Rg.dz 16 34 (Rg.pick [ai [iv df, iv cz, iv di, iv dh], Rg.ax (.bool true), Rg.ax (.bool false), Rg.ax (.bool false), Rg.ax (.int .i64 n), Rg.ax (.bool false), Rg.ax (.bool false), Rg.ax (.bool false), Rg.ax (.int .i64 n), Rg.ax (.bool false), Rg.ax (.bool false), Rg.ax (.bool false), Rg.ax (.int .i64 g), Rg.ax (.bool false), Rg.ax (.bool true), Rg.ax (.bool true)]) (az w _ W0) gm [] kr rfl (Rg.fq.pick ⟨au _, Rg.ae _, Rg.ae _, Rg.ae _, Rg.ae _, Rg.ae _, Rg.ae _, Rg.ae _, Rg.ae _, Rg.ae _, Rg.ae _, Rg.ae _, Rg.ae _, Rg.ae _, Rg.ae _, Rg.ae _, trivial⟩) (az.begin (aa HO))
      (ag (fw oh ky aF [] [iv df, iv cz, iv di, iv dh] [])
      (ag (sc1 Tryz.func85 (aT 0) (fun W v0 hG h0 => k1 ▸ Iu W _ h0))
      (ag (Bh rfl (aT 1) rfl rfl)
      (ag (dm rfl (aT 2))
      (Rg.ay (Rg.fe (d := 11) rfl kr rfl (dm rfl aF))
      (Rg.ay (Rg.fe (d := 11) rfl kr rfl (Aq rfl (aT 4) (Rg.je _) rfl k2))
      (ag (qi rfl (aT 3) (aT 5))
      (ag (dm rfl (aT 6))
      (Rg.ay (Rg.fe (d := 15) rfl kr rfl (dm rfl aF))
      (Rg.ay (Rg.fe (d := 15) rfl kr rfl (Bj rfl (aT 8) (Rg.je _) rfl k3))
      (ag (qi rfl (aT 7) (aT 9))
      (ag (dm rfl (aT 10))
      (Rg.ay (Rg.fe (d := 19) rfl kr rfl (dm rfl aF))
      (Rg.ay (Rg.fe (d := 19) rfl kr rfl (wh Tryz.func65 kr rfl az.step (aT 12) (fun W v0 hG h0 => by cases h0; exact (Qf g false (decide_eq_false g4).symm W).mono fun e w' h => ⟨_, h.1, h.2 ▸ Below.refl _ _, rfl⟩)))
      (Rg.ay (Rg.fe (d := 19) rfl kr rfl (Bh rfl (aT 13) rfl rfl))
      (ag (qi rfl (aT 11) (aT 14))
      Rg.bg)))))))))))))))) ?_
     intro v1 V1 hG1 hv1 hne1
     simp only [Rg.puts, Act.put, tA]
     have e15 : v1 15 = .bool true := hv1 15 (by decide)
     simp only [e15]
     have hO := hG1.1
     clear HO
     have HO := hide hO
     clear hO hG1 hv1 hne1
     try clear e15
     have hr := (aa HR).1 (fun h => g4 h.2.2.2)
     clear HR
     subst hr
     go_upto_region 2 with fail
     refine Rg.dz 1 34 (Rg.pick [ai zS]) (az w _ V1) gm [] kr rfl (Rg.fq.pick ⟨au _, trivial⟩) (az.begin (aa HO))
      (ag (ui uj rfl rfl rfl)
      Rg.bg) ?_
     intro v2 V2 hG2 hv2 hne2
     simp only [Rg.puts, Act.put, tA]
     have hO := hG2.1
     refine jd hO 0 [] zS zS [] rfl mg rfl (show ai zS V2 (v2 0) from hv2 0 (by decide)) rfl rfl rfl ?_
     intro yg gy hk0
     replace hO := gy
     clear gy
     clear HO
     have HO := hide hO
     clear hO hG2 hv2 hne2 hk0
     go_wp2_with fail
     exact yz Tryz.results34 qg rfl rfl (aa HO) me0 rfl rfl
 ·
  have k1 : decide (xy df cz di dh) = false := decide_eq_false g1
  go_upto_region 1 with fail
  refine Rg.dz 16 34 (Rg.pick [ai [iv df, iv cz, iv di, iv dh], Rg.ax (.bool false), Rg.ax (.bool true), Rg.ax (.bool true), Rg.ax undef, Rg.ax undef, Rg.ax (.bool true), Rg.ax (.bool true), Rg.ax undef, Rg.ax undef, Rg.ax (.bool true), Rg.ax (.bool true), Rg.ax undef, Rg.ax undef, Rg.ax undef, Rg.ax (.bool true)]) (az w _ W0) gm [] kr rfl (Rg.fq.pick ⟨au _, Rg.ae _, Rg.ae _, Rg.ae _, Rg.ae _, Rg.ae _, Rg.ae _, Rg.ae _, Rg.ae _, Rg.ae _, Rg.ae _, Rg.ae _, Rg.ae _, Rg.ae _, Rg.ae _, Rg.ae _, trivial⟩) (az.begin (aa HO))
   (ag (fw oh ky aF [] [iv df, iv cz, iv di, iv dh] [])
   (ag (sc1 Tryz.func85 (aT 0) (fun W v0 hG h0 => k1 ▸ Iu W _ h0))
   (ag (Bh rfl (aT 1) rfl rfl)
   (ag (dm rfl (aT 2))
   (Rg.ay (Rg.jb (d := 11) rfl kr rfl rfl iy rfl rfl)
   (Rg.ay (Rg.jb (d := 11) rfl kr rfl rfl iy rfl rfl)
   (ag (mr rfl (aT 3) (Rg.je _))
   (ag (dm rfl (aT 6))
   (Rg.ay (Rg.jb (d := 15) rfl kr rfl rfl iy rfl rfl)
   (Rg.ay (Rg.jb (d := 15) rfl kr rfl rfl iy rfl rfl)
   (ag (mr rfl (aT 7) (Rg.je _))
   (ag (dm rfl (aT 10))
   (Rg.ay (Rg.jb (d := 19) rfl kr rfl rfl iy rfl rfl)
   (Rg.ay (Rg.jb (d := 19) rfl kr rfl rfl iy rfl rfl)
   (Rg.ay (Rg.jb (d := 19) rfl kr rfl rfl iy rfl rfl)
   (ag (mr rfl (aT 11) (Rg.je _))
   Rg.bg)))))))))))))))) ?_
  intro v1 V1 hG1 hv1 hne1
  simp only [Rg.puts, Act.put, tA]
  have e15 : v1 15 = .bool true := hv1 15 (by decide)
  simp only [e15]
  have hO := hG1.1
  clear HO
  have HO := hide hO
  clear hO hG1 hv1 hne1
  try clear e15
  have hr := (aa HR).1 (fun h => g1 h.1)
  clear HR
  subst hr
  go_upto_region 2 with fail
  refine Rg.dz 1 34 (Rg.pick [ai zS]) (az w _ V1) gm [] kr rfl (Rg.fq.pick ⟨au _, trivial⟩) (az.begin (aa HO))
   (ag (ui uj rfl rfl rfl)
   Rg.bg) ?_
  intro v2 V2 hG2 hv2 hne2
  simp only [Rg.puts, Act.put, tA]
  have hO := hG2.1
  refine jd hO 0 [] zS zS [] rfl mg rfl (show ai zS V2 (v2 0) from hv2 0 (by decide)) rfl rfl rfl ?_
  intro yg gy hk0
  replace hO := gy
  clear gy
  clear HO
  have HO := hide hO
  clear hO hG2 hv2 hne2 hk0
  go_wp2_with fail
  exact yz Tryz.results34 qg rfl rfl (aa HO) me0 rfl rfl
theorem asu : qd (2 + 2 + 1) (Rat.divInt 1 2) := ⟨Sr (by omega) (Wd.Sz.of_le (by rw [gp]; omega) Ha om) (Wd.Sz.of_le (by rw [gp]; omega) Ha om), by omega⟩
theorem adu {x y M : Rat} (sx : qd 2 x) (sy : qd 2 y) (hM : (x + y) * Rat.divInt 1 2 = M) (w : World) (u0 : Value) (h0 : ai [.r x, .r y] w u0) :
  Calls Tryz.prog 103 #[u0] w (il (ai [.r M]) w) := by
 have HS := hide (And.intro sx (And.intro sy (show qd (2 + 2 + 1) (x + y) from sx.add sy (by decide))))
 have HM := hide hM
 clear sx sy hM
 obtain ⟨ru, c0a, rq, Ee, Mx, Mm, Mf, uy, vg, c0b, ve, Ff, Qx, Qr, Qn, ym, rfl, f0a, Aw⟩ := Wm h0
 go_enter Tryz.func103, Tryz.ntmps103
 go_upto_region 1 with fail
 have hO := (Own.push (T := 63) (ls := zX) (cs := [.slice none 0 0, .bool false, .slice none 0 0, .bool false]) (Own.push (T := 100) (ls := [.r x, .r y]) (cs := [.slice ru (List.length rq) c0a, .bool Ee, .slice Mx (List.length Mf) Mm, .bool uy, .slice vg (List.length ve) c0b, .bool Ff, .slice Qx (List.length Qn) Qr, .bool ym]) (Own.nil w) (gu.r f0a (gu.r Aw rfl)) (w.heap.size) rfl) (((gu.vs w [.slice none 0 0, .bool false, .slice none 0 0, .bool false] rfl) : gu w zX [.slice none 0 0, .bool false, .slice none 0 0, .bool false]).below (by repeat (first | exact Below.refl _ _ | refine jc ?_ _))) (w.heap.size + 1) (by simp only [World.size_alloc]))
 generalize (w.alloc (.cells #[.slice ru (List.length rq) c0a, .bool Ee, .slice Mx (List.length Mf) Mm, .bool uy, .slice vg (List.length ve) c0b, .bool Ff, .slice Qx (List.length Qn) Qr, .bool ym] 100)).alloc (.cells #[.slice none 0 0, .bool false, .slice none 0 0, .bool false] 63) = W0 at *
 have HO := hide hO
 clear hO
 go_upto_region 1 with fail
 refine Rg.dz 7 10 (Rg.pick [Rg.ax (.pointer (some ⟨w.heap.size, 0, none⟩)), ai [.r x], Rg.ax (.pointer (some ⟨w.heap.size, 4, none⟩)), ai [.r y], ai [.r (x + y)], ai [.r (Rat.divInt 1 2)], ai [.r M]]) (az w _ W0) gm [] kr rfl (Rg.fq.pick ⟨Rg.ae _, au _, Rg.ae _, au _, au _, au _, au _, trivial⟩) (az.begin (aa HO))
  (ag (zf (b := w.heap.size) (off := 0) rfl aF rfl rfl)
  (ag (fw ll ky (aT 0) [] [.r x] [.r y])
  (ag (xm (b := w.heap.size) (off := 0) rfl aF rfl rfl)
  (ag (fw ll ky (aT 2) [.r x] [.r y] [])
  (ag (sc2 Tryz.func50 (aT 1) (aT 3) (fun W v0 v1 hG h0 h1 => bfz (aa HS).1 (aa HS).2.1 h0 h1))
  (ag (sc2 Tryz.func132 (Rg.je _) (Rg.je _) (fun W v0 v1 hG h0 h1 => by cases h0; cases h1; exact (aob 1 2 W om om om om om).mono fun e w' h => Jw (Ih h)))
  (ag (sc2 Tryz.func52 (aT 4) (aT 5) (fun W v0 v1 hG h0 h1 => atm (aa HM) (aek (K := 2 + 2 + 1) (aa HS).2.2 asu h0 h1)))
  Rg.bg))))))) ?_
 intro v1 V1 hG1 hv1 hne1
 simp only [Rg.puts, Act.put, tA]
 have hO := hG1.1
 refine jd hO 0 [] zX [.r M] [] rfl Bp rfl (show ai [.r M] V1 (v1 6) from hv1 6 (by decide)) rfl rfl rfl ?_
 intro uo gy hk0
 replace hO := gy
 clear gy
 clear HO
 have HO := hide hO
 clear hO hG1 hv1 hne1 hk0
 go_wp2_with fail
 exact xu Tryz.results103 Gd rfl (aa HO) me0 rfl rfl
theorem afk {df cz di dh : Int} {M : Rat} (s1 s2 s3 s4 s5 s6 s7 s8 se : Int) (w : World) (u0 : Value) (h0 : ai [iv df, iv cz, iv di, iv dh] w u0)
  (hM : ((Wd.qR df cz) + (Wd.qR di dh)) * Rat.divInt 1 2 = M)
  (hr : (¬ xy df cz di dh → s1 = 0 ∧ s2 = 0 ∧ s3 = 0 ∧ s4 = 0 ∧ s5 = 0 ∧ s6 = 0 ∧ s7 = 0 ∧ s8 = 0 ∧ 1 = se) ∧ (xy df cz di dh → (¬ Wd.fits M → s1 = 0 ∧ s2 = 0 ∧ s3 = 0 ∧ s4 = 0 ∧ s5 = 0 ∧ s6 = 0 ∧ s7 = 0 ∧ s8 = 0 ∧ 3 = se) ∧ (Wd.fits M → df = s1 ∧ cz = s2 ∧ M.num = s3 ∧ (M.den : Int) = s4 ∧ M.num = s5 ∧ (M.den : Int) = s6 ∧ di = s7 ∧ dh = s8 ∧ se = 0))) :
  Calls Tryz.prog 36 #[u0] w (il (qa [ai [.v (.int .i64 s1), .v (.int .i64 s2), .v (.int .i64 s3), .v (.int .i64 s4)], ai [.v (.int .i64 s5), .v (.int .i64 s6), .v (.int .i64 s7), .v (.int .i64 s8)], Rg.ax (.int .i64 se)]) w) := by
 have HM := hide hM
 have HR := hide hr
 clear hM hr
 have hu0 := Bg h0
 subst hu0
 go_enter Tryz.func36, Tryz.ntmps36
 go_upto_region 1 with fail
 have hO := (Own.push (T := 41) (ls := zS) (cs := [.int .i64 0, .int .i64 0, .int .i64 0, .int .i64 0]) (Own.push (T := 41) (ls := zS) (cs := [.int .i64 0, .int .i64 0, .int .i64 0, .int .i64 0]) (Own.push (T := 41) (ls := [iv df, iv cz, iv di, iv dh]) (cs := [.int .i64 df, .int .i64 cz, .int .i64 di, .int .i64 dh]) (Own.nil w) (gu.v (jm _) (gu.v (jm _) (gu.v (jm _) (gu.v (jm _) rfl)))) (w.heap.size) rfl) (((gu.vs w [.int .i64 0, .int .i64 0, .int .i64 0, .int .i64 0] rfl) : gu w zS [.int .i64 0, .int .i64 0, .int .i64 0, .int .i64 0]).below (by repeat (first | exact Below.refl _ _ | refine jc ?_ _))) (w.heap.size + 1) (by simp only [World.size_alloc])) (((gu.vs w [.int .i64 0, .int .i64 0, .int .i64 0, .int .i64 0] rfl) : gu w zS [.int .i64 0, .int .i64 0, .int .i64 0, .int .i64 0]).below (by repeat (first | exact Below.refl _ _ | refine jc ?_ _))) (w.heap.size + 2) (by simp only [World.size_alloc]))
 generalize ((w.alloc (.cells #[.int .i64 df, .int .i64 cz, .int .i64 di, .int .i64 dh] 41)).alloc (.cells #[.int .i64 0, .int .i64 0, .int .i64 0, .int .i64 0] 41)).alloc (.cells #[.int .i64 0, .int .i64 0, .int .i64 0, .int .i64 0] 41) = W0 at *
 have HO := hide hO
 clear hO
 by_cases g0 : xy df cz di dh
 ·
  have k1 : decide (xy df cz di dh) = true := decide_eq_true g0
  have HR2 := hide ((aa HR).2 g0)
  have HQ := hide g0
  clear HR
  go_upto_region 1 with fail
  refine Rg.dz 3 31 (Rg.pick [ai [iv df, iv cz, iv di, iv dh], Rg.ax (.bool true), Rg.ax (.bool false)]) (az w _ W0) gm [] kr rfl (Rg.fq.pick ⟨au _, Rg.ae _, Rg.ae _, trivial⟩) (az.begin (aa HO))
   (ag (fw oh rf aF [] [iv df, iv cz, iv di, iv dh] [])
   (ag (sc1 Tryz.func85 (aT 0) (fun W v0 hG h0 => k1 ▸ Iu W _ h0))
   (ag (Bh rfl (aT 1) rfl rfl)
   Rg.bg))) ?_
  intro v1 V1 hG1 hv1 hne1
  simp only [Rg.puts, Act.put, tA]
  have e2 : v1 2 = .bool false := hv1 2 (by decide)
  simp only [e2]
  have hO := hG1.1
  clear HO
  have HO := hide hO
  clear hO hG1 hv1 hne1
  try clear e2
  clear k1 g0
  by_cases g1 : Wd.fits M
  ·
   obtain ⟨h1, h2, h3, h4, h5, h6, h7, h8, rfl⟩ := (aa HR2).2 g1
   clear HR2
   subst h1 h2 h3 h4 h5 h6 h7 h8
   have HF := hide g1
   clear g1
   go_upto_region 3 with fail
   refine Rg.dz 8 31 (Rg.pick [ai [iv df, iv cz, iv di, iv dh], ai [.r (Wd.qR df cz), .r (Wd.qR di dh)], ai [.r M], qa [ai [iv M.num, iv (M.den : Int)], Rg.ax (.bool true)], qa [ai [iv M.num, iv (M.den : Int)], Rg.ax (.bool true)], ai [iv M.num, iv (M.den : Int)], Rg.ax (.bool true), qf 23 zR V1.heap.size]) (az w _ V1) gm [7] kr rfl (Rg.fq.pick ⟨au _, au _, au _, ko ⟨(au _), (Rg.ae _), trivial⟩, ko ⟨(au _), (Rg.ae _), trivial⟩, au _, Rg.ae _, qh _ _ _, trivial⟩) (az.begin (aa HO))
    (ag (fw oh rf aF [] [iv df, iv cz, iv di, iv dh] [])
    (ag (sc1 Tryz.func86 (aT 0) (fun W v0 hG h0 => aen ⟨(aa HQ).1, (aa HQ).2.1⟩ W _ h0))
    (ag (sc1 Tryz.func103 (aT 1) (fun W v0 hG h0 => adu (Bq (aa HQ).1) (Bq (aa HQ).2.1) (aa HM) W _ h0))
    (ag (sc1 Tryz.func102 (aT 2) (fun W v0 hG h0 => Ow (aa HF) h0))
    (ag (dm rfl (aT 3))
    (ag (ma (ts := [ai [iv M.num, iv (M.den : Int)], Rg.ax (.bool true)]) rfl (aT 4) (of_decide_eq_true rfl) rfl)
    (ag (ma (ts := [ai [iv M.num, iv (M.den : Int)], Rg.ax (.bool true)]) rfl (aT 4) (of_decide_eq_true rfl) rfl)
    (ag (si Hq rfl az.step az.size rfl (uw (by intro j hj; simp at hj; (repeat' (first | (rcases hj with rfl | hj))) <;> first | (subst hj; exact ⟨_, _, _, rfl⟩) | exact ⟨_, _, _, rfl⟩)))
    Rg.bg)))))))) ?_
   intro v2 V2 hG2 hv2 hne2
   simp only [Rg.puts, Act.put, tA]
   have e6 : v2 6 = .bool true := hv2 6 (by decide)
   obtain ⟨Pw, e7, Kc, Qo⟩ := (show qf 23 zR V1.heap.size V2 (v2 7) from hv2 7 (by decide))
   simp only [e6, e7]
   have hO := hG2.1
   replace hO := Own.add (aa HO) hG2.2 Kc Qo
   clear Kc Qo
   refine jd hO 0 [] zR [iv M.num, iv (M.den : Int)] [] rfl Di rfl (show ai [iv M.num, iv (M.den : Int)] V2 (v2 5) from hv2 5 (by decide)) rfl rfl rfl ?_
   intro yg gy hk0
   replace hO := gy
   clear gy
   clear HO
   have HO := hide hO
   clear hO hG2 hv2 hne2 hk0
   try clear e6 e7
   go_upto_region 4 with fail
   refine Rg.dz 2 31 (Rg.pick [Rg.ax (.bool true), Rg.ax (.bool false)]) (az w _ yg) gm [] kr rfl (Rg.fq.pick ⟨Rg.ae _, Rg.ae _, trivial⟩) (az.begin (aa HO))
    (ag (dm rfl aF)
    (ag (Bh rfl (aT 0) rfl rfl)
    Rg.bg)) ?_
   intro v3 V3 hG3 hv3 mf
   simp only [Rg.puts, Act.put, tA]
   have e1 : v3 1 = .bool false := hv3 1 (by decide)
   simp only [e1]
   have hO := hG3.1
   clear HO
   have HO := hide hO
   clear hO hG3 hv3 mf
   try clear e1
   go_upto_region 6 with fail
   refine Rg.region 11 31 (Rg.pick [Rg.ax (.pointer (some ⟨w.heap.size, 0, none⟩)), ai [iv df, iv cz], ai [iv M.num, iv (M.den : Int)], ai [iv df, iv cz, iv M.num, iv (M.den : Int)], ai [iv M.num, iv (M.den : Int)], Rg.ax (.pointer (some ⟨w.heap.size, 2, none⟩)), ai [iv di, iv dh], ai [iv M.num, iv (M.den : Int), iv di, iv dh], Wo (w.heap.size + 1, 41, [iv df, iv cz, iv M.num, iv (M.den : Int)]), Wo (w.heap.size + 2, 41, [iv M.num, iv (M.den : Int), iv di, iv dh]), Rg.ax (.int .i64 0)]) (GS w [(Pw, 23, [iv M.num, iv (M.den : Int)]), (w.heap.size + 2, 41, zS), (w.heap.size + 1, 41, zS), (w.heap.size, 41, [iv df, iv cz, iv di, iv dh])] (w.heap.size + 1, 41, [iv df, iv cz, iv M.num, iv (M.den : Int)]) (w.heap.size + 2, 41, [iv M.num, iv (M.den : Int), iv di, iv dh])) (ES (w.heap.size + 1, 41, [iv df, iv cz, iv M.num, iv (M.den : Int)]) (w.heap.size + 2, 41, [iv M.num, iv (M.den : Int), iv di, iv dh])) [] kr kr rfl (Rg.fq.pick ⟨(Dk _), (tq _), (tq _), (tq _), (tq _), (Dk _), (tq _), (tq _), (Fq (.inl (by show (w.heap.size + 1 : Nat) ≠ w.heap.size + 2; omega)) (.inl rfl)), (Fq (.inl (by show (w.heap.size + 1 : Nat) ≠ w.heap.size + 2; omega)) (.inr rfl)), (Dk _), trivial⟩) (GS.start (aa HO))
    (Rg.ay (Rg.plain rfl (mq (Cm (b := w.heap.size) (off := 0) rfl aF rfl rfl)))
     (Rg.ay (Rg.plain rfl (mq (xk (b := w.heap.size) (off := 0) (TB := 41) (pre := []) (mid := [iv df, iv cz]) (post := [iv di, iv dh]) xc rfl (aT 0) (fun W h => GS.get Ed (fun h => absurd (show (w.heap.size + 1 : Nat) = w.heap.size from h) (by first | omega | (intro h; exact (own_ne (aa HO) 2 3 rfl rfl (by decide)) h))) (fun h => absurd (show (w.heap.size + 2 : Nat) = w.heap.size from h) (by first | omega | (intro h; exact (own_ne (aa HO) 1 3 rfl rfl (by decide)) h))) h) rfl rfl rfl)))
     (Rg.ay (Rg.plain rfl (mq (xk (b := Pw) (off := 0) (TB := 23) (pre := []) (mid := [iv M.num, iv (M.den : Int)]) (post := []) xc rfl aF (fun W h => GS.get me0 (fun h => absurd (show (w.heap.size + 1 : Nat) = Pw from h) (by first | omega | (intro h; exact (fun h => own_ne (aa HO) 0 2 rfl rfl (by decide) h.symm) h))) (fun h => absurd (show (w.heap.size + 2 : Nat) = Pw from h) (by first | omega | (intro h; exact (fun h => own_ne (aa HO) 0 1 rfl rfl (by decide) h.symm) h))) h) rfl rfl rfl)))
     (Rg.ay (Rg.plain rfl (mq (xx Ht rfl (aT 1) (aT 2) rfl rfl rfl)))
     (Rg.ay (Rg.plain rfl (mq (xk (b := Pw) (off := 0) (TB := 23) (pre := []) (mid := [iv M.num, iv (M.den : Int)]) (post := []) xc rfl aF (fun W h => GS.get me0 (fun h => absurd (show (w.heap.size + 1 : Nat) = Pw from h) (by first | omega | (intro h; exact (fun h => own_ne (aa HO) 0 2 rfl rfl (by decide) h.symm) h))) (fun h => absurd (show (w.heap.size + 2 : Nat) = Pw from h) (by first | omega | (intro h; exact (fun h => own_ne (aa HO) 0 1 rfl rfl (by decide) h.symm) h))) h) rfl rfl rfl)))
     (Rg.ay (Rg.plain rfl (mq (Dc (b := w.heap.size) (off := 0) rfl aF rfl rfl)))
     (Rg.ay (Rg.plain rfl (mq (xk (b := w.heap.size) (off := 2) (TB := 41) (pre := [iv df, iv cz]) (mid := [iv di, iv dh]) (post := []) xc rfl (aT 5) (fun W h => GS.get Ed (fun h => absurd (show (w.heap.size + 1 : Nat) = w.heap.size from h) (by first | omega | (intro h; exact (own_ne (aa HO) 2 3 rfl rfl (by decide)) h))) (fun h => absurd (show (w.heap.size + 2 : Nat) = w.heap.size from h) (by first | omega | (intro h; exact (own_ne (aa HO) 1 3 rfl rfl (by decide)) h))) h) rfl rfl rfl)))
     (Rg.ay (Rg.plain rfl (mq (xx Ht rfl (aT 4) (aT 6) rfl rfl rfl)))
     (Rg.ay (Rg.plain rfl (Fs (b := w.heap.size + 1) (old := zS) (new := [iv df, iv cz, iv M.num, iv (M.den : Int)]) mg rfl aF (aT 3) rf (aa HO).nd (.inl rfl) (.inl (by show (w.heap.size + 1 : Nat) ≠ w.heap.size + 2; omega)) rfl rfl rfl))
     (Rg.ay (Rg.plain rfl (Fs (b := w.heap.size + 2) (old := zS) (new := [iv M.num, iv (M.den : Int), iv di, iv dh]) mg rfl aF (aT 7) ky (aa HO).nd (.inr rfl) (.inl (by show (w.heap.size + 1 : Nat) ≠ w.heap.size + 2; omega)) rfl rfl rfl))
     (Rg.ay (Rg.plain rfl (mq (nz rfl (Rg.je _))))
     Rg.bg))))))))))) ?_
   intro v4 V4 hG4 hv4 ry
   simp only [Rg.puts, Act.put, tA]
   have e0 : v4 0 = .pointer (some ⟨w.heap.size, 0, none⟩) := hv4 0 (by decide)
   have e5 : v4 5 = .pointer (some ⟨w.heap.size, 2, none⟩) := hv4 5 (by decide)
   have e10 : v4 10 = .int .i64 0 := hv4 10 (by decide)
   simp only [e0, e5, e10]
   have hO : Own w [(Pw, 23, [iv M.num, iv (M.den : Int)]), (w.heap.size + 2, 41, [iv M.num, iv (M.den : Int), iv di, iv dh]), (w.heap.size + 1, 41, [iv df, iv cz, iv M.num, iv (M.den : Int)]), (w.heap.size, 41, [iv df, iv cz, iv di, iv dh])] V4 := by
    refine ⟨hG4.bel, (aa HO).nd, fun b T ls hm => ?_⟩
    rcases List.mem_cons.1 hm with e | hm
    ·
     cases e; exact ⟨(hG4.box _ _ _ me0).1, GS.get me0 (fun h => absurd (show (w.heap.size + 1 : Nat) = Pw from h) (by first | omega | (intro h; exact (fun h => own_ne (aa HO) 0 2 rfl rfl (by decide) h.symm) h))) (fun h => absurd (show (w.heap.size + 2 : Nat) = Pw from h) (by first | omega | (intro h; exact (fun h => own_ne (aa HO) 0 1 rfl rfl (by decide) h.symm) h))) hG4⟩
    rcases List.mem_cons.1 hm with e | hm
    ·
     cases e; exact ⟨(hG4.box _ _ _ ky).1, hv4 9 (by decide)⟩
    rcases List.mem_cons.1 hm with e | hm
    ·
     cases e; exact ⟨(hG4.box _ _ _ rf).1, hv4 8 (by decide)⟩
    rcases List.mem_cons.1 hm with e | hm
    ·
     cases e; exact ⟨(hG4.box _ _ _ Ed).1, GS.get Ed (fun h => absurd (show (w.heap.size + 1 : Nat) = w.heap.size from h) (by first | omega | (intro h; exact (own_ne (aa HO) 2 3 rfl rfl (by decide)) h))) (fun h => absurd (show (w.heap.size + 2 : Nat) = w.heap.size from h) (by first | omega | (intro h; exact (own_ne (aa HO) 1 3 rfl rfl (by decide)) h))) hG4⟩
    cases hm
   clear HO
   have HO := hide hO
   clear hO hG4 hv4 ry
   try clear e0 e5 e10
   go_wp2_with fail
   exact Oo Tryz.results36 qg qg rfl rfl rfl (aa HO) rf ky rfl rfl rfl
  ·
   obtain ⟨rfl, rfl, rfl, rfl, rfl, rfl, rfl, rfl, hz⟩ := (aa HR2).1 g1
   clear HR2
   subst hz
   have HF := hide g1
   clear g1
   go_upto_region 3 with fail
   refine Rg.dz 8 31 (Rg.pick [ai [iv df, iv cz, iv di, iv dh], ai [.r (Wd.qR df cz), .r (Wd.qR di dh)], ai [.r M], qa [Bb, Rg.ax (.bool false)], qa [Bb, Rg.ax (.bool false)], Bb, Rg.ax (.bool false), qf 23 zR V1.heap.size]) (az w _ V1) gm [7] kr rfl (Rg.fq.pick ⟨au _, au _, au _, ko ⟨(Bf), (Rg.ae _), trivial⟩, ko ⟨(Bf), (Rg.ae _), trivial⟩, Bf, Rg.ae _, qh _ _ _, trivial⟩) (az.begin (aa HO))
    (ag (fw oh rf aF [] [iv df, iv cz, iv di, iv dh] [])
    (ag (sc1 Tryz.func86 (aT 0) (fun W v0 hG h0 => aen ⟨(aa HQ).1, (aa HQ).2.1⟩ W _ h0))
    (ag (sc1 Tryz.func103 (aT 1) (fun W v0 hG h0 => adu (Bq (aa HQ).1) (Bq (aa HQ).2.1) (aa HM) W _ h0))
    (ag (sc1 Tryz.func102 (aT 2) (fun W v0 hG h0 => Ox (aa HF) h0))
    (ag (dm rfl (aT 3))
    (ag (ma (ts := [Bb, Rg.ax (.bool false)]) rfl (aT 4) (of_decide_eq_true rfl) rfl)
    (ag (ma (ts := [Bb, Rg.ax (.bool false)]) rfl (aT 4) (of_decide_eq_true rfl) rfl)
    (ag (si Hq rfl az.step az.size rfl (uw (by intro j hj; simp at hj; (repeat' (first | (rcases hj with rfl | hj))) <;> first | (subst hj; exact ⟨_, _, _, rfl⟩) | exact ⟨_, _, _, rfl⟩)))
    Rg.bg)))))))) ?_
   intro v2 V2 hG2 hv2 hne2
   simp only [Rg.puts, Act.put, tA]
   have e6 : v2 6 = .bool false := hv2 6 (by decide)
   obtain ⟨Pw, e7, Kc, Qo⟩ := (show qf 23 zR V1.heap.size V2 (v2 7) from hv2 7 (by decide))
   simp only [e6, e7]
   have hO := hG2.1
   replace hO := Own.add (aa HO) hG2.2 Kc Qo
   clear Kc Qo
   obtain ⟨awk, awl, hy5⟩ := (show Bb V2 (v2 5) from hv2 5 (by decide))
   refine jd hO 0 [] zR [iv awk, iv awl] [] rfl Di rfl (show ai [iv awk, iv awl] V2 (v2 5) from hy5) rfl rfl rfl ?_
   intro yg gy hk0
   replace hO := gy
   clear gy
   clear HO
   have HO := hide hO
   clear hO hG2 hv2 hne2 hk0
   try clear e6 e7
   go_upto_region 4 with fail
   refine Rg.dz 2 31 (Rg.pick [Rg.ax (.bool false), Rg.ax (.bool true)]) (az w _ yg) gm [] kr rfl (Rg.fq.pick ⟨Rg.ae _, Rg.ae _, trivial⟩) (az.begin (aa HO))
    (ag (dm rfl aF)
    (ag (Bh rfl (aT 0) rfl rfl)
    Rg.bg)) ?_
   intro v3 V3 hG3 hv3 mf
   simp only [Rg.puts, Act.put, tA]
   have e1 : v3 1 = .bool true := hv3 1 (by decide)
   simp only [e1]
   have hO := hG3.1
   clear HO
   have HO := hide hO
   clear hO hG3 hv3 mf
   try clear e1
   go_upto_region 5 with fail
   refine Rg.dz 2 31 (Rg.pick [ai zS, ai zS]) (az w _ V3) gm [] kr rfl (Rg.fq.pick ⟨au _, au _, trivial⟩) (az.begin (aa HO))
    (ag (ui uj rfl rfl rfl)
    (ag (ui uj rfl rfl rfl)
    Rg.bg)) ?_
   intro v4 V4 hG4 hv4 ry
   simp only [Rg.puts, Act.put, tA]
   have hO := hG4.1
   refine jd hO 2 [] zS zS [] rfl mg rfl (show ai zS V4 (v4 0) from hv4 0 (by decide)) rfl rfl rfl ?_
   intro Ig gy hk0
   replace hO := gy
   clear gy
   refine jd hO 1 [] zS zS [] rfl mg rfl (hk0 _ _ (show ai zS V4 (v4 1) from hv4 1 (by decide))) rfl rfl rfl ?_
   intro brc Gw hk1
   replace hO := Gw
   clear Gw
   clear HO
   have HO := hide hO
   clear hO hG4 hv4 ry hk0 hk1
   go_wp2_with fail
   exact Oo Tryz.results36 qg qg rfl rfl rfl (aa HO) rf ky rfl rfl rfl
 ·
  have k1 : decide (xy df cz di dh) = false := decide_eq_false g0
  obtain ⟨rfl, rfl, rfl, rfl, rfl, rfl, rfl, rfl, hz⟩ := (aa HR).1 g0
  clear HR
  subst hz
  go_upto_region 1 with fail
  refine Rg.dz 3 31 (Rg.pick [ai [iv df, iv cz, iv di, iv dh], Rg.ax (.bool false), Rg.ax (.bool true)]) (az w _ W0) gm [] kr rfl (Rg.fq.pick ⟨au _, Rg.ae _, Rg.ae _, trivial⟩) (az.begin (aa HO))
   (ag (fw oh rf aF [] [iv df, iv cz, iv di, iv dh] [])
   (ag (sc1 Tryz.func85 (aT 0) (fun W v0 hG h0 => k1 ▸ Iu W _ h0))
   (ag (Bh rfl (aT 1) rfl rfl)
   Rg.bg))) ?_
  intro v1 V1 hG1 hv1 hne1
  simp only [Rg.puts, Act.put, tA]
  have e2 : v1 2 = .bool true := hv1 2 (by decide)
  simp only [e2]
  have hO := hG1.1
  clear HO
  have HO := hide hO
  clear hO hG1 hv1 hne1
  try clear e2
  go_upto_region 2 with fail
  refine Rg.dz 2 31 (Rg.pick [ai zS, ai zS]) (az w _ V1) gm [] kr rfl (Rg.fq.pick ⟨au _, au _, trivial⟩) (az.begin (aa HO))
   (ag (ui uj rfl rfl rfl)
   (ag (ui uj rfl rfl rfl)
   Rg.bg)) ?_
  intro v2 V2 hG2 hv2 hne2
  simp only [Rg.puts, Act.put, tA]
  have hO := hG2.1
  refine jd hO 1 [] zS zS [] rfl mg rfl (show ai zS V2 (v2 0) from hv2 0 (by decide)) rfl rfl rfl ?_
  intro yg gy hk0
  replace hO := gy
  clear gy
  refine jd hO 0 [] zS zS [] rfl mg rfl (hk0 _ _ (show ai zS V2 (v2 1) from hv2 1 (by decide))) rfl rfl rfl ?_
  intro bre Gw hk1
  replace hO := Gw
  clear Gw
  clear HO
  have HO := hide hO
  clear hO hG2 hv2 hne2 hk0 hk1
  go_wp2_with fail
  exact Oo Tryz.results36 qg qg rfl rfl rfl (aa HO) ky me0 rfl rfl rfl
end Sb

end Go.Proofs.YtjdnmdlnaoedoaaGreatDoor
