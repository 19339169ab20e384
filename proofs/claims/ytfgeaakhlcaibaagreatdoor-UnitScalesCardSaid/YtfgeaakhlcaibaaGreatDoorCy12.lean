/- Texts beneath a law of layer 1. -/
import Derived.Test.YtfgeaakhlcaibaaGreatDoorCy11
import Derived.BigQuiet
set_option maxRecDepth 100000
set_option maxHeartbeats 16000000
namespace Go.Proofs.YtfgeaakhlcaibaaGreatDoor
open Go.RowKit

namespace Sb
def wK (n : Int) : Kind where
 size := 2
 ok := fun W c => ∃ A cap l m, c = [.slice A (List.length l) cap, .bool m] ∧ iq W A cap l m n
 noW := by
  rintro W c ⟨A, cap, l, m, rfl, h⟩ u hu
  simp only [List.mem_cons, List.not_mem_nil, or_false] at hu
  rcases hu with rfl | rfl
  ·
   exact Tf _ _ _
  ·
   exact Tg _
 below := fun hb ⟨A, cap, l, m, e, h⟩ => ⟨A, cap, l, m, e, h.below hb⟩
 upto := fun hg hn hgr ⟨A, cap, l, m, e, h⟩ => ⟨A, cap, l, m, e, h.upto hg hn.bgc hgr⟩
 len := by rintro W c ⟨A, cap, l, m, rfl, h⟩; rfl
theorem fo.w {W : World} {n : Int} {A1 : Option Addr} {c1 : Nat} {l1 : List Nat} {m1 : Bool} {ls : List ji} {cs : List Value} (h1 : iq W A1 c1 l1 m1 n) (h : fo W ls cs) : fo W (.k (wK n) :: ls) (.slice A1 l1.length c1 :: .bool m1 :: cs) := ⟨[_, _], cs, rfl, ⟨_, _, _, _, rfl, h1⟩, h⟩
theorem fo.ako {W : World} {n : Int} {ls : List ji} {cs : List Value} (h : fo W (.k (wK n) :: ls) cs) : ∃ A1 c1 l1 m1 r, cs = .slice A1 (List.length l1) c1 :: .bool m1 :: r ∧ iq W A1 c1 l1 m1 n ∧ fo W ls r := by
 obtain ⟨c, r, rfl, ⟨A1, c1, l1, m1, rfl, h1⟩, h⟩ := h
 exact ⟨A1, c1, l1, m1, r, rfl, h1, h⟩
theorem Zn {W : World} {n : Int} {v : Value} (h : ax [.k (wK n)] W v) : ∃ A1 c1 l1 m1, v = .agg #[.slice A1 (List.length l1) c1, .bool m1] ∧ iq W A1 c1 l1 m1 n := by
 obtain ⟨cs, rfl, h⟩ := h
 obtain ⟨A1, c1, l1, m1, r, rfl, h1, h⟩ := h.ako
 cases h
 exact ⟨_, _, _, _, rfl, h1⟩
theorem Pm {W : World} {n d : Int} {v : Value} (h : ax [.k (wK n), .k (wK d)] W v) : ∃ A1 c1 l1 m1 A2 c2 l2 m2, v = .agg #[.slice A1 (List.length l1) c1, .bool m1, .slice A2 (List.length l2) c2, .bool m2] ∧ iq W A1 c1 l1 m1 n ∧ iq W A2 c2 l2 m2 d := by
 obtain ⟨cs, rfl, h⟩ := h
 obtain ⟨A1, c1, l1, m1, r, rfl, h1, h⟩ := h.ako
 obtain ⟨A2, c2, l2, m2, r, rfl, h2, h⟩ := h.ako
 cases h
 exact ⟨_, _, _, _, _, _, _, _, rfl, h1, h2⟩
def C1 (w : World) (F : Nat) (ls ks : List ji) : Prop := ∀ W v0, Below w.heap.size w W → ax ls W v0 → Calls Tryz.prog F #[v0] W (ib (ax ks) W)
def C2 (w : World) (F : Nat) (ls ms ks : List ji) : Prop := ∀ W v0 v1, Below w.heap.size w W → ax ls W v0 → ax ms W v1 → Calls Tryz.prog F #[v0, v1] W (ib (ax ks) W)
def CB (w : World) (F : Nat) (ls : List ji) (b : Bool) : Prop := ∀ W v0, Below w.heap.size w W → ax ls W v0 → Calls Tryz.prog F #[v0] W (ib (Rg.au (.bool b)) W)
theorem awk {w w' : World} {z : Int} {e : Ending} (h : Gu w z e w') : ib (ax [.k (wK z)]) w e w' := by
 obtain ⟨A, cap, l, m, rfl, h1, hb⟩ := h
 exact ⟨_, rfl, hb, _, rfl, fo.w h1 rfl⟩
theorem bbw {w w' : World} {q : Rat} {e : Ending} (h : QR w q e w') : ib (ax [.k (wK q.num), .k (wK (q.den : Int))]) w e w' := by
 obtain ⟨A1, c1, l1, m1, A2, c2, l2, m2, rfl, h1, h2, hb⟩ := h
 exact ⟨_, rfl, hb, _, rfl, fo.w h1 (fo.w h2 rfl)⟩
theorem api {w w' : World} {q : Rat} {e : Ending} (h : ib (ax [.k (wK q.num), .k (wK (q.den : Int))]) w e w') : QR w q e w' := by
 obtain ⟨u, rfl, hb, h⟩ := h
 obtain ⟨A1, c1, l1, m1, A2, c2, l2, m2, rfl, f1, f2⟩ := Pm h
 exact ⟨_, _, _, _, _, _, _, _, rfl, f1, f2, hb⟩
theorem cw2 {w : World} {F : Nat} {a b c : Int} (h : bgl w F a b c) : C2 w F [.k (wK a)] [.k (wK b)] [.k (wK c)] := fun W v0 v1 hb h0 h1 => by
 obtain ⟨A1, c1, l1, m1, rfl, f1⟩ := Zn h0
 obtain ⟨A2, c2, l2, m2, rfl, f2⟩ := Zn h1
 exact (h _ _ _ _ _ _ _ _ W hb f1 f2).mono fun e w' h => awk h
theorem cwq {w : World} {F : Nat} {a b : Int} {q : Rat} (h : bgm w F a b q) : C2 w F [.k (wK a)] [.k (wK b)] [.k (wK q.num), .k (wK (q.den : Int))] := fun W v0 v1 hb h0 h1 => by
 obtain ⟨A1, c1, l1, m1, rfl, f1⟩ := Zn h0
 obtain ⟨A2, c2, l2, m2, rfl, f2⟩ := Zn h1
 exact (h _ _ _ _ _ _ _ _ W hb f1 f2).mono fun e w' h => bbw h
theorem acz {W : World} {A1 : Option Addr} {c1 : Nat} {l1 : List Nat} {m1 : Bool} {A2 : Option Addr} {c2 : Nat} {l2 : List Nat} {m2 : Bool} {x : Rat} (h : QV W A1 c1 l1 m1 A2 c2 l2 m2 x) : ∃ d : Int, (d = (x.den : Int) ∨ (d = 0 ∧ x.den = 1)) ∧ ax [.k (wK x.num), .k (wK d)] W (.agg #[.slice A1 l1.length c1, .bool m1, .slice A2 l2.length c2, .bool m2]) := by
 obtain ⟨d, h2, h3⟩ := h.den
 exact ⟨d, h3, _, rfl, fo.w h.num (fo.w h2 rfl)⟩
theorem Zj (w : World) {x : Rat} {d : Int} (h : d = (x.den : Int) ∨ (d = 0 ∧ x.den = 1)) : C1 w 130 [.k (wK x.num), .k (wK d)] [.k (wK (x.den : Int))] := fun W v0 hb h0 => by
 obtain ⟨A1, c1, l1, m1, A2, c2, l2, m2, rfl, f1, f2⟩ := Pm h0
 exact (Sy A1 c1 l1 m1 A2 c2 l2 m2 x W ⟨f1, d, f2, h⟩).mono fun e w' h => awk h
theorem ajy (w : World) {b : Int} {o : Bool} (h : o = decide (b = 1)) : CB w 131 [.k (wK b)] o := fun W v0 hb h0 => by
 obtain ⟨A1, c1, l1, m1, rfl, f1⟩ := Zn h0
 rw [h]
 exact (Yc A1 c1 l1 m1 b W f1).mono fun e w' h => Ue h
theorem Af : Em Tryz.prog 66 2 := by
 intro ρ w d x b off us ty pos af gd hl hc hx
 match us, hl with
 | [u0, u1], _ =>
 have k0 : w.cell? ⟨b, off, none⟩ = some u0 := hc 0 om
 have k1 : w.cell? ⟨b, off + 1, none⟩ = some u1 := hc 1 om
 clear hc
 simp only [execOp, hx]
 simp [go_sem, k0, k1]
theorem ajb : Ai Tryz.prog 66 2 := by
 intro ρ w d p x b off cs TB us ty pos af gd hl hu hb ho hp hx
 match us, hl with
 | [u0, u1], _ =>
 have o0 := hu u0 (by simp)
 have o1 := hu u1 (by simp)
 have f0 : w.frozen? ⟨b, off, none⟩ = false := ai hb _
 have f1 : w.frozen? ⟨b, off + 1, none⟩ = false := ai hb _
 obtain ⟨c0, k0⟩ : ∃ c, w.cell? ⟨b, off, none⟩ = some c := jm hb om
 obtain ⟨c1, k1⟩ : ∃ c, w.cell? ⟨b, off + 1, none⟩ = some c := jm hb om
 have hlt := lt_of_block hb
 clear hb ho hu
 simp only [execOp, hp, hx, setM]
 simp [go_sem, hlt, run_store _ _ _ _ _ o0, o0, run_store _ _ _ _ _ o1, o1, k0, k1, f0, f1]
theorem axe : Gz Tryz.prog 66 [.slice none 0 0, .bool false] := by
 intro ρ w d ty pos af gd
 simp only [execOp]
 simp [go_sem]
theorem Ef : Em Tryz.prog 68 4 := by
 intro ρ w d x b off us ty pos af gd hl hc hx
 match us, hl with
 | [u0, u1, u2, u3], _ =>
 have k0 : w.cell? ⟨b, off, none⟩ = some u0 := hc 0 om
 have k1 : w.cell? ⟨b, off + 1, none⟩ = some u1 := hc 1 om
 have k2 : w.cell? ⟨b, off + 2, none⟩ = some u2 := hc 2 om
 have k3 : w.cell? ⟨b, off + 3, none⟩ = some u3 := hc 3 om
 clear hc
 simp only [execOp, hx]
 simp [go_sem, k0, k1, k2, k3]
theorem Er : Ai Tryz.prog 68 4 := by
 intro ρ w d p x b off cs TB us ty pos af gd hl hu hb ho hp hx
 match us, hl with
 | [u0, u1, u2, u3], _ =>
 have o0 := hu u0 (by simp)
 have o1 := hu u1 (by simp)
 have o2 := hu u2 (by simp)
 have o3 := hu u3 (by simp)
 have f0 : w.frozen? ⟨b, off, none⟩ = false := ai hb _
 have f1 : w.frozen? ⟨b, off + 1, none⟩ = false := ai hb _
 have f2 : w.frozen? ⟨b, off + 2, none⟩ = false := ai hb _
 have f3 : w.frozen? ⟨b, off + 3, none⟩ = false := ai hb _
 obtain ⟨c0, k0⟩ : ∃ c, w.cell? ⟨b, off, none⟩ = some c := jm hb om
 obtain ⟨c1, k1⟩ : ∃ c, w.cell? ⟨b, off + 1, none⟩ = some c := jm hb om
 obtain ⟨c2, k2⟩ : ∃ c, w.cell? ⟨b, off + 2, none⟩ = some c := jm hb om
 obtain ⟨c3, k3⟩ : ∃ c, w.cell? ⟨b, off + 3, none⟩ = some c := jm hb om
 have hlt := lt_of_block hb
 clear hb ho hu
 simp only [execOp, hp, hx, setM]
 simp [go_sem, hlt, run_store _ _ _ _ _ o0, o0, run_store _ _ _ _ _ o1, o1, run_store _ _ _ _ _ o2, o2, run_store _ _ _ _ _ o3, o3, k0, k1, k2, k3, f0, f1, f2, f3]
theorem axd : Gz Tryz.prog 68 [.slice none 0 0, .bool false, .slice none 0 0, .bool false] := by
 intro ρ w d ty pos af gd
 simp only [execOp]
 simp [go_sem]
theorem Ma : Ls Tryz.prog 68 4 := by
 intro w b off us hl hc
 match us, hl with
 | [u0, u1, u2, u3], _ =>
 have k0 : w.cell? ⟨b, off, none⟩ = some u0 := hc 0 om
 have k1 : w.cell? ⟨b, off + 1, none⟩ = some u1 := hc 1 om
 have k2 : w.cell? ⟨b, off + 2, none⟩ = some u2 := hc 2 om
 have k3 : w.cell? ⟨b, off + 3, none⟩ = some u3 := hc 3 om
 clear hc
 simp [go_sem, k0, k1, k2, k3]
theorem bbf : Ut Tryz.prog 68 2 2 := by
 intro ρ w d x y us vs ty pos af gd h1 h2 e1 e2
 match us, h1, vs, h2 with
 | [u0, u1], _, [v0, v1], _ =>
 simp only [execOp]
 simp [go_sem, e1, e2]
 try rfl
theorem bbl : Fy Tryz.prog (fun x => .fieldAddr 68 x 0) 0 := by
 intro a w d x b off ty pos af gd hx
 have hc : ∀ v, a.eval (.const v) = v := fun _ => rfl
 simp only [execOp, hx, hc]
 simp [go_sem]
theorem Dr {Q : Exit → Act → World → Prop} {l : List Oper} {n : Nat} {T : Nat → World → Value → Prop} {G : World → Prop} {al : List Nat} {a0 : Act} {k d : Nat} {ty : TypeId} {pos : String} {af : Array Edge} {gd : Option (Nat × Bool)} {b off off' : Nat} {x : Operand} (hal : al.contains k = false) (hx : Rg.ig l n T a0 k x (Rg.au (.pointer (some ⟨b, off, none⟩)))) (ho : off + 0 = off') (hT : T k = Rg.au (.pointer (some ⟨b, off', none⟩))) :
  Rg.Step Tryz.prog Q l n T G eu al a0 k { dst := some d, op := .fieldAddr 68 x 0, type := ty, pos := pos, after := af, guard := gd } := by
 exact Gm (P := Tryz.prog) (o := fun x => .fieldAddr 68 x 0) bbl hal hx ho hT
end Sb


namespace Sb
theorem apr {xn xe yn ye xd yd m1 m2 a b : Int} (w : World) (u0 : Value) (h0 : ax [.k (wK xn), .k (wK xe)] w u0) (u1 : Value) (h1 : ax [.k (wK yn), .k (wK ye)] w u1)
  (hd1 : C1 w 130 [.k (wK xn), .k (wK xe)] [.k (wK xd)])
  (hd2 : C1 w 130 [.k (wK yn), .k (wK ye)] [.k (wK yd)])
  (hm1 : C2 w 133 [.k (wK xn)] [.k (wK yd)] [.k (wK m1)])
  (hm2 : C2 w 133 [.k (wK xd)] [.k (wK yn)] [.k (wK m2)])
  (hr : C2 w 128 [.k (wK m1)] [.k (wK m2)] [.k (wK a), .k (wK b)]) :
  Calls Tryz.prog 64 #[u0, u1] w (ib (ax [.k (wK a), .k (wK b)]) w) := by
 have HD1 := hide hd1
 have HD2 := hide hd2
 have HM1 := hide hm1
 have HM2 := hide hm2
 have HR := hide hr
 clear hd1 hd2 hm1 hm2 hr
 obtain ⟨Cu, c0a, Cr, Ym, Gw, c0b, Gp, m0b, rfl, f0a, Gs⟩ := Pm h0
 obtain ⟨Ce, c1a, Bz, Rv, Cc, Ca, Bw, Ru, rfl, f1a, Pj⟩ := Pm h1
 go_enter Tryz.func64, Tryz.ntmps64
 go_upto_region 1 with fail
 have hO := (Own.push (T := 68) (ls := zX) (Own.push (T := 68) (ls := [.k (wK yn), .k (wK ye)]) (Own.push (T := 68) (ls := [.k (wK xn), .k (wK xe)]) (Own.nil w) (fo.w f0a (fo.w Gs rfl)) (w.heap.size) rfl) (fo.below (by repeat (first | exact Below.refl _ _ | refine gy ?_ _)) (fo.w f1a (fo.w Pj rfl))) (w.heap.size + 1) (by simp only [World.size_alloc])) (fo.below (by repeat (first | exact Below.refl _ _ | refine gy ?_ _)) (fo.vs w [.slice none 0 0, .bool false, .slice none 0 0, .bool false] rfl)) (w.heap.size + 2) (by simp only [World.size_alloc]))
 generalize ((w.alloc (.cells #[.slice Cu (List.length Cr) c0a, .bool Ym, .slice Gw (List.length Gp) c0b, .bool m0b] 68)).alloc (.cells #[.slice Ce (List.length Bz) c1a, .bool Rv, .slice Cc (List.length Bw) Ca, .bool Ru] 68)).alloc (.cells #[.slice none 0 0, .bool false, .slice none 0 0, .bool false] 68) = W0 at *
 have HO := hide hO
 clear hO
 go_upto_region 1 with fail
 refine Rg.region 11 16 (Rg.pick [Rg.au (.pointer (some ⟨w.heap.size, 0, none⟩)), ax [.k (wK xn)], ax [.k (wK yn), .k (wK ye)], ax [.k (wK yd)], ax [.k (wK m1)], ax [.k (wK xn), .k (wK xe)], ax [.k (wK xd)], Rg.au (.pointer (some ⟨w.heap.size + 1, 0, none⟩)), ax [.k (wK yn)], ax [.k (wK m2)], ax [.k (wK a), .k (wK b)]]) (ay w _ W0) eu [] kr kr rfl (Rg.dw.pick ⟨Rg.ae _, az _, az _, az _, az _, az _, az _, Rg.ae _, az _, az _, az _, trivial⟩) (ay.start (aa HO))
  (ah (Dr (b := w.heap.size) (off := 0) rfl aF rfl rfl)
  (ah (ic Af Bv (aT 0) [] [.k (wK xn)] [.k (wK xe)])
  (ah (ic Ef qg aF [] [.k (wK yn), .k (wK ye)] [])
  (ah (sc1 Tryz.func130 (aT 2) (fun W v0 hG h0 => aa HD2 W v0 hG.bel h0))
  (ah (sc2 Tryz.func133 (aT 1) (aT 3) (fun W v0 v1 hG h0 h1 => aa HM1 W v0 v1 hG.bel h0 h1))
  (ah (ic Ef Bv aF [] [.k (wK xn), .k (wK xe)] [])
  (ah (sc1 Tryz.func130 (aT 5) (fun W v0 hG h0 => aa HD1 W v0 hG.bel h0))
  (ah (Dr (b := w.heap.size + 1) (off := 0) rfl aF rfl rfl)
  (ah (ic Af qg (aT 7) [] [.k (wK yn)] [.k (wK ye)])
  (ah (sc2 Tryz.func133 (aT 6) (aT 8) (fun W v0 v1 hG h0 h1 => aa HM2 W v0 v1 hG.bel h0 h1))
  (ah (sc2 Tryz.func128 (aT 4) (aT 9) (fun W v0 v1 hG h0 h1 => aa HR W v0 v1 hG.bel h0 h1))
  Rg.bf))))))))))) ?_
 intro v1 V1 hG1 hv1 hne1
 simp only [Rg.puts, Act.put, tA]
 have hO := hG1.1
 refine jq hO 0 [] zX [.k (wK a), .k (wK b)] [] rfl Er rfl (show ax [.k (wK a), .k (wK b)] V1 (v1 10) from hv1 10 de) rfl rfl rfl ?_
 intro za gm hk0
 replace hO := gm
 clear gm
 clear HO
 have HO := hide hO
 clear hO hG1 hv1 hne1 hk0
 go_wp2_with fail
 exact Cs Tryz.results64 Ma rfl (aa HO) me0 rfl rfl
theorem apo {xn xe yn ye xd yd s m3 a b : Int} {o1 o2 : Bool} (w : World) (u0 : Value) (h0 : ax [.k (wK xn), .k (wK xe)] w u0) (u1 : Value) (h1 : ax [.k (wK yn), .k (wK ye)] w u1)
  (hd1 : C1 w 130 [.k (wK xn), .k (wK xe)] [.k (wK xd)])
  (hd2 : C1 w 130 [.k (wK yn), .k (wK ye)] [.k (wK yd)])
  (ho1 : CB w 131 [.k (wK xd)] o1)
  (ho2 : CB w 131 [.k (wK yd)] o2)
  (hc : (o1 = true ∧ o2 = true ∧ xd = b ∧ C2 w 133 [.k (wK xn)] [.k (wK yn)] [.k (wK a)]) ∨ ((o1 = false ∨ o1 = true ∧ o2 = false) ∧ C2 w 133 [.k (wK xn)] [.k (wK yn)] [.k (wK s)] ∧ C2 w 133 [.k (wK xd)] [.k (wK yd)] [.k (wK m3)] ∧ C2 w 128 [.k (wK s)] [.k (wK m3)] [.k (wK a), .k (wK b)])) :
  Calls Tryz.prog 62 #[u0, u1] w (ib (ax [.k (wK a), .k (wK b)]) w) := by
 have HD1 := hide hd1
 have HD2 := hide hd2
 have Rz := hide ho1
 have HO2 := hide ho2
 have HC := hide hc
 clear hd1 hd2 ho1 ho2 hc
 obtain ⟨Cu, c0a, Cr, Ym, Gw, c0b, Gp, m0b, rfl, f0a, Gs⟩ := Pm h0
 obtain ⟨Ce, c1a, Bz, Rv, Cc, Ca, Bw, Ru, rfl, f1a, Pj⟩ := Pm h1
 go_enter Tryz.func62, Tryz.ntmps62
 go_upto_region 1 with fail
 have hO := (Own.push (T := 68) (ls := zX) (Own.push (T := 68) (ls := [.k (wK yn), .k (wK ye)]) (Own.push (T := 68) (ls := [.k (wK xn), .k (wK xe)]) (Own.nil w) (fo.w f0a (fo.w Gs rfl)) (w.heap.size) rfl) (fo.below (by repeat (first | exact Below.refl _ _ | refine gy ?_ _)) (fo.w f1a (fo.w Pj rfl))) (w.heap.size + 1) (by simp only [World.size_alloc])) (fo.below (by repeat (first | exact Below.refl _ _ | refine gy ?_ _)) (fo.vs w [.slice none 0 0, .bool false, .slice none 0 0, .bool false] rfl)) (w.heap.size + 2) (by simp only [World.size_alloc]))
 generalize ((w.alloc (.cells #[.slice Cu (List.length Cr) c0a, .bool Ym, .slice Gw (List.length Gp) c0b, .bool m0b] 68)).alloc (.cells #[.slice Ce (List.length Bz) c1a, .bool Rv, .slice Cc (List.length Bw) Ca, .bool Ru] 68)).alloc (.cells #[.slice none 0 0, .bool false, .slice none 0 0, .bool false] 68) = W0 at *
 have HO := hide hO
 clear hO
 go_upto_region 1 with fail
 go_upto_region 1 with fail
 refine Rg.aag 8 33 (fun k => if k = 6 then 5 else 6) (Rg.pick [ax [.k (wK xn), .k (wK xe)], ax [.k (wK xd)], ax [.k (wK yn), .k (wK ye)], ax [.k (wK yd)], fun _ _ => True, fun _ _ => True, fun _ _ => True, fun _ _ => True]) (ay w [(w.heap.size + 2, 68, zX), (w.heap.size + 1, 68, [.k (wK yn), .k (wK ye)]), (w.heap.size, 68, [.k (wK xn), .k (wK xe)])] W0) (EX W0.heap.size 66) (J2 66 2 W0.heap.size 4 5 6 7 [.k (wK xd)] [.k (wK yd)]) kr kr kr rfl (Rg.dw.pick ⟨(uj _), (uj _), (uj _), (uj _), (zt), (zt), (zt), (zt), trivial⟩) (ay.start (aa HO)) (fun _ => J2.start) (fun _ _ _ _ h => J2.congr (n := 8) de h)
  (Rg.jo (Cf (ic Ef Bv aF [] [.k (wK xn), .k (wK xe)] []))
   (Rg.jo (Cf (Bo Tryz.func130 kr rfl ay.step (aT 0) (fun W v0 hG h0 => aa HD1 W v0 hG.bel h0)))
   (Rg.jo (Cf (ic Ef qg aF [] [.k (wK yn), .k (wK ye)] []))
   (Rg.jo (Cf (Bo Tryz.func130 kr rfl ay.step (aT 2) (fun W v0 hG h0 => aa HD2 W v0 hG.bel h0)))
   (Rg.jo (Uw axe rfl rfl rfl)
   (Rg.jo (Wn axe rfl rfl rfl)
   (Rg.jo (Uv (aa HO) ajb kr (aT 1) rfl rfl rfl)
   (Rg.jo (Wm (aa HO) ajb kr (aT 3) rfl rfl rfl)
   Rg.Qf)))))))) ?_
 intro v1 V1 hG1 hJ1 hv1 hne1
 simp only [Rg.puts, Act.put, tA]
 obtain ⟨_, _, hd1, hf1, hg1⟩ := hJ1
 obtain ⟨bns, e4, hge4, hz4⟩ := (hf1 trivial).2
 obtain ⟨anc, e5, Fq, Ki⟩ := (hg1 trivial).2
 simp only [e4, e5]
 have hO := Own.ane (aa HO) hG1.2 hge4 hz4 Fq Ki (fun h => hd1 trivial trivial (by rw [e4, e5, h]))
 clear hge4 hz4 Fq Ki hd1 hf1 hg1
 clear HO
 have HO := hide hO
 clear hO hG1 hv1 hne1
 try clear e4 e5
 rcases aa HC with ⟨rfl, rfl, rfl, hp⟩ | ⟨ho, hp⟩
 ·
  have HOP := hide hp
  clear hp HC
  go_upto_region 2 with fail
  refine Rg.dh 6 33 (Rg.pick [ax [.k (wK xd)], Rg.au (.bool true), Rg.au (.bool true), ax [.k (wK yd)], Rg.au (.bool true), Rg.au (.bool true)]) (ay w _ V1) eu [] kr rfl (Rg.dw.pick ⟨az _, Rg.ae _, Rg.ae _, az _, Rg.ae _, Rg.ae _, trivial⟩) (ay.begin (aa HO))
   (ah (ic Af qg aF [] [.k (wK xd)] [])
   (ah (sc1 Tryz.func131 (aT 0) (fun W v0 hG h0 => aa Rz W v0 hG.bel h0))
   (ah (di rfl (aT 1))
   (Rg.df (Rg.fu (d := 13) rfl kr rfl (ic Af me0 aF [] [.k (wK yd)] []))
   (Rg.df (Rg.fu (d := 13) rfl kr rfl (Bo Tryz.func131 kr rfl ay.step (aT 3) (fun W v0 hG h0 => aa HO2 W v0 hG.bel h0)))
   (ah (vg rfl (aT 2) (aT 4))
   Rg.bf)))))) ?_
  intro v2 V2 hG2 hv2 hne2
  simp only [Rg.puts, Act.put, tA]
  have e5 : v2 5 = .bool true := hv2 5 de
  simp only [e5]
  have hO := hG2.1
  clear HO
  have HO := hide hO
  clear hO hG2 hv2 hne2
  try clear e5
  go_upto_region 3 with fail
  refine Rg.region 7 33 (Rg.pick [Rg.au (.pointer (some ⟨w.heap.size, 0, none⟩)), ax [.k (wK xn)], Rg.au (.pointer (some ⟨w.heap.size + 1, 0, none⟩)), ax [.k (wK yn)], ax [.k (wK a)], ax [.k (wK xd)], ax [.k (wK a), .k (wK xd)]]) (ay w _ V2) eu [] kr kr rfl (Rg.dw.pick ⟨Rg.ae _, az _, Rg.ae _, az _, az _, az _, az _, trivial⟩) (ay.start (aa HO))
   (ah (Dr (b := w.heap.size) (off := 0) rfl aF rfl rfl)
   (ah (ic Af me4 (aT 0) [] [.k (wK xn)] [.k (wK xe)])
   (ah (Dr (b := w.heap.size + 1) (off := 0) rfl aF rfl rfl)
   (ah (ic Af Nt (aT 2) [] [.k (wK yn)] [.k (wK ye)])
   (ah (sc2 Tryz.func133 (aT 1) (aT 3) (fun W v0 v1 hG h0 h1 => aa HOP W v0 v1 hG.bel h0 h1))
   (ah (ic Af qg aF [] [.k (wK xd)] [])
   (ah (Hf bbf rfl (aT 4) (aT 5) rfl rfl rfl)
   Rg.bf))))))) ?_
  intro v3 V3 hG3 hv3 ma
  simp only [Rg.puts, Act.put, tA]
  have hO := hG3.1
  refine jq hO 2 [] zX [.k (wK a), .k (wK xd)] [] rfl Er rfl (show ax [.k (wK a), .k (wK xd)] V3 (v3 6) from hv3 6 de) rfl rfl rfl ?_
  intro Gl gm hk0
  replace hO := gm
  clear gm
  clear HO
  have HO := hide hO
  clear hO hG3 hv3 ma hk0
  go_wp2_with fail
  exact Cs Tryz.results62 Ma rfl (aa HO) Bv rfl rfl
 ·
  obtain ⟨h0, h1, h2⟩ := hp
  have HS := hide h0
  have HM3 := hide h1
  have HR := hide h2
  clear h0 h1 h2 HC
  rcases ho with rfl | ⟨rfl, rfl⟩
  ·
   go_upto_region 2 with fail
   refine Rg.dh 6 33 (Rg.pick [ax [.k (wK xd)], Rg.au (.bool false), Rg.au (.bool false), Rg.au undef, Rg.au undef, Rg.au (.bool false)]) (ay w _ V1) eu [] kr rfl (Rg.dw.pick ⟨az _, Rg.ae _, Rg.ae _, Rg.ae _, Rg.ae _, Rg.ae _, trivial⟩) (ay.begin (aa HO))
    (ah (ic Af qg aF [] [.k (wK xd)] [])
    (ah (sc1 Tryz.func131 (aT 0) (fun W v0 hG h0 => aa Rz W v0 hG.bel h0))
    (ah (di rfl (aT 1))
    (Rg.df (Rg.mf (d := 13) rfl kr rfl rfl mg rfl rfl)
    (Rg.df (Rg.mf (d := 13) rfl kr rfl rfl mg rfl rfl)
    (ah (pg rfl (aT 2) (Rg.iy _))
    Rg.bf)))))) ?_
   intro v2 V2 hG2 hv2 hne2
   simp only [Rg.puts, Act.put, tA]
   have e5 : v2 5 = .bool false := hv2 5 de
   simp only [e5]
   have hO := hG2.1
   clear HO
   have HO := hide hO
   clear hO hG2 hv2 hne2
   try clear e5
   go_upto_region 4 with fail
   refine Rg.region 9 33 (Rg.pick [Rg.au (.pointer (some ⟨w.heap.size, 0, none⟩)), ax [.k (wK xn)], Rg.au (.pointer (some ⟨w.heap.size + 1, 0, none⟩)), ax [.k (wK yn)], ax [.k (wK s)], ax [.k (wK xd)], ax [.k (wK yd)], ax [.k (wK m3)], ax [.k (wK a), .k (wK b)]]) (ay w _ V2) eu [] kr kr rfl (Rg.dw.pick ⟨Rg.ae _, az _, Rg.ae _, az _, az _, az _, az _, az _, az _, trivial⟩) (ay.start (aa HO))
    (ah (Dr (b := w.heap.size) (off := 0) rfl aF rfl rfl)
    (ah (ic Af me4 (aT 0) [] [.k (wK xn)] [.k (wK xe)])
    (ah (Dr (b := w.heap.size + 1) (off := 0) rfl aF rfl rfl)
    (ah (ic Af Nt (aT 2) [] [.k (wK yn)] [.k (wK ye)])
    (ah (sc2 Tryz.func133 (aT 1) (aT 3) (fun W v0 v1 hG h0 h1 => aa HS W v0 v1 hG.bel h0 h1))
    (ah (ic Af qg aF [] [.k (wK xd)] [])
    (ah (ic Af me0 aF [] [.k (wK yd)] [])
    (ah (sc2 Tryz.func133 (aT 5) (aT 6) (fun W v0 v1 hG h0 h1 => aa HM3 W v0 v1 hG.bel h0 h1))
    (ah (sc2 Tryz.func128 (aT 4) (aT 7) (fun W v0 v1 hG h0 h1 => aa HR W v0 v1 hG.bel h0 h1))
    Rg.bf))))))))) ?_
   intro v3 V3 hG3 hv3 ma
   simp only [Rg.puts, Act.put, tA]
   have hO := hG3.1
   refine jq hO 2 [] zX [.k (wK a), .k (wK b)] [] rfl Er rfl (show ax [.k (wK a), .k (wK b)] V3 (v3 8) from hv3 8 de) rfl rfl rfl ?_
   intro Gl gm hk0
   replace hO := gm
   clear gm
   clear HO
   have HO := hide hO
   clear hO hG3 hv3 ma hk0
   go_wp2_with fail
   exact Cs Tryz.results62 Ma rfl (aa HO) Bv rfl rfl
  ·
   go_upto_region 2 with fail
   refine Rg.dh 6 33 (Rg.pick [ax [.k (wK xd)], Rg.au (.bool true), Rg.au (.bool true), ax [.k (wK yd)], Rg.au (.bool false), Rg.au (.bool false)]) (ay w _ V1) eu [] kr rfl (Rg.dw.pick ⟨az _, Rg.ae _, Rg.ae _, az _, Rg.ae _, Rg.ae _, trivial⟩) (ay.begin (aa HO))
    (ah (ic Af qg aF [] [.k (wK xd)] [])
    (ah (sc1 Tryz.func131 (aT 0) (fun W v0 hG h0 => aa Rz W v0 hG.bel h0))
    (ah (di rfl (aT 1))
    (Rg.df (Rg.fu (d := 13) rfl kr rfl (ic Af me0 aF [] [.k (wK yd)] []))
    (Rg.df (Rg.fu (d := 13) rfl kr rfl (Bo Tryz.func131 kr rfl ay.step (aT 3) (fun W v0 hG h0 => aa HO2 W v0 hG.bel h0)))
    (ah (vg rfl (aT 2) (aT 4))
    Rg.bf)))))) ?_
   intro v2 V2 hG2 hv2 hne2
   simp only [Rg.puts, Act.put, tA]
   have e5 : v2 5 = .bool false := hv2 5 de
   simp only [e5]
   have hO := hG2.1
   clear HO
   have HO := hide hO
   clear hO hG2 hv2 hne2
   try clear e5
   go_upto_region 4 with fail
   refine Rg.region 9 33 (Rg.pick [Rg.au (.pointer (some ⟨w.heap.size, 0, none⟩)), ax [.k (wK xn)], Rg.au (.pointer (some ⟨w.heap.size + 1, 0, none⟩)), ax [.k (wK yn)], ax [.k (wK s)], ax [.k (wK xd)], ax [.k (wK yd)], ax [.k (wK m3)], ax [.k (wK a), .k (wK b)]]) (ay w _ V2) eu [] kr kr rfl (Rg.dw.pick ⟨Rg.ae _, az _, Rg.ae _, az _, az _, az _, az _, az _, az _, trivial⟩) (ay.start (aa HO))
    (ah (Dr (b := w.heap.size) (off := 0) rfl aF rfl rfl)
    (ah (ic Af me4 (aT 0) [] [.k (wK xn)] [.k (wK xe)])
    (ah (Dr (b := w.heap.size + 1) (off := 0) rfl aF rfl rfl)
    (ah (ic Af Nt (aT 2) [] [.k (wK yn)] [.k (wK ye)])
    (ah (sc2 Tryz.func133 (aT 1) (aT 3) (fun W v0 v1 hG h0 h1 => aa HS W v0 v1 hG.bel h0 h1))
    (ah (ic Af qg aF [] [.k (wK xd)] [])
    (ah (ic Af me0 aF [] [.k (wK yd)] [])
    (ah (sc2 Tryz.func133 (aT 5) (aT 6) (fun W v0 v1 hG h0 h1 => aa HM3 W v0 v1 hG.bel h0 h1))
    (ah (sc2 Tryz.func128 (aT 4) (aT 7) (fun W v0 v1 hG h0 h1 => aa HR W v0 v1 hG.bel h0 h1))
    Rg.bf))))))))) ?_
   intro v3 V3 hG3 hv3 ma
   simp only [Rg.puts, Act.put, tA]
   have hO := hG3.1
   refine jq hO 2 [] zX [.k (wK a), .k (wK b)] [] rfl Er rfl (show ax [.k (wK a), .k (wK b)] V3 (v3 8) from hv3 8 de) rfl rfl rfl ?_
   intro Gl gm hk0
   replace hO := gm
   clear gm
   clear HO
   have HO := hide hO
   clear hO hG3 hv3 ma hk0
   go_wp2_with fail
   exact Cs Tryz.results62 Ma rfl (aa HO) Bv rfl rfl
end Sb

end Go.Proofs.YtfgeaakhlcaibaaGreatDoor
namespace Go.Proofs.YtfgeaakhlcaibaaGreatDoor
open Go.RowKit Sb

namespace Wd
theorem biu (x y : Rat) : x + y = Rat.divInt (x.num * (y.den : Int) + y.num * (x.den : Int)) ((x.den : Int) * (y.den : Int)) := by
 have hx := x.den_nz; have hy := y.den_nz
 conv => lhs; rw [← Rat.num_divInt_den x, ← Rat.num_divInt_den y]
 exact Rat.divInt_add_divInt _ _ om om
theorem alx (x y : Rat) : x * y = Rat.divInt (x.num * y.num) ((x.den : Int) * (y.den : Int)) := by
 conv => lhs; rw [← Rat.num_divInt_den x, ← Rat.num_divInt_den y]
 exact Rat.divInt_mul_divInt _ _
theorem bik (x y : Rat) : x / y = Rat.divInt (x.num * (y.den : Int)) ((x.den : Int) * y.num) := by
 rw [Rat.div_def]
 conv => lhs; rw [← Rat.num_divInt_den x, Rat.inv_def]
 exact Rat.divInt_mul_divInt _ _
theorem adb (n : Int) : (Rat.divInt n 1).num = n ∧ (Rat.divInt n 1).den = 1 := by
 have h : Rat.divInt n 1 = (n : Rat) := by
  rw [← Rat.num_divInt_den (n : Rat)]; rfl
 rw [h]
 exact ⟨rfl, rfl⟩
theorem axf {x y : Rat} (hx : (x.den : Int) = 1) (hy : (y.den : Int) = 1) : x.num * y.num = (x * y).num ∧ (x.den : Int) = ((x * y).den : Int) := by
 have h : x * y = Rat.divInt (x.num * y.num) 1 := by
  rw [alx, hx, hy]; simp
 rw [h, (adb _).1, (adb _).2]; exact ⟨rfl, hx⟩
def yx (B K : Nat) (q : Rat) : Prop := Sz B K q.num ∧ Sz B K (q.den : Int)
end Wd

theorem Te {w : World} {a b c : Int} {K L : Nat} (ha : Wd.Sz ek K a) (hb : Wd.Sz ek L b) (hK : K + L ≤ 35184372088832) (e : c = a * b) : bgl w 133 a b c := by
 subst e
 exact fun A1 c1 l1 m1 A2 c2 l2 m2 W _ f g => adq A1 c1 l1 m1 a A2 c2 l2 m2 b W f g (by have := f.len ha; have := g.len hb; omega)
theorem aeq {w : World} {a b : Int} {q : Rat} {K : Nat} (ha : Wd.Sz ek K a) (hb : Wd.Sz ek K b) (h0 : b ≠ 0) (hK : K + 1 ≤ 35184372088832) (e : q = Rat.divInt a b) : bgm w 128 a b q := by
 subst e
 exact fun A1 c1 l1 m1 A2 c2 l2 m2 W _ f g => Yb A1 c1 l1 m1 a A2 c2 l2 m2 b K W f g h0 ha hb hK

theorem anv (K : Nat) (A1 : Option Addr) (c1 : Nat) (l1 : List Nat) (m1 : Bool) (A2 : Option Addr) (c2 : Nat) (l2 : List Nat) (m2 : Bool) (A3 : Option Addr) (c3 : Nat) (l3 : List Nat) (m3 : Bool) (A4 : Option Addr) (c4 : Nat) (l4 : List Nat) (m4 : Bool) (x y : Rat) (w : World) (h1 : QV w A1 c1 l1 m1 A2 c2 l2 m2 x) (h2 : QV w A3 c3 l3 m3 A4 c4 l4 m4 y) (sx : Wd.yx ek K x) (sy : Wd.yx ek K y) (hK : 4 * K + 4 ≤ 35184372088832) :
  Calls Tryz.prog 62 #[.agg #[.slice A1 l1.length c1, .bool m1, .slice A2 l2.length c2, .bool m2], .agg #[.slice A3 l3.length c3, .bool m3, .slice A4 l4.length c4, .bool m4]] w fun e w' => QR w (x * y) e w' := by
 obtain ⟨d1, q1, g1⟩ := acz h1
 obtain ⟨d2, q2, g2⟩ := acz h2
 have hx := x.den_nz; have hy := y.den_nz
 have an := Te (w := w) sx.1 sy.1 om rfl
 have am := Te (w := w) sx.2 sy.2 om rfl
 have ar := aeq (w := w) (sx.1.mul sy.1) (sx.2.mul sy.2) (Int.mul_ne_zero om om) om (Wd.alx x y)
 refine (apo (s := x.num * y.num) (m3 := (x.den : Int) * (y.den : Int)) (a := (x * y).num) (b := ((x * y).den : Int)) w _ g1 _ g2 (Zj w q1) (Zj w q2) (ajy w rfl) (ajy w rfl) ?_).mono fun e w' h => api h
 by_cases e1 : (x.den : Int) = 1
 ·
  by_cases e2 : (y.den : Int) = 1
  ·
   exact .inl ⟨decide_eq_true e1, decide_eq_true e2, (Wd.axf e1 e2).2, cw2 (Te sx.1 sy.1 om (Wd.axf e1 e2).1.symm)⟩
  ·
   exact .inr ⟨.inr ⟨decide_eq_true e1, decide_eq_false e2⟩, cw2 an, cw2 am, cwq ar⟩
 ·
  exact .inr ⟨.inl (decide_eq_false e1), cw2 an, cw2 am, cwq ar⟩
theorem anx (K : Nat) (A1 : Option Addr) (c1 : Nat) (l1 : List Nat) (m1 : Bool) (A2 : Option Addr) (c2 : Nat) (l2 : List Nat) (m2 : Bool) (A3 : Option Addr) (c3 : Nat) (l3 : List Nat) (m3 : Bool) (A4 : Option Addr) (c4 : Nat) (l4 : List Nat) (m4 : Bool) (x y : Rat) (w : World) (h1 : QV w A1 c1 l1 m1 A2 c2 l2 m2 x) (h2 : QV w A3 c3 l3 m3 A4 c4 l4 m4 y) (sx : Wd.yx ek K x) (sy : Wd.yx ek K y) (hK : 4 * K + 4 ≤ 35184372088832) (h0 : y.num ≠ 0) :
  Calls Tryz.prog 64 #[.agg #[.slice A1 l1.length c1, .bool m1, .slice A2 l2.length c2, .bool m2], .agg #[.slice A3 l3.length c3, .bool m3, .slice A4 l4.length c4, .bool m4]] w fun e w' => QR w (x / y) e w' := by
 have hx := x.den_nz
 obtain ⟨d1, q1, g1⟩ := acz h1
 obtain ⟨d2, q2, g2⟩ := acz h2
 exact (apr (a := (x / y).num) (b := ((x / y).den : Int)) w _ g1 _ g2 (Zj w q1) (Zj w q2) (cw2 (Te sx.1 sy.2 om rfl)) (cw2 (Te sx.2 sy.1 om rfl)) (cwq (aeq (sx.1.mul sy.2) (sx.2.mul sy.1) (Int.mul_ne_zero om h0) om (Wd.bik x y)))).mono fun e w' h => api h
end Go.Proofs.YtfgeaakhlcaibaaGreatDoor
namespace Go.Proofs.YtfgeaakhlcaibaaGreatDoor
open Go.RowKit



theorem ads (n : Int) (q : Rat) (w : World) (b1 : -9223372036854775808 ≤ n) (b2 : n ≤ 9223372036854775807) (hn : n = q.num) (hd : (1 : Int) = (q.den : Int)) :
  Calls Tryz.prog 95 #[.int .i64 n] w fun e w' => QR w q e w' := by
 have Rz := hide (fun W => (Qd n W b1 b2).mono (fun e w' h => h.1))
 have HO2 := hide Wu
 have HN := Lib.hid hn; have HD := Lib.hid hd
 clear b1 b2 hn hd
 go_enter Tryz.func95, Tryz.ntmps95
 go_wp2_with fail
 obtain ⟨n0, hsz, hw0⟩ := Jf w (.cells #[.slice none 0 0, .bool false, .slice none 0 0, .bool false] 68)
 generalize (w.alloc (.cells #[.slice none 0 0, .bool false, .slice none 0 0, .bool false] 68)) = W0 at *
 have p0 : W0.cell? ⟨w.heap.size, 0, none⟩ = some (.slice none 0 0) := ag n0 0
 have p1 : W0.cell? ⟨w.heap.size, 1, none⟩ = some (.bool false) := ag n0 1
 have p2 : W0.cell? ⟨w.heap.size, 2, none⟩ = some (.slice none 0 0) := ag n0 2
 have p3 : W0.cell? ⟨w.heap.size, 3, none⟩ = some (.bool false) := ag n0 3
 have v0 := ai n0 0; have v1 := ai n0 1; have v2 := ai n0 2; have v3 := ai n0 3
 have q0 := lt_of_block n0
 have NR := Lib.hid n0
 clear n0 hsz
 refine ((aa Rz) _).mono ?_
 rintro e W1 ⟨A1, c1, l1, m1, rfl, f1, hb1⟩
 have F1 := hide f1; have HB1 := hide hb1
 clear f1 hb1
 go_wp2_with fail
 refine ((aa HO2) _).mono ?_
 rintro e W2 ⟨A2, c2, l2, m2, rfl, f2, hb2⟩
 have F1' := hide ((aa F1).below hb2)
 have hb2' := bg (aa HB1) hb2
 obtain ⟨hc, hfz⟩ := dz hb2'
 have hblk := (hb2'.block _ q0).trans NR.out
 have jy := Lib.hid hblk
 have F2 := hide f2; have jh := bg hw0 hb2'
 have HB9 := hide jh
 clear f2 hb2 hb2' hblk jh
 go_wp2_with fail
 exact bodyPost_ret (v := .agg #[.slice A1 l1.length c1, .bool m1, .slice A2 l2.length c2, .bool m2]) (by simp [results, Tryz.results95, go_sem, hc, p0, p1, p2, p3, q0]) rfl
  ⟨A1, c1, l1, m1, A2, c2, l2, m2, rfl, HN.out ▸ (aa F1').upto jy.out (Bb _ _ _ _ _ _ _ _) (ou _ _ _ _ _ _), HD.out ▸ (aa F2).upto jy.out (Bb _ _ _ _ _ _ _ _) (ou _ _ _ _ _ _), (aa HB9).grown (ou _ _ _ _ _ _) (aa HB9).size (fun k hk => by injection hk with hk; omega)⟩


theorem apq (A1 : Option Addr) (c1 : Nat) (l1 : List Nat) (m1 : Bool) (A2 : Option Addr) (c2 : Nat) (l2 : List Nat) (m2 : Bool) (z1 : Int) (p q : Rat) (w : World) 
  (hi : ∀ W, Calls Tryz.prog 95 #[.int .i64 1] W fun e w' => QR W p e w') (hd : ∀ (A7 : Option Addr) (c7 : Nat) (l7 : List Nat) (m7 : Bool) (A8 : Option Addr) (c8 : Nat) (l8 : List Nat) (m8 : Bool) (W : World), Below w.heap.size w W → iq W A7 c7 l7 m7 p.num → iq W A8 c8 l8 m8 (p.den : Int) → Calls Tryz.prog 64 #[(Value.agg #[.slice A7 l7.length c7, .bool m7, .slice A8 l8.length c8, .bool m8]), (Value.agg #[.slice A1 l1.length c1, .bool m1, .slice A2 l2.length c2, .bool m2])] W fun e w' => QR W q e w') :
  Calls Tryz.prog 90 #[(Value.agg #[.slice A1 l1.length c1, .bool m1, .slice A2 l2.length c2, .bool m2])] w fun e w' => QR w q e w' := by
 have HI := hide hi
 have HD := hide hd
 clear hi hd
 go_enter Tryz.func90, Tryz.ntmps90
 go_upto_region 1 with fail
 obtain ⟨n0, n1, hsz, hw0⟩ := qw w (.cells #[.slice A1 l1.length c1, .bool m1, .slice A2 l2.length c2, .bool m2] 68) (.cells #[.slice none 0 0, .bool false, .slice none 0 0, .bool false] 68)
 generalize ((w.alloc (.cells #[.slice A1 l1.length c1, .bool m1, .slice A2 l2.length c2, .bool m2] 68)).alloc (.cells #[.slice none 0 0, .bool false, .slice none 0 0, .bool false] 68)) = W0 at *
 have uh : W0.cell? ⟨w.heap.size, 0, none⟩ = some (.slice A1 l1.length c1) := ag n0 0
 have ug : W0.cell? ⟨w.heap.size, 1, none⟩ = some (.bool m1) := ag n0 1
 have yz : W0.cell? ⟨w.heap.size, 2, none⟩ = some (.slice A2 l2.length c2) := ag n0 2
 have Aw : W0.cell? ⟨w.heap.size, 3, none⟩ = some (.bool m2) := ag n0 3
 have q0 : w.heap.size < W0.heap.size := by omega
 have xu : W0.cell? ⟨w.heap.size + 1, 0, none⟩ = some (.slice none 0 0) := ag n1 0
 have xq : W0.cell? ⟨w.heap.size + 1, 1, none⟩ = some (.bool false) := ag n1 1
 have Dw : W0.cell? ⟨w.heap.size + 1, 2, none⟩ = some (.slice none 0 0) := ag n1 2
 have Mk : W0.cell? ⟨w.heap.size + 1, 3, none⟩ = some (.bool false) := ag n1 3
 have q1 : w.heap.size + 1 < W0.heap.size := by omega
 have Mw := ai n1 0
 have Mv := ai n1 1
 have amt := ai n1 2
 have ams := ai n1 3
 have NR := Lib.hid n1
 clear hsz n0 n1
 go_upto_region 1 with fail
 have KEEP := hide (show ∀ X, Below W0.heap.size W0 X → X.cell? ⟨w.heap.size, 0, none⟩ = some (.slice A1 l1.length c1) ∧ X.cell? ⟨w.heap.size, 1, none⟩ = some (.bool m1) ∧ X.cell? ⟨w.heap.size, 2, none⟩ = some (.slice A2 l2.length c2) ∧ X.cell? ⟨w.heap.size, 3, none⟩ = some (.bool m2) from fun X hB => ⟨fw hB q0 uh, fw hB q0 ug, fw hB q0 yz, fw hB q0 Aw⟩)
 go_region_held3 (fun w' => w'.cell? ⟨w.heap.size, 0, none⟩ = some (.slice A1 l1.length c1) ∧ w'.cell? ⟨w.heap.size, 1, none⟩ = some (.bool m1) ∧ w'.cell? ⟨w.heap.size, 2, none⟩ = some (.slice A2 l2.length c2) ∧ w'.cell? ⟨w.heap.size, 3, none⟩ = some (.bool m2)) (first | with_reducible exact ⟨(Oa _ _ _ _ _ _ om).trans (fw hbw q0 uh), (Oa _ _ _ _ _ _ om).trans (fw hbw q0 ug), (Oa _ _ _ _ _ _ om).trans (fw hbw q0 yz), (Oa _ _ _ _ _ _ om).trans (fw hbw q0 Aw)⟩ | with_reducible exact (aa KEEP) _ bel) (first | (go_at_call_of 95 (Value.int .i64 1); refine ((aa HI) _).mono ?_; rintro e w' ⟨A5, c5, l5, m5, A6, c6, l6, m6, rfl, xg, Ei, hb5⟩; have hbw := bz (w := W0) bel hb5; have hsw := hbw.size; obtain ⟨hc, hfz⟩ := dz hbw) | (go_at_call_of 64 (Value.agg #[.slice A5 l5.length c5, .bool m5, .slice A6 l6.length c6, .bool m6]); refine ((aa HD) A5 c5 l5 m5 A6 c6 l6 m6 _ (bg hw0 bel) (iq.below xg bel) (iq.below Ei bel)).mono ?_; rintro e w' ⟨A7, c7, l7, m7, A8, c8, l8, m8, rfl, hf7, Zd, Ph⟩; have xg := iq.below (iq.below xg bel) Ph; have Ei := iq.below (iq.below Ei bel) Ph; have hbw := bz (w := W0) bel Ph; have hsw := hbw.size; obtain ⟨hc, hfz⟩ := dz hbw))
 all_goals
  have hblk : w'.heap[w.heap.size + 1]? = some (.cells #[.slice none 0 0, .bool false, .slice none 0 0, .bool false] 68 (0, 0)) := (hbw.block _ q1).trans NR.out
  have jy := Lib.hid hblk
  have jh : Below w.heap.size w w' := bg hw0 hbw
  have hfi := (hf7)
  have hfj := (Zd)
  clear hblk
  go_wp2_with fail
  exact bodyPost_ret (v := (Value.agg #[.slice A7 l7.length c7, .bool m7, .slice A8 l8.length c8, .bool m8])) (by simp [results, Tryz.results90, go_sem, hc, xu, xq, Dw, Mk, q1]) rfl
   ⟨A7, c7, l7, m7, A8, c8, l8, m8, rfl, hfi.upto jy.out (Bb _ _ _ _ _ _ _ _) (ou _ _ _ _ _ _), hfj.upto jy.out (Bb _ _ _ _ _ _ _ _) (ou _ _ _ _ _ _), jh.grown (ou _ _ _ _ _ _) jh.size (fun k hk => by injection hk with hk; omega)⟩

theorem Wd.Yy (n : Int) : n = (Rat.divInt n 1).num ∧ (1 : Int) = ((Rat.divInt n 1).den : Int) := ⟨(Wd.adb n).1.symm, by rw [(Wd.adb n).2]; rfl⟩
theorem anw (K : Nat) (A1 : Option Addr) (c1 : Nat) (l1 : List Nat) (m1 : Bool) (A2 : Option Addr) (c2 : Nat) (l2 : List Nat) (m2 : Bool) (x : Rat) (w : World) (h : QV w A1 c1 l1 m1 A2 c2 l2 m2 x) (sx : Wd.yx ek K x) (h1 : 1 ≤ K) (hK : 4 * K + 4 ≤ 35184372088832) (h0 : x.num ≠ 0) :
  Calls Tryz.prog 90 #[(Value.agg #[.slice A1 l1.length c1, .bool m1, .slice A2 l2.length c2, .bool m2])] w fun e w' => QR w (Rat.divInt 1 1 / x) e w' := by
 have s1 : Wd.yx ek K (Rat.divInt 1 1) := by
  have e : 1 < ek ^ K := Nat.one_lt_pow om Cm
  unfold Wd.yx Wd.Sz
  rw [← (Wd.Yy 1).1, ← (Wd.Yy 1).2]
  exact ⟨e, e⟩
 exact apq A1 c1 l1 m1 A2 c2 l2 m2 0 (Rat.divInt 1 1) (Rat.divInt 1 1 / x) w (fun W => ads 1 _ W om om (Wd.Yy 1).1 (Wd.Yy 1).2)
  (fun A7 c7 l7 m7 A8 c8 l8 m8 W hW f g => anx K A7 c7 l7 m7 A8 c8 l8 m8 A1 c1 l1 m1 A2 c2 l2 m2 _ x W (QV.of f g) (h.below hW) s1 sx hK h0)
end Go.Proofs.YtfgeaakhlcaibaaGreatDoor
namespace Go.Proofs.YtfgeaakhlcaibaaGreatDoor
namespace Wd

def simp : Nat → Nat → Nat → Nat → Nat → Nat × Nat
 | 0, _, _, _, _ => (0, 1)
 | f + 1, a, b, c, d => if b = 1 then (a, 1) else if a / b < c / d then (a / b + 1, 1)
  else (a / b * (simp f d (c - a / b * d) b (a - a / b * b)).1 + (simp f d (c - a / b * d) b (a - a / b * b)).2, (simp f d (c - a / b * d) b (a - a / b * b)).1)

structure ahn (a b c d : Nat) : Prop where
 pa : 0 < a
 pb : 0 < b
 pc : 0 < c
 pd : 0 < d
 co : a.Coprime b
 co2 : c.Coprime d
 le : a * d ≤ c * b

theorem Vw (a b : Nat) : a - a / b * b = a % b := by
 have := Nat.div_add_mod a b
 rw [Nat.mul_comm] at this
 omega
theorem ahn.step {a b c d : Nat} (h : ahn a b c d) (hb : b ≠ 1) (hk : ¬ a / b < c / d) :
  ahn d (c - a / b * d) b (a - a / b * b) ∧ c / d = a / b ∧ c - a / b * d = c % d ∧ c - a / b * d < d ∧ a - a / b * b < b := by
 have ha := h.pa; have hb0 := h.pb; have hc := h.pc; have hd := h.pd
 have e1 := Nat.div_add_mod a b
 have r0 : a % b ≠ 0 := fun e => by
  have hdv := Nat.dvd_of_mod_eq_zero e
  have := Nat.Coprime.eq_one_of_dvd h.co.symm hdv
  exact hb this
 have hkd : a / b ≤ c / d := by
  rw [Nat.le_div_iff_mul_le hd]
  have h2 : a / b * b * d ≤ c * b := Nat.le_trans (Nat.mul_le_mul_right _ (Nat.div_mul_le_self a b)) h.le
  rw [Nat.mul_right_comm] at h2
  exact Nat.le_of_mul_le_mul_right h2 hb0
 have hq : c / d = a / b := by omega
 have e2 : c - a / b * d = c % d := by rw [← hq]; exact Vw c d
 have e3 := Vw a b
 have e4 := Nat.div_add_mod c d
 have hle : a % b * d ≤ c % d * b := by
  have hle := h.le
  rw [hq] at e4
  generalize a / b = k at *
  generalize a % b = r at *
  generalize c % d = s at *
  subst e1 e4
  rw [Nat.add_mul, Nat.add_mul] at hle
  have : b * k * d = d * k * b := by rw [Nat.mul_comm b k, Nat.mul_assoc, Nat.mul_comm b d, ← Nat.mul_assoc, Nat.mul_comm k d]
  omega
 have s0 : 0 < c % d := by
  rcases Nat.eq_zero_or_pos (c % d) with e | e
  ·
   rw [e, Nat.zero_mul] at hle
   have := Nat.mul_pos (Nat.pos_of_ne_zero r0) hd
   omega
  ·
   exact e
 rw [e2, e3]
 refine ⟨⟨hd, s0, hb0, Nat.pos_of_ne_zero r0, ?_, ?_, ?_⟩, hq, rfl, Nat.mod_lt _ hd, Nat.mod_lt _ hb0⟩
 ·
  have := h.co2
  unfold Nat.Coprime at *
  rw [Nat.gcd_comm, ← Nat.gcd_rec, Nat.gcd_comm]; exact this
 ·
  have := h.co
  unfold Nat.Coprime at *
  rw [Nat.gcd_comm, ← Nat.gcd_rec, Nat.gcd_comm]; exact this
 ·
  rw [Nat.mul_comm, Nat.mul_comm b]; exact hle
def fr (n d : Nat) : Rat := Rat.divInt (n : Int) (d : Int)
end Wd
namespace Wd

def cf : Nat → Int → Int → List Int
 | 0, _, _ => []
 | f + 1, n, d => if d = 0 then [] else n / d :: cf f d (n % d)
theorem ard : ∀ (f : Nat) (n d : Int), (cf f n d).length ≤ f
 | 0, _, _ => Nat.le_refl _
 | f + 1, n, d => by
  unfold cf
  split
  ·
   exact Nat.zero_le _
  ·
   have := ard f d (n % d)
   rw [List.length_cons]; omega
theorem bbb (f : Nat) (n : Int) : cf f n 0 = [] := by
 cases f with
 | zero => rfl
 | succ f => simp [cf]
structure Lu (L l : List Int) (n d : Int) : Prop where
 ok : ∃ f : Nat, d < f ∧ l ++ cf f n d = L ∧ L.length ≤ l.length + f
 d0 : 0 ≤ d
 nb : -1000000000000 ≤ n ∧ n ≤ 1000000000000
 db : d ≤ 1000000000000
theorem Lu.start {n d : Int} (h : oo n d) : Lu (cf (d.toNat + 1) n d) [] n d := by
 obtain ⟨h1, h2, h3, h4, _⟩ := h
 exact ⟨⟨d.toNat + 1, by omega, rfl, by have := ard (d.toNat + 1) n d; simpa using this⟩, by omega, ⟨by omega, by omega⟩, by omega⟩
theorem Lu.step {L l : List Int} {n d : Int} (h : Lu L l n d) (hd : 0 < d) : Lu L (l ++ [n / d]) d (n % d) ∧ n - n / d * d = n % d ∧ -1000000000000 ≤ n / d ∧ n / d ≤ 1000000000000 ∧ -2000000000000 ≤ n / d * d ∧ n / d * d ≤ 2000000000000 := by
 obtain ⟨⟨f, h1, h2, h3⟩, h4, h5, h6⟩ := h
 have e1 := Int.emod_nonneg n (show d ≠ 0 by omega)
 have e2 := Int.emod_lt_of_pos n hd
 have e3 := Int.mul_ediv_add_emod n d
 rw [Int.mul_comm] at e3
 have lo : -1000000000000 ≤ n / d := by
  rw [Int.le_ediv_iff_mul_le hd]
  omega
 have hi : n / d ≤ 1000000000000 := by
  rcases Int.lt_or_le n 0 with hn | hn
  ·
   have : n / d < 0 := Int.ediv_neg_of_neg_of_pos hn hd
   omega
  ·
   have := Int.ediv_le_self d hn
   omega
 have e4 : n - n / d * d = n % d ∧ -2000000000000 ≤ n / d * d ∧ n / d * d ≤ 2000000000000 := by
  generalize n / d * d = t at *
  generalize n % d = r at *
  exact ⟨by omega, by omega, by omega⟩
 refine ⟨⟨?_, e1, by omega, by omega⟩, e4.1, lo, hi, e4.2.1, e4.2.2⟩
 cases f with
 | zero => omega
 | succ f =>
  refine ⟨f, by omega, ?_, by simp; omega⟩
  rw [← h2]
  simp only [cf, if_neg (show ¬ d = 0 by omega), List.append_assoc, List.cons_append, List.nil_append]
theorem Lu.done {L l : List Int} {n : Int} (h : Lu L l n 0) : l = L := by
 obtain ⟨⟨f, h1, h2, h3⟩, _, _, _⟩ := h
 rw [bbb, List.append_nil] at h2
 exact h2
theorem Lu.len {L l : List Int} {n d : Int} (h : Lu L l n d) (hL : L.length ≤ 1000000000001) : l.length ≤ 1000000000001 := by
 obtain ⟨⟨f, h1, h2, h3⟩, _, _, _⟩ := h
 rw [← h2, List.length_append] at hL
 omega
end Wd
namespace Wd

theorem Hy (a : Int) : (Rat.divInt a 1).num = a ∧ ((Rat.divInt a 1).den : Int) = 1 := by
 have h : Rat.divInt a 1 = (a : Rat) := by
  rw [← Rat.num_divInt_den (a : Rat)]; rfl
 rw [h]
 exact ⟨rfl, rfl⟩
def arl (l : List Int) : Prop := 0 < l.length ∧ (∀ i, i < l.length → 1 ≤ i → 1 ≤ l.getD i 0) ∧ (l.length = 1 ∨ l.getD (l.length - 1) 0 ≠ 1)
instance (l : List Int) : Decidable (arl l) := by unfold arl; infer_instance
end Wd
end Go.Proofs.YtfgeaakhlcaibaaGreatDoor
namespace Go.Proofs.YtfgeaakhlcaibaaGreatDoor
open Go.RowKit

theorem avl (x q : Rat) (w : World) (u1 : Value) (h1 : Db x w u1) (ha : (x.den : Int) = q.num) (hb : (1 : Int) = (q.den : Int))
  (hden : ∀ (W : World) (v0 : Value), Db (x) W v0 → Calls Tryz.prog 130 #[v0] W (ib (Bi (x.den)) W))
  (hone : ∀ (W : World) , Calls Tryz.prog 142 #[] W (ib (Bi (1)) W)) :
  Calls Tryz.prog 82 #[u1] w (ib (Db q) w) := by
 obtain ⟨A1, c1, l1, m1, A2, c2, l2, m2, rfl, hq1⟩ := h1
 have biy := hide hden
 have bix := hide hone
 have HHA := hide ha
 have HHB := hide hb
 clear hden hone ha hb
 go_enter Tryz.func82, Tryz.ntmps82
 go_upto_region 1 with fail
 have hO := (Own.bhr (Own.push (Own.nil w) (hq1.below (Below.refl _ _)) (w.heap.size) rfl) (w.heap.size + 1) (by simp only [World.size_alloc]))
 generalize (w.alloc (.cells #[.slice A1 l1.length c1, .bool m1, .slice A2 l2.length c2, .bool m2] 68)).alloc (.cells #[.slice none 0 0, .bool false, .slice none 0 0, .bool false] 68) = W0 at *
 have HO := hide hO
 clear hO
 go_upto_region 1 with fail
 refine Rg.dh 4 7 (Rg.pick [Db (x), Bi (x.den : Int), Bi 1, Db (q)]) (ay w _ W0) eu [] kr rfl (Rg.dw.pick ⟨Uz _, Hq _, Hq _, Uz _, trivial⟩) (ay.begin (aa HO))
  (Rg.df (Rg.plain rfl (aaf rfl aF (fun W h => ay.box (List.Mem.tail _ (List.Mem.head _)) h) rfl))
   (Rg.df (Rg.plain rfl (Bo Tryz.func130 kr rfl ay.step (aT 0) (fun W v0 hG h0 => aa biy W v0 h0)))
   (Rg.df (Rg.plain rfl (Hu Tryz.func142 kr rfl ay.step  (fun W  hG  => aa bix W)))
   (Rg.df (Rg.plain rfl (asw rfl (aT 1) (aT 2) (aa HHA) (aa HHB) rfl))
   Rg.bf)))) ?_
 intro v V1 hG1 hv hne
 clear hne
 simp only [Rg.puts, List.take_succ_cons, List.take_zero, List.drop_succ_cons, List.drop_zero, Act.put, List.setIfInBounds_toArray, List.set_cons_zero, List.set_cons_succ]
 obtain ⟨bja, bir, bie, bic, biz, biq, bid, bib, e3, f3⟩ := (show Db (q) V1 (v 3) from hv 3 de)
 simp only [e3]
 have hO := hG1.1
 obtain ⟨-, _, _, _, _, _, _, _, _, hz, -⟩ := hO.box (w.heap.size + 1) (0) (List.Mem.head _)
 have Fa := ag hz 0
 have Sv := ai hz 0
 have Ez := ag hz 1
 have Su := ai hz 1
 have Ey := ag hz 2
 have Sr := ai hz 2
 have Ex := ag hz 3
 have Sq := ai hz 3
 have Fh := lt_of_block hz
 clear hz
 go_wp2_with fail
 replace hO := Own.set (xs := []) (ys := [(w.heap.size, x)]) hO f3
 unfold bcp at hO
 generalize (((V1.setCell ⟨w.heap.size + 1, 0, none⟩ (.slice bja bie.length bir)).setCell ⟨w.heap.size + 1, 1, none⟩ (.bool bic)).setCell ⟨w.heap.size + 1, 2, none⟩ (.slice biz bid.length biq)).setCell ⟨w.heap.size + 1, 3, none⟩ (.bool bib) = U1 at *
 try clear Fa Sv Ez Su Ey Sr Ex Sq hG1
 try clear e3 f3 Fh
 try clear hv
 replace HO := hide hO
 clear hO
 obtain ⟨Tx, Vv, Vt, Vo, Vq, Vu, Vs, Vn, Vp, zq, Vr⟩ := (aa HO).box _ _ (List.Mem.head _)
 have Fa := ag zq 0
 have Ez := ag zq 1
 have Ey := ag zq 2
 have Ex := ag zq 3
 have Fh := lt_of_block zq
 clear zq Tx
 go_wp2_with fail
 exact bodyPost_ret (v := .agg #[.slice Vv Vo.length Vt, .bool Vq, .slice Vu Vn.length Vs, .bool Vp]) (by simp [results, Tryz.results82, go_sem, Fa, Ez, Ey, Ex, Fh]) rfl
  ⟨_, rfl, (aa HO).bel, ⟨_, _, _, _, _, _, _, _, rfl, Vr⟩⟩
theorem avp (x y : Rat) (o : Int) (w : World) (u1 u2 : Value) (h1 : Db x w u1) (h2 : Db y w u2)
  (axu : ∀ (W : World) (v0 : Value), Db (y) W v0 → Calls Tryz.prog 130 #[v0] W (ib (Bi (y.den)) W))
  (hm1 : ∀ (W : World) (v0 v1 : Value), Bi (x.num) W v0 → Bi (y.den) W v1 → Calls Tryz.prog 133 #[v0, v1] W (ib (Bi (x.num * (y.den : Int))) W))
  (axt : ∀ (W : World) (v0 : Value), Db (x) W v0 → Calls Tryz.prog 130 #[v0] W (ib (Bi (x.den)) W))
  (hm2 : ∀ (W : World) (v0 v1 : Value), Bi (y.num) W v0 → Bi (x.den) W v1 → Calls Tryz.prog 133 #[v0, v1] W (ib (Bi (y.num * (x.den : Int))) W))
  (hc : ∀ (W : World) (v0 v1 : Value), Bi (x.num * (y.den : Int)) W v0 → Bi (y.num * (x.den : Int)) W v1 → Calls Tryz.prog 151 #[v0, v1] W (ib (Rg.au (.int .i64 o)) W)) :
  Calls Tryz.prog 81 #[u1, u2] w (ib (Rg.au (.int .i64 o)) w) := by
 obtain ⟨A1, c1, l1, m1, A2, c2, l2, m2, rfl, hq1⟩ := h1
 obtain ⟨A3, c3, l3, m3, A4, c4, l4, m4, rfl, hq3⟩ := h2
 have bgv := hide axu
 have bog := hide hm1
 have bgu := hide axt
 have bof := hide hm2
 have HHC := hide hc
 clear axu hm1 axt hm2 hc
 go_enter Tryz.func81, Tryz.ntmps81
 go_upto_region 1 with fail
 have hO := (Own.push (Own.push (Own.nil w) (hq1.below (Below.refl _ _)) (w.heap.size) rfl) (hq3.below (by repeat (first | exact Below.refl _ _ | refine gy ?_ _))) (w.heap.size + 1) (by simp only [World.size_alloc]))
 generalize (w.alloc (.cells #[.slice A1 l1.length c1, .bool m1, .slice A2 l2.length c2, .bool m2] 68)).alloc (.cells #[.slice A3 l3.length c3, .bool m3, .slice A4 l4.length c4, .bool m4] 68) = W0 at *
 have HO := hide hO
 clear hO
 go_upto_region 1 with fail
 refine Rg.region 12 16 (Rg.pick [Rg.au (.pointer (some ⟨w.heap.size, 0, none⟩)), Bi (x).num, Db (y), Bi (y.den : Int), Bi (x.num * (y.den : Int)), Rg.au (.pointer (some ⟨w.heap.size + 1, 0, none⟩)), Bi (y).num, Db (x), Bi (x.den : Int), Bi (y.num * (x.den : Int)), Rg.au (.int .i64 o), Rg.au (.int .i64 o)]) (ay w _ W0) eu [] kr kr rfl (Rg.dw.pick ⟨Rg.ae _, Hq _, Uz _, Hq _, Hq _, Rg.ae _, Hq _, Uz _, Hq _, Hq _, Rg.ae _, Rg.ae _, trivial⟩) (ay.start (aa HO))
  (Rg.df (Rg.plain rfl (ajd rfl aF rfl))
   (Rg.df (Rg.plain rfl (ajc rfl (aT 0) (fun W h => ay.box (List.Mem.tail _ (List.Mem.head _)) h) rfl))
   (Rg.df (Rg.plain rfl (aaf rfl aF (fun W h => ay.box (List.Mem.head _) h) rfl))
   (Rg.df (Rg.plain rfl (Bo Tryz.func130 kr rfl ay.step (aT 2) (fun W v0 hG h0 => aa bgv W v0 h0)))
   (Rg.df (Rg.plain rfl (Dh Tryz.func133 kr rfl ay.step (aT 1) (aT 3) (fun W v0 v1 hG h0 h1 => aa bog W v0 v1 h0 h1)))
   (Rg.df (Rg.plain rfl (ajd rfl aF rfl))
   (Rg.df (Rg.plain rfl (ajc rfl (aT 5) (fun W h => ay.box (List.Mem.head _) h) rfl))
   (Rg.df (Rg.plain rfl (aaf rfl aF (fun W h => ay.box (List.Mem.tail _ (List.Mem.head _)) h) rfl))
   (Rg.df (Rg.plain rfl (Bo Tryz.func130 kr rfl ay.step (aT 7) (fun W v0 hG h0 => aa bgu W v0 h0)))
   (Rg.df (Rg.plain rfl (Dh Tryz.func133 kr rfl ay.step (aT 6) (aT 8) (fun W v0 v1 hG h0 h1 => aa bof W v0 v1 h0 h1)))
   (Rg.df (Rg.plain rfl (Dh Tryz.func151 kr rfl ay.step (aT 4) (aT 9) (fun W v0 v1 hG h0 h1 => aa HHC W v0 v1 h0 h1)))
   (Rg.df (Rg.plain rfl (jk rfl (aT 10)))
   Rg.bf)))))))))))) ?_
 intro v V1 hG1 hv hne
 clear hne
 simp only [Rg.puts, List.take_succ_cons, List.take_zero, List.drop_succ_cons, List.drop_zero, Act.put, List.setIfInBounds_toArray, List.set_cons_zero, List.set_cons_succ]
 have e11 : v 11 = .int .i64 o := hv 11 de
 simp only [e11]
 have hO := hG1.1
 clear hG1
 try clear e11
 try clear hv
 replace HO := hide hO
 clear hO
 have HB := hide (aa HO).bel
 clear HO
 go_wp2_with fail
 all_goals first | go_ret | skip
 exact ⟨_, rfl, aa HB, rfl⟩
theorem ahh (x : Rat) (W : World) (v : Value) (h : Db x W v) : Calls Tryz.prog 130 #[v] W (ib (Bi (x.den : Int)) W) := by
 obtain ⟨A1, c1, l1, m1, A2, c2, l2, m2, rfl, hq⟩ := h
 exact (Sy A1 c1 l1 m1 A2 c2 l2 m2 x W hq).mono (fun e w' => Sj)
theorem bim (W : World) : Calls Tryz.prog 142 #[] W (ib (Bi 1) W) := (Wu W).mono (fun e w' => Sj)
theorem arf {a b : Int} {K : Nat} (ha : Wd.Sz ek K a) (hb : Wd.Sz ek K b) (hK : 4 * K + 4 ≤ 35184372088832) (W : World) (v0 v1 : Value) (h0 : Bi a W v0) (h1 : Bi b W v1) : Calls Tryz.prog 133 #[v0, v1] W (ib (Bi (a * b)) W) := by
 obtain ⟨A1, c1, l1, m1, rfl, f1⟩ := h0
 obtain ⟨A2, c2, l2, m2, rfl, f2⟩ := h1
 exact (adq A1 c1 l1 m1 a A2 c2 l2 m2 b W f1 f2 (by have := f1.len ha; have := f2.len hb; omega)).mono (fun e w' => Sj)
theorem bft {a b : Int} (W : World) (v0 v1 : Value) (h0 : Bi a W v0) (h1 : Bi b W v1) : Calls Tryz.prog 151 #[v0, v1] W (ib (Rg.au (.int .i64 (lh (a - b)))) W) := by
 obtain ⟨A1, c1, l1, m1, rfl, f1⟩ := h0
 obtain ⟨A2, c2, l2, m2, rfl, f2⟩ := h1
 exact (ass A1 c1 l1 m1 a A2 c2 l2 m2 b W f1 f2).mono (fun e w' h => ⟨_, h.1, h.2, rfl⟩)
theorem Zj (x : Rat) (W : World) (v : Value) (h : Db x W v) : Calls Tryz.prog 82 #[v] W (ib (Db (Rat.divInt (x.den : Int) 1)) W) :=
 avl x _ W v h (Wd.Hy _).1.symm (Wd.Hy _).2.symm (fun W v h => ahh x W v h) bim
theorem ayg {x y : Rat} {K : Nat} (sx : Wd.yx ek K x) (sy : Wd.yx ek K y) (hK : 4 * K + 4 ≤ 35184372088832) (W : World) (v0 v1 : Value) (h0 : Db x W v0) (h1 : Db y W v1) : Calls Tryz.prog 81 #[v0, v1] W (ib (Rg.au (.int .i64 (lh (x.num * (y.den : Int) - y.num * (x.den : Int))))) W) :=
 avp x y _ W v0 v1 h0 h1 (fun W v h => ahh y W v h) (fun W v0 v1 h0 h1 => arf sx.1 sy.2 hK W v0 v1 h0 h1) (fun W v h => ahh x W v h) (fun W v0 v1 h0 h1 => arf sy.1 sx.2 hK W v0 v1 h0 h1) (fun W v0 v1 h0 h1 => bft W v0 v1 h0 h1)
theorem bip (n : Int) (b1 : -9223372036854775808 ≤ n) (b2 : n ≤ 9223372036854775807) (W : World) : Calls Tryz.prog 95 #[.int .i64 n] W (ib (Db (Rat.divInt n 1)) W) :=
 (ads n _ W b1 b2 (Wd.Hy n).1.symm (Wd.Hy n).2.symm).mono (fun e w' => Yi)
theorem Rm {x y : Rat} {K : Nat} (sx : Wd.yx ek K x) (sy : Wd.yx ek K y) (hK : 4 * K + 4 ≤ 35184372088832)  (W : World) (v0 v1 : Value) (h0 : Db x W v0) (h1 : Db y W v1) : Calls Tryz.prog 62 #[v0, v1] W (ib (Db (x * y)) W) := by
 obtain ⟨A1, c1, l1, m1, A2, c2, l2, m2, rfl, f1⟩ := h0
 obtain ⟨A3, c3, l3, m3, A4, c4, l4, m4, rfl, f2⟩ := h1
 exact (anv K A1 c1 l1 m1 A2 c2 l2 m2 A3 c3 l3 m3 A4 c4 l4 m4 x y W f1 f2 sx sy hK).mono (fun e w' => Yi)

theorem aze (n d : Int) (w : World) (b1 : -9223372036854775808 ≤ n) (b2 : n ≤ 9223372036854775807) (b3 : -9223372036854775808 ≤ d) (b4 : d ≤ 9223372036854775807) (hd : d ≠ 0) :
  Calls Tryz.prog 58 #[.agg #[.int .i64 n, .int .i64 d]] w fun e w' => QR w (Rat.divInt n d) e w' := by
 have Rz := hide (fun W => (Qd n W b1 b2).mono (fun e w' h => h.1))
 have HO2 := hide (fun W => (Qd d W b3 b4).mono (fun e w' h => h.1))
 have k1 : n.natAbs < ek ^ 2 := by rw [fe]; omega
 have k2 : d.natAbs < ek ^ 2 := by rw [fe]; omega
 obtain ⟨q, hq⟩ : ∃ q, q = Rat.divInt n d := ⟨_, rfl⟩
 have HR := hide (fun (A1 : Option Addr) (c1 : Nat) (l1 : List Nat) (m1 : Bool) (A2 : Option Addr) (c2 : Nat) (l2 : List Nat) (m2 : Bool) (W : World) (f1 : iq W A1 c1 l1 m1 n) (f2 : iq W A2 c2 l2 m2 d) => Yb A1 c1 l1 m1 n A2 c2 l2 m2 d 2 W f1 f2 hd k1 k2 om)
 rw [← hq] at HR ⊢
 clear b1 b2 b3 b4 hd k1 k2 hq
 go_enter Tryz.func58, Tryz.ntmps58
 go_wp2_with fail
 obtain ⟨nx, n0, hsz, hw0⟩ := qw w (.cells #[.int .i64 n, .int .i64 d] 23) (.cells #[.slice none 0 0, .bool false, .slice none 0 0, .bool false] 68)
 generalize ((w.alloc (.cells #[.int .i64 n, .int .i64 d] 23)).alloc (.cells #[.slice none 0 0, .bool false, .slice none 0 0, .bool false] 68)) = W0 at *
 have x0 : W0.cell? ⟨w.heap.size, 0, none⟩ = some (.int .i64 n) := ag nx 0
 have x1 : W0.cell? ⟨w.heap.size, 1, none⟩ = some (.int .i64 d) := ag nx 1
 have qx := lt_of_block nx
 clear nx
 have p0 : W0.cell? ⟨w.heap.size + 1, 0, none⟩ = some (.slice none 0 0) := ag n0 0
 have p1 : W0.cell? ⟨w.heap.size + 1, 1, none⟩ = some (.bool false) := ag n0 1
 have p2 : W0.cell? ⟨w.heap.size + 1, 2, none⟩ = some (.slice none 0 0) := ag n0 2
 have p3 : W0.cell? ⟨w.heap.size + 1, 3, none⟩ = some (.bool false) := ag n0 3
 have v0 := ai n0 0; have v1 := ai n0 1; have v2 := ai n0 2; have v3 := ai n0 3
 have q0 := lt_of_block n0
 have NR := Lib.hid n0
 clear n0 hsz
 go_region_with (first | (go_at_call_of 129 (Value.int .i64 n); refine ((aa Rz) _).mono ?_; rintro e w' ⟨A1, c1, l1, m1, rfl, f1n, hb⟩; (try (first | replace f2 := iq.below f2 hb | replace f2 := (iq.below f2 (Below.drew (Below.refl _ _))).below hb)); have f1 := f1n; clear f1n; have hbw := bz (w := W0) (by (first | with_reducible assumption | (repeat (first | with_reducible exact Below.refl _ _ | with_reducible assumption | refine Below.drew ?_ | (refine Below.alloc ?_ (by simp <;> omega) _))))) hb; obtain ⟨hc, hf⟩ := dz hbw) | (go_at_call_of 129 (Value.int .i64 d); refine ((aa HO2) _).mono ?_; rintro e w' ⟨A2, c2, l2, m2, rfl, f2n, hb⟩; (try (first | replace f1 := iq.below f1 hb | replace f1 := (iq.below f1 (Below.drew (Below.refl _ _))).below hb)); have f2 := f2n; clear f2n; have hbw := bz (w := W0) (by (first | with_reducible assumption | (repeat (first | with_reducible exact Below.refl _ _ | with_reducible assumption | refine Below.drew ?_ | (refine Below.alloc ?_ (by simp <;> omega) _))))) hb; obtain ⟨hc, hf⟩ := dz hbw) | (go_at_call 128; refine ((aa HR) A1 c1 l1 m1 A2 c2 l2 m2 _ (by first | exact f1 | exact iq.below f1 (Below.drew (Below.refl _ _))) (by first | exact f2 | exact iq.below f2 (Below.drew (Below.refl _ _)))).mono ?_; rintro e w' ⟨A3, c3, l3, m3, A4, c4, l4, m4, rfl, f3, f4, hb⟩; have hbw := bz (w := W0) (by (first | with_reducible assumption | (repeat (first | with_reducible exact Below.refl _ _ | with_reducible assumption | refine Below.drew ?_ | (refine Below.alloc ?_ (by simp <;> omega) _))))) hb; obtain ⟨hc, hf⟩ := dz hbw))
 all_goals
  have hblk := (hbw.block _ q0).trans NR.out
  have jh := bg hw0 hbw
  have jy := Lib.hid hblk; have F3 := hide f3; have F4 := hide f4; have HB9 := hide jh
  clear f3 f4 hblk jh
  go_wp2_with fail
  exact bodyPost_ret (v := .agg #[.slice A3 l3.length c3, .bool m3, .slice A4 l4.length c4, .bool m4]) (by simp [results, Tryz.results58, go_sem, hc, p0, p1, p2, p3, q0]) rfl
   ⟨A3, c3, l3, m3, A4, c4, l4, m4, rfl, (aa F3).upto jy.out (Bb _ _ _ _ _ _ _ _) (ou _ _ _ _ _ _), (aa F4).upto jy.out (Bb _ _ _ _ _ _ _ _) (ou _ _ _ _ _ _), (aa HB9).grown (ou _ _ _ _ _ _) (aa HB9).size (fun k hk => by injection hk with hk; omega)⟩


theorem alp {n d : Int} (h : Wd.oo n d) : -9223372036854775808 ≤ n ∧ n ≤ 9223372036854775807 ∧ -9223372036854775808 ≤ d ∧ d ≤ 9223372036854775807 ∧ d ≠ 0 := by
 obtain ⟨r1, r2, r3, r4, _⟩ := h
 exact ⟨by omega, by omega, by omega, by omega, by omega⟩
theorem bap {n d : Int} (h : Wd.oo n d) : Wd.yx ek 2 (Wd.qR n d) := by
 obtain ⟨a1, a2⟩ := Wd.Nl h
 obtain ⟨r1, r2, r3, r4, _⟩ := h
 unfold Wd.yx Wd.Sz
 rw [a1, a2, fe]
 exact ⟨by omega, by omega⟩
theorem bhw {n d : Int} (h : Wd.oo n d) (W : World) : Calls Tryz.prog 58 #[(Value.agg #[.int .i64 n, .int .i64 d])] W fun e w' => QR W (Wd.qR n d) e w' := by
 obtain ⟨b1, b2, b3, b4, b5⟩ := alp h
 exact aze n d W b1 b2 b3 b4 b5

theorem abd (A1 : Option Addr) (c1 : Nat) (l1 : List Nat) (m1 : Bool) (A2 : Option Addr) (c2 : Nat) (l2 : List Nat) (m2 : Bool) (q : Rat) (w : World) (h : QV w A1 c1 l1 m1 A2 c2 l2 m2 q) :
  Calls Tryz.prog 125 #[.agg #[.slice A1 l1.length c1, .bool m1, .slice A2 l2.length c2, .bool m2]] w fun e w' => bnz w q e w' := by
 have nz := hide (fun W (hW : Below w.heap.size w W) => Ya A1 c1 l1 m1 q.num W (h.num.below hW))
 have HS2 := hide (fun A c l m W (f : iq W A c l m (q.den : Int)) => Ya A c l m (q.den : Int) W f)
 have HD := hide (fun W (hW : Below w.heap.size w W) => Sy A1 c1 l1 m1 A2 c2 l2 m2 q W (h.below hW))
 have ht : (Wd.fits q → Wd.told q = ⟨q.num, q.den, 0⟩) ∧ (¬ Wd.fits q → Wd.told q = ⟨0, 0, 3⟩) := ⟨fun h => if_pos h, fun h => if_neg h⟩
 have hfi : Wd.fits q ↔ q.num.natAbs ≤ 1000000000000 ∧ q.den ≤ 1000000000000 := Iff.rfl
 have HT := hide (And.intro ht hfi)
 clear h ht hfi
 go_enter Tryz.func125, Tryz.ntmps125
 go_wp2_with fail
 obtain ⟨n0, n1, hsz, hw0⟩ := qw w (.cells #[.slice A1 l1.length c1, .bool m1, .slice A2 l2.length c2, .bool m2] 68) (.cells #[.int .i64 0, .int .i64 0] 23)
 generalize ((w.alloc (.cells #[.slice A1 l1.length c1, .bool m1, .slice A2 l2.length c2, .bool m2] 68)).alloc (.cells #[.int .i64 0, .int .i64 0] 23)) = W0 at *
 have k0 : W0.cell? ⟨w.heap.size, 0, none⟩ = some (.slice A1 l1.length c1) := ag n0 0
 have k1 : W0.cell? ⟨w.heap.size, 1, none⟩ = some (.bool m1) := ag n0 1
 have k2 : W0.cell? ⟨w.heap.size, 2, none⟩ = some (.slice A2 l2.length c2) := ag n0 2
 have k3 : W0.cell? ⟨w.heap.size, 3, none⟩ = some (.bool m2) := ag n0 3
 have p0 : W0.cell? ⟨w.heap.size + 1, 0, none⟩ = some (.int .i64 0) := ag n1 0
 have p1 : W0.cell? ⟨w.heap.size + 1, 1, none⟩ = some (.int .i64 0) := ag n1 1
 have v0 := ai n1 0; have v1 := ai n1 1
 have q0 := lt_of_block n0; have q1 := lt_of_block n1
 clear n0 n1 hsz
 refine ((aa nz) _ hw0).mono ?_
 rintro e W1 ⟨x1, ok1, rfl, hok1, hx1, hb1⟩
 obtain ⟨hc1, hf1⟩ := dz hb1
 have hw1 := bg hw0 hb1
 have OK1 := Lib.hid hok1; have X1 := hide hx1; have HB1 := hide hb1; have HW1 := hide hw1
 clear hok1 hx1 hb1 hw1
 go_wp2_with fail
 refine ((aa HD) _ (aa HW1)).mono ?_
 rintro e W2 ⟨A9, c9, l9, m9, rfl, f9, hb2⟩
 have F9 := hide f9
 clear f9
 have hb2' := bg (aa HB1) hb2
 obtain ⟨hc2, hf2⟩ := dz hb2'
 have hw2 := bg hw0 hb2'
 have HB2 := hide hb2'; have HW2 := hide hw2
 clear hb2 hb2' hw2 hc1 hf1
 go_wp2_with fail
 refine ((aa HS2) A9 c9 l9 m9 _ (aa F9)).mono ?_
 rintro e W3 ⟨x2, ok2, rfl, hok2, hx2, hb3⟩
 have aao := bg (aa HB2) hb3
 obtain ⟨hc3, hf3⟩ := dz aao
 have hw3 := bg hw0 aao
 have OK2 := Lib.hid hok2; have X2 := hide hx2; have HW3 := hide hw3
 have hg9 : ∀ u0 u1 : Value, Below w.heap.size w ((W3.setCell ⟨w.heap.size + 1, 0, none⟩ u0).setCell ⟨w.heap.size + 1, 1, none⟩ u1) := fun u0 u1 => hw3.grown (mh _ _ _ _) hw3.size (fun k hk => by injection hk with hk; omega)
 have HG9 := hide hg9
 clear hok2 hx2 hb3 aao hw3 hc2 hf2 hg9 nz HS2 HD HB1 HB2 HW1 HW2
 cases ok1 <;> cases ok2
 ·
  have hn : ¬ Wd.fits q := fun h => by have := (aa HT).2.1 h; have h2 := of_decide_eq_false OK1.out.symm; omega
  have HN := Lib.hid ((aa HT).1.2 hn)
  clear hn
  go_wp2_with fail
  exact bodyPost_ret (v := .tuple #[.agg #[.int .i64 0, .int .i64 0], .bool false]) (by simp [results, Tryz.results125, go_sem, hc3, p0, p1, q1]) rfl ⟨0, 0, false, rfl, (aa HG9) _ _, .inr ⟨rfl, HN.out⟩⟩
 ·
  have hn : ¬ Wd.fits q := fun h => by have := (aa HT).2.1 h; have h2 := of_decide_eq_false OK1.out.symm; omega
  have HN := Lib.hid ((aa HT).1.2 hn)
  clear hn
  go_wp2_with fail
  exact bodyPost_ret (v := .tuple #[.agg #[.int .i64 0, .int .i64 0], .bool false]) (by simp [results, Tryz.results125, go_sem, hc3, p0, p1, q1]) rfl ⟨0, 0, false, rfl, (aa HG9) _ _, .inr ⟨rfl, HN.out⟩⟩
 ·
  have hn : ¬ Wd.fits q := fun h => by have := (aa HT).2.1 h; have h2 := of_decide_eq_false OK2.out.symm; omega
  have HN := Lib.hid ((aa HT).1.2 hn)
  clear hn
  go_wp2_with fail
  exact bodyPost_ret (v := .tuple #[.agg #[.int .i64 0, .int .i64 0], .bool false]) (by simp [results, Tryz.results125, go_sem, hc3, p0, p1, q1]) rfl ⟨0, 0, false, rfl, (aa HG9) _ _, .inr ⟨rfl, HN.out⟩⟩
 ·
  have e1 := (aa X1) rfl
  have e2 := (aa X2) rfl
  subst e1 e2
  by_cases hfit : Wd.fits q
  ·
   have HN := Lib.hid ((aa HT).1.1 hfit)
   obtain ⟨a1, a2⟩ := (aa HT).2.1 hfit
   have d1 : decide (q.num < -1000000000000) = false := decide_eq_false om
   have d2 : decide (1000000000000 < q.num) = false := decide_eq_false om
   have d3 : decide ((1000000000000 : Int) < (q.den : Int)) = false := decide_eq_false om
   clear hfit
   go_wp2_with fail
   all_goals first | omega | skip
   exact bodyPost_ret (v := .tuple #[.agg #[.int .i64 q.num, .int .i64 q.den], .bool true]) (by simp [results, Tryz.results125, go_sem, hc3, p0, p1, q1]) rfl ⟨q.num, q.den, true, rfl, (aa HG9) _ _, .inl ⟨rfl, HN.out⟩⟩
  ·
   have HN := Lib.hid ((aa HT).1.2 hfit)
   have hor : q.num < -1000000000000 ∨ 1000000000000 < q.num ∨ (1000000000000 : Int) < (q.den : Int) := by
    have h1 := (aa HT).2.2
    by_cases a : q.num < -1000000000000
    ·
     exact .inl a
    by_cases b : 1000000000000 < q.num
    ·
     exact .inr (.inl b)
    by_cases c : (1000000000000 : Int) < (q.den : Int)
    ·
     exact .inr (.inr c)
    exact absurd (h1 ⟨by omega, by omega⟩) hfit
   clear hfit
   go_wp2_with fail
   all_goals first | omega | skip
   all_goals exact bodyPost_ret (v := .tuple #[.agg #[.int .i64 0, .int .i64 0], .bool false]) (by simp [results, Tryz.results125, go_sem, hc3, p0, p1, q1]) rfl ⟨0, 0, false, rfl, (aa HG9) _ _, .inr ⟨rfl, HN.out⟩⟩

namespace Sb
theorem Rp {W : World} {x : Rat} {v : Value} (h : ax [.r x] W v) : ∃ A1 c1 l1 m1 A2 c2 l2 m2, v = .agg #[.slice A1 (List.length l1) c1, .bool m1, .slice A2 (List.length l2) c2, .bool m2] ∧ QV W A1 c1 l1 m1 A2 c2 l2 m2 x := by
 obtain ⟨cs, rfl, h⟩ := h
 obtain ⟨A1, c1, l1, m1, A2, c2, l2, m2, r, rfl, h1, h⟩ := h.alj
 cases h
 exact ⟨_, _, _, _, _, _, _, _, rfl, h1⟩
theorem acv {W : World} {x : Rat} {v : Value} (h : ax [.r x] W v) : Db x W v := by
 obtain ⟨A1, c1, l1, m1, A2, c2, l2, m2, rfl, h1⟩ := Rp h
 exact ⟨_, _, _, _, _, _, _, _, rfl, h1⟩
theorem bhv {W : World} {x : Rat} {v : Value} (h : Db x W v) : ax [.r x] W v := by
 obtain ⟨A1, c1, l1, m1, A2, c2, l2, m2, rfl, h1⟩ := h
 exact ⟨_, rfl, fo.r h1 rfl⟩
theorem Yh {w w' : World} {q : Rat} {e : Ending} (h : ib (Db q) w e w') : ib (ax [.r q]) w e w' := by
 obtain ⟨u, h1, h2, h3⟩ := h
 exact ⟨u, h1, h2, bhv h3⟩
def uu (K : Nat) (x : Rat) : Prop := Wd.yx ek K x ∧ K ≤ 1000000
theorem Hr {n d : Int} (ok : Wd.oo n d) : uu 2 (Wd.qR n d) := ⟨bap ok, by omega⟩
def Uu : World → Value → Prop := fun W v => ∃ n d : Int, ax [.v (.int .i64 n), .v (.int .i64 d)] W v
theorem Wy : Rg.Fu eu Uu := fun w w' v hb ⟨n, d, h⟩ => ⟨n, d, az _ _ _ _ hb h⟩
variable {W : World} {v0 v1 : Value} {x y : Rat} {K : Nat}
theorem bhp (hx : uu K x) (hy : uu K y) (h0 : ax [.r x] W v0) (h1 : ax [.r y] W v1) : Calls Tryz.prog 81 #[v0, v1] W (ib (Rg.au (.int .i64 (lh (x.num * y.den - y.num * x.den)))) W) :=
 Go.Proofs.YtfgeaakhlcaibaaGreatDoor.ayg hx.1 hy.1 (by have := hx.2; omega) W v0 v1 (acv h0) (acv h1)
theorem ali (hx : uu K x) (hy : uu K y) (h0 : ax [.r x] W v0) (h1 : ax [.r y] W v1) : Calls Tryz.prog 62 #[v0, v1] W (ib (ax [.r (x * y)]) W) :=
 (Go.Proofs.YtfgeaakhlcaibaaGreatDoor.Rm hx.1 hy.1 (by have := hx.2; omega) W v0 v1 (acv h0) (acv h1)).mono fun e w' h => Yh h
theorem alh {n d : Int} (ok : Wd.oo n d) (h0 : ax [.v (.int .i64 n), .v (.int .i64 d)] W v0) : Calls Tryz.prog 58 #[v0] W (ib (ax [.r (Wd.qR n d)]) W) := by
 rw [Fs h0]
 exact (bhw ok W).mono fun e w' h => Yh (Yi h)
theorem atn {n d : Int} (h0 : ax [.v (.int .i64 n), .v (.int .i64 d)] W v0) : Calls Tryz.prog 70 #[v0] W (ib (Rg.au (.bool (decide (Wd.oo n d)))) W) := by
 rw [Fs h0]
 exact (aiz n d W).mono fun e w' h => Ue h
theorem atl (hf : Wd.fits x) (h0 : ax [.r x] W v0) : Calls Tryz.prog 125 #[v0] W (ib (kz [ax [.v (.int .i64 x.num), .v (.int .i64 (x.den : Int))], Rg.au (.bool true)]) W) := by
 obtain ⟨A1, c1, l1, m1, A2, c2, l2, m2, rfl, h1⟩ := Rp h0
 refine (abd A1 c1 l1 m1 A2 c2 l2 m2 x W h1).mono fun e w' ⟨n, d, ok, he, hb, hc⟩ => ?_
 have ht : Wd.told x = ⟨x.num, x.den, 0⟩ := if_pos hf
 rw [ht] at hc
 rcases hc with ⟨rfl, h2⟩ | ⟨_, h2⟩
 ·
  injection h2 with e1 e2 e3
  subst e1 e2
  exact ⟨_, he, hb, [_, _], rfl, _, _, rfl, Ba _ _ _, _, _, rfl, rfl, rfl⟩
 ·
  injection h2 with e1 e2 e3
  omega
theorem atm (hf : ¬ Wd.fits x) (h0 : ax [.r x] W v0) : Calls Tryz.prog 125 #[v0] W (ib (kz [Uu, Rg.au (.bool false)]) W) := by
 obtain ⟨A1, c1, l1, m1, A2, c2, l2, m2, rfl, h1⟩ := Rp h0
 refine (abd A1 c1 l1 m1 A2 c2 l2 m2 x W h1).mono fun e w' ⟨n, d, ok, he, hb, hc⟩ => ?_
 have ht : Wd.told x = ⟨0, 0, 3⟩ := if_neg hf
 rw [ht] at hc
 rcases hc with ⟨_, h2⟩ | ⟨rfl, h2⟩
 ·
  injection h2 with e1 e2 e3
  omega
 ·
  exact ⟨_, he, hb, [_, _], rfl, _, _, rfl, ⟨n, d, Ba _ _ _⟩, _, _, rfl, rfl, rfl⟩
theorem Py : 1 < ek := by rw [fe]; omega
theorem Ww {K : Nat} {n d : Int} (hd : d ≠ 0) (hn : Wd.Sz ek K n) (hdd : Wd.Sz ek K d) : Wd.yx ek K (Rat.divInt n d) := by
 obtain ⟨h1, h2⟩ := Wd.Io n d hd
 exact ⟨by rw [h1]; exact hn.tdiv _, by rw [h2]; exact hdd.tdiv _⟩
theorem uu.mono {K L : Nat} {x : Rat} (h : uu K x) (hk : K ≤ L) (hl : L ≤ 1000000) : uu L x := ⟨⟨h.1.1.mono Py hk, h.1.2.mono Py hk⟩, hl⟩
theorem uu.mul {K : Nat} {x y : Rat} (hx : uu K x) (hy : uu K y) (h : K + K ≤ 1000000) : uu (K + K) (x * y) := by
 refine ⟨?_, h⟩
 rw [Wd.alx]
 have d1 := x.den_nz; have d2 := y.den_nz
 exact Ww (Int.mul_ne_zero om om) (hx.1.1.mul hy.1.1) (hx.1.2.mul hy.1.2)
theorem uu.add {K : Nat} {x y : Rat} (hx : uu K x) (hy : uu K y) (h : K + K + 1 ≤ 1000000) : uu (K + K + 1) (x + y) := by
 refine ⟨?_, h⟩
 rw [Wd.biu]
 have d1 := x.den_nz; have d2 := y.den_nz
 exact Ww (Int.mul_ne_zero om om) ((hx.1.1.mul hy.1.2).add Py (hy.1.1.mul hx.1.2)) ((hx.1.2.mul hy.1.2).mono Py om)
theorem uu.neg {K : Nat} {x : Rat} (hx : uu K x) : uu K (-x) := ⟨⟨by rw [Rat.neg_num]; exact hx.1.1.neg, by rw [Rat.neg_den]; exact hx.1.2⟩, hx.2⟩
theorem uu.sub {K : Nat} {x y : Rat} (hx : uu K x) (hy : uu K y) (h : K + K + 1 ≤ 1000000) : uu (K + K + 1) (x - y) := by rw [Rat.sub_eq_add_neg]; exact hx.add hy.neg h
theorem uu.inv {K : Nat} {x : Rat} (hx : uu K x) (h0 : x.num ≠ 0) : uu K (x⁻¹) := by
 have hp := Wd.Tn x h0
 refine ⟨?_, hx.2⟩
 by_cases hn : x.num < 0
 ·
  exact ⟨by rw [(hp.1 hn).1]; exact hx.1.2.neg, by rw [(hp.1 hn).2]; exact hx.1.1.neg⟩
 ·
  exact ⟨by rw [(hp.2 hn).1]; exact hx.1.2, by rw [(hp.2 hn).2]; exact hx.1.1⟩
section
variable {W : World} {v0 v1 : Value} {x y : Rat} {K : Nat}
theorem alj (hx : uu (K + 1) x) (hn : x.num ≠ 0) (h0 : ax [.r x] W v0) : Calls Tryz.prog 90 #[v0] W (ib (ax [.r (x⁻¹)]) W) := by
 obtain ⟨A1, c1, l1, m1, A2, c2, l2, m2, rfl, h1⟩ := Rp h0
 refine (anw (K + 1) A1 c1 l1 m1 A2 c2 l2 m2 x W h1 hx.1 om (by have := hx.2; omega) hn).mono fun e w' h => ?_
 have h2 := Yh (Yi h)
 rwa [Rat.div_def, show Rat.divInt 1 1 = 1 from rfl, Rat.one_mul] at h2
theorem awv (n : Int) (b1 : -9223372036854775808 ≤ n) (b2 : n ≤ 9223372036854775807) (W : World) : Calls Tryz.prog 95 #[.int .i64 n] W (ib (ax [.r (Rat.divInt n 1)]) W) :=
 (Go.Proofs.YtfgeaakhlcaibaaGreatDoor.bip n b1 b2 W).mono fun e w' h => Yh h
end
end Sb




structure NbW (w wr : World) (b0 b1 l0 l1 : Int) : Prop where
 below : Below w.heap.size w wr
 x : wr.heap[w.heap.size]? = some (.cells #[.int .i64 22, .int .i64 7] 23 (0, 0))
 lo : wr.heap[w.heap.size + 1]? = some (.cells #[.int .i64 0, .int .i64 0] 23 (0, 0))
 hi : wr.heap[w.heap.size + 2]? = some (.cells #[.int .i64 0, .int .i64 0] 23 (0, 0))
 bef : wr.heap[w.heap.size + 3]? = some (.cells #[.int .i64 b0, .int .i64 b1] 23 (0, 0))
 last : wr.heap[w.heap.size + 4]? = some (.cells #[.int .i64 l0, .int .i64 l1] 23 (0, 0))
theorem NbW.step {w wr w' : World} {b0 b1 l0 l1 : Int} (h : NbW w wr b0 b1 l0 l1) (hb : Below wr.heap.size wr w') : NbW w w' b0 b1 l0 l1 :=
 ⟨bg h.below hb, (hb.block _ (lt_of_block h.x)).trans h.x, (hb.block _ (lt_of_block h.lo)).trans h.lo, (hb.block _ (lt_of_block h.hi)).trans h.hi, (hb.block _ (lt_of_block h.bef)).trans h.bef, (hb.block _ (lt_of_block h.last)).trans h.last⟩
theorem NbW.set {w wr : World} {b0 b1 l0 l1 : Int} (h : NbW w wr b0 b1 l0 l1) (u0 u1 v0 v1 : Int) :
  NbW w ((((wr.setCell ⟨w.heap.size + 3, 0, none⟩ (.int .i64 u0)).setCell ⟨w.heap.size + 3, 1, none⟩ (.int .i64 u1)).setCell ⟨w.heap.size + 4, 0, none⟩ (.int .i64 v0)).setCell ⟨w.heap.size + 4, 1, none⟩ (.int .i64 v1)) u0 u1 v0 v1 := by
 have g1 := mh wr (w.heap.size + 3) (.int .i64 u0) (.int .i64 u1)
 have g2 := mh ((wr.setCell ⟨w.heap.size + 3, 0, none⟩ (.int .i64 u0)).setCell ⟨w.heap.size + 3, 1, none⟩ (.int .i64 u1)) (w.heap.size + 4) (.int .i64 v0) (.int .i64 v1)
 have s1 := g1.size
 have old : ∀ k, k < w.heap.size + 3 → ((((wr.setCell ⟨w.heap.size + 3, 0, none⟩ (.int .i64 u0)).setCell ⟨w.heap.size + 3, 1, none⟩ (.int .i64 u1)).setCell ⟨w.heap.size + 4, 0, none⟩ (.int .i64 v0)).setCell ⟨w.heap.size + 4, 1, none⟩ (.int .i64 v1)).heap[k]? = wr.heap[k]? := fun k hk => by
  have hl := lt_of_block h.last
  exact (g2.block k om (fun e => by injection e with e; omega)).trans (g1.block k om (fun e => by injection e with e; omega))
 have hl := lt_of_block h.last
 have e1 := Qi (u0 := .int .i64 u0) (u1 := .int .i64 u1) h.bef
 refine ⟨(h.below.grown g1 h.below.size (fun k hk => by injection hk with hk; omega)).grown g2 (by have := h.below.size; omega) (fun k hk => by injection hk with hk; omega), (old _ om).trans h.x, (old _ om).trans h.lo, (old _ om).trans h.hi, ?_, ?_⟩
 ·
  exact (g2.block _ (lt_of_block e1) (fun e => by injection e with e; omega)).trans e1
 ·
  exact Qi ((g1.block _ hl (fun e => by injection e with e; omega)).trans h.last)

structure IQ (w : World) (Jv : Int) (Qv : Bool) (Ce : Option Addr) (c1a : Nat) (Bz : List Nat) (Ju : Int) (Qu : Bool) (Cc : Option Addr) (Ca : Nat) (Bw : List Nat) (q : Rat) : Prop where
 n : fq w Jv Qv Ce c1a Bz q.num
 d : fq w Ju Qu Cc Ca Bw (q.den : Int)
theorem IQ.below {w w' : World} {Jv : Int} {Qv : Bool} {Ce : Option Addr} {c1a : Nat} {Bz : List Nat} {Ju : Int} {Qu : Bool} {Cc : Option Addr} {Ca : Nat} {Bw : List Nat} {q : Rat} (h : IQ w Jv Qv Ce c1a Bz Ju Qu Cc Ca Bw q) (hb : Below w.heap.size w w') : IQ w' Jv Qv Ce c1a Bz Ju Qu Cc Ca Bw q := ⟨h.n.below hb, h.d.below hb⟩
theorem akx {W : World} {b : Nat} {a0 a1 a2 a3 a4 a5 u0 u1 u2 u3 u4 u5 : Value} {T : TypeId} (h : W.heap[b]? = some (.cells #[a0, a1, a2, a3, a4, a5] T (0, 0))) : ((((((W.setCell ⟨b, 0, none⟩ u0).setCell ⟨b, 1, none⟩ u1).setCell ⟨b, 2, none⟩ u2).setCell ⟨b, 3, none⟩ u3).setCell ⟨b, 4, none⟩ u4).setCell ⟨b, 5, none⟩ u5).heap[b]? = some (.cells #[u0, u1, u2, u3, u4, u5] T (0, 0)) := by
 simp [World.setCell, Array.getElem?_modify, h]
theorem alc (n : Int) (w : World) (b1 : -9223372036854775808 ≤ n) (b2 : n ≤ 9223372036854775807) :
  Calls Tryz.prog 92 #[.int .i64 n] w fun e w' => Gf w (Rat.divInt n 1).num ((Rat.divInt n 1).den : Int) e w' := by
 have hN := hide (fun W => zm n b1 b2 W)
 have hO := hide (fun W => zm 1 om om W)
 rw [(Wd.Hy n).1, (Wd.Hy n).2]
 clear b1 b2
 go_enter Tryz.func92, Tryz.ntmps92
 go_wp2_with fail
 obtain ⟨n0, hsz, hw0⟩ := Jf w (.cells #[.int .i64 0, .bool false, .slice none 0 0, .int .i64 0, .bool false, .slice none 0 0] 79)
 generalize w.alloc (.cells #[.int .i64 0, .bool false, .slice none 0 0, .int .i64 0, .bool false, .slice none 0 0] 79) = W0 at *
 have r0 : W0.cell? ⟨w.heap.size, 0, none⟩ = some (.int .i64 0) := ag n0 0
 have f0 := ai n0 0
 have r1 : W0.cell? ⟨w.heap.size, 1, none⟩ = some (.bool false) := ag n0 1
 have f1 := ai n0 1
 have r2 : W0.cell? ⟨w.heap.size, 2, none⟩ = some (.slice none 0 0) := ag n0 2
 have f2 := ai n0 2
 have r3 : W0.cell? ⟨w.heap.size, 3, none⟩ = some (.int .i64 0) := ag n0 3
 have f3 := ai n0 3
 have r4 : W0.cell? ⟨w.heap.size, 4, none⟩ = some (.bool false) := ag n0 4
 have f4 := ai n0 4
 have r5 : W0.cell? ⟨w.heap.size, 5, none⟩ = some (.slice none 0 0) := ag n0 5
 have f5 := ai n0 5
 have q0 := lt_of_block n0
 have NR := Lib.hid n0
 clear n0 hsz
 refine ((aa hN) _).mono ?_
 rintro e W1 ⟨Jv, Qv, Ce, c1a, Bz, rfl, g1, hb⟩
 have G1 := hide g1; have HB := hide hb
 clear g1 hb
 go_wp2_with fail
 refine ((aa hO) _).mono ?_
 rintro e w' ⟨Ju, Qu, Cc, Ca, Bw, rfl, g2, hb2⟩
 have G1' := hide ((aa G1).below hb2)
 have hb := bg (aa HB) hb2
 obtain ⟨hc, hfz⟩ := dz hb
 have hblk := (hb.block _ q0).trans NR.out
 have jy := Lib.hid hblk
 have jh := bg hw0 hb
 have HB9 := hide jh
 have G2 := hide g2
 clear g2 hb hb2 jh hblk
 go_wp2_with fail
 exact bodyPost_ret (v := (Value.agg #[.int .i64 Jv, .bool Qv, .slice Ce Bz.length c1a, .int .i64 Ju, .bool Qu, .slice Cc Bw.length Ca])) (by simp [results, Tryz.results92, go_sem, hc, r0, r1, r2, r3, r4, r5, q0]) rfl
  ⟨Jv, Qv, Ce, c1a, Bz, Ju, Qu, Cc, Ca, Bw, rfl, (aa G1').upto jy.out (tu _ _ _ _ _ _ _ _ _ _) (jw _ _ _ _ _ _ _ _), (aa G2).upto jy.out (tu _ _ _ _ _ _ _ _ _ _) (jw _ _ _ _ _ _ _ _), (aa HB9).grown (jw _ _ _ _ _ _ _ _) (aa HB9).size (fun k hk => by injection hk with hk; omega)⟩


namespace Sb
section
variable {W : World} {v0 v1 : Value} {K : Nat}
theorem bbc (n : Int) (b1 : -9223372036854775808 ≤ n) (b2 : n ≤ 9223372036854775807) (W : World) : Calls Tryz.prog 92 #[.int .i64 n] W (ib (ax [.q (Rat.divInt n 1)]) W) :=
 (alc n W b1 b2).mono fun e w' h => Qr h
end
theorem bio {W : World} {v0 : Value} {x : Rat} (h : x.num ≠ 0) (h0 : ax [.q x] W v0) : Calls Tryz.prog 94 #[v0] W (ib (ax [.q (x⁻¹)]) W) := ayf (aji W x h) h0
theorem Sm.sub {x y : Rat} {K : Nat} (hx : Sm K x) (hy : Sm K y) (h : K + K + 1 ≤ 1000000) (w : World) (hT : qm w) : Sm (K + K + 1) (x - y) := ⟨(baj hT x y hx.1 hy.1 (by have := Jh; omega)).2, h⟩
theorem Sm.inv {x : Rat} {K : Nat} (hx : Sm K x) (h : x.num ≠ 0) : Sm K (x⁻¹) := ⟨hx.1.inv h, hx.2⟩
end Sb

end Go.Proofs.YtfgeaakhlcaibaaGreatDoor
