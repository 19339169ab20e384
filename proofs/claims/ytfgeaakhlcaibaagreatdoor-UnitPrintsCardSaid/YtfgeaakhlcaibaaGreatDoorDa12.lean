/- Texts beneath a law of layer 1. -/
import Derived.Test.YtfgeaakhlcaibaaGreatDoorDa11
import Derived.BigQuiet
set_option maxRecDepth 100000
set_option maxHeartbeats 16000000
namespace Go.Proofs.YtfgeaakhlcaibaaGreatDoor
open Go.RowKit

namespace Sb
def wK (n : Int) : Kind where
 size := 2
 ok := fun W c => ∃ A cap l m, c = [.slice A (List.length l) cap, .bool m] ∧ ku W A cap l m n
 noW := by
  rintro W c ⟨A, cap, l, m, rfl, h⟩ u hu
  simp only [List.mem_cons, List.not_mem_nil, or_false] at hu
  rcases hu with rfl | rfl
  ·
   exact Tg _ _ _
  ·
   exact Ti _
 below := fun hb ⟨A, cap, l, m, e, h⟩ => ⟨A, cap, l, m, e, h.below hb⟩
 upto := fun hg hn hgr ⟨A, cap, l, m, e, h⟩ => ⟨A, cap, l, m, e, h.upto hg hn.bib hgr⟩
 len := by rintro W c ⟨A, cap, l, m, rfl, h⟩; rfl
theorem fu.w {W : World} {n : Int} {A1 : Option Addr} {c1 : Nat} {l1 : List Nat} {m1 : Bool} {ls : List jf} {cs : List Value} (h1 : ku W A1 c1 l1 m1 n) (h : fu W ls cs) : fu W (.k (wK n) :: ls) (.slice A1 l1.length c1 :: .bool m1 :: cs) := ⟨[_, _], cs, rfl, ⟨_, _, _, _, rfl, h1⟩, h⟩
theorem fu.aln {W : World} {n : Int} {ls : List jf} {cs : List Value} (h : fu W (.k (wK n) :: ls) cs) : ∃ A1 c1 l1 m1 r, cs = .slice A1 (List.length l1) c1 :: .bool m1 :: r ∧ ku W A1 c1 l1 m1 n ∧ fu W ls r := by
 obtain ⟨c, r, rfl, ⟨A1, c1, l1, m1, rfl, h1⟩, h⟩ := h
 exact ⟨A1, c1, l1, m1, r, rfl, h1, h⟩
theorem aah {W : World} {n : Int} {v : Value} (h : ax [.k (wK n)] W v) : ∃ A1 c1 l1 m1, v = .agg #[.slice A1 (List.length l1) c1, .bool m1] ∧ ku W A1 c1 l1 m1 n := by
 obtain ⟨cs, rfl, h⟩ := h
 obtain ⟨A1, c1, l1, m1, r, rfl, h1, h⟩ := h.aln
 cases h
 exact ⟨_, _, _, _, rfl, h1⟩
theorem aag {W : World} {n d : Int} {v : Value} (h : ax [.k (wK n), .k (wK d)] W v) : ∃ A1 c1 l1 m1 A2 c2 l2 m2, v = .agg #[.slice A1 (List.length l1) c1, .bool m1, .slice A2 (List.length l2) c2, .bool m2] ∧ ku W A1 c1 l1 m1 n ∧ ku W A2 c2 l2 m2 d := by
 obtain ⟨cs, rfl, h⟩ := h
 obtain ⟨A1, c1, l1, m1, r, rfl, h1, h⟩ := h.aln
 obtain ⟨A2, c2, l2, m2, r, rfl, h2, h⟩ := h.aln
 cases h
 exact ⟨_, _, _, _, _, _, _, _, rfl, h1, h2⟩
def C1 (w : World) (F : Nat) (ls ks : List jf) : Prop := ∀ W v0, Below w.heap.size w W → ax ls W v0 → Calls Tryz.prog F #[v0] W (ic (ax ks) W)
def C2 (w : World) (F : Nat) (ls ms ks : List jf) : Prop := ∀ W v0 v1, Below w.heap.size w W → ax ls W v0 → ax ms W v1 → Calls Tryz.prog F #[v0, v1] W (ic (ax ks) W)
def CB (w : World) (F : Nat) (ls : List jf) (b : Bool) : Prop := ∀ W v0, Below w.heap.size w W → ax ls W v0 → Calls Tryz.prog F #[v0] W (ic (Rg.au (.bool b)) W)
theorem axp {w w' : World} {z : Int} {e : Ending} (h : Io w z e w') : ic (ax [.k (wK z)]) w e w' := by
 obtain ⟨A, cap, l, m, rfl, h1, hb⟩ := h
 exact ⟨_, rfl, hb, _, rfl, fu.w h1 rfl⟩
theorem bdf {w w' : World} {q : Rat} {e : Ending} (h : QR w q e w') : ic (ax [.k (wK q.num), .k (wK (q.den : Int))]) w e w' := by
 obtain ⟨A1, c1, l1, m1, A2, c2, l2, m2, rfl, h1, h2, hb⟩ := h
 exact ⟨_, rfl, hb, _, rfl, fu.w h1 (fu.w h2 rfl)⟩
theorem bes {w w' : World} {q : Rat} {e : Ending} (h : ic (ax [.k (wK q.num), .k (wK (q.den : Int))]) w e w') : QR w q e w' := by
 obtain ⟨u, rfl, hb, h⟩ := h
 obtain ⟨A1, c1, l1, m1, A2, c2, l2, m2, rfl, f1, f2⟩ := aag h
 exact ⟨_, _, _, _, _, _, _, _, rfl, f1, f2, hb⟩
theorem cw2 {w : World} {F : Nat} {a b c : Int} (h : bii w F a b c) : C2 w F [.k (wK a)] [.k (wK b)] [.k (wK c)] := fun W v0 v1 hb h0 h1 => by
 obtain ⟨A1, c1, l1, m1, rfl, f1⟩ := aah h0
 obtain ⟨A2, c2, l2, m2, rfl, f2⟩ := aah h1
 exact (h _ _ _ _ _ _ _ _ W hb f1 f2).mono fun e w' h => axp h
theorem cwq {w : World} {F : Nat} {a b : Int} {q : Rat} (h : bij w F a b q) : C2 w F [.k (wK a)] [.k (wK b)] [.k (wK q.num), .k (wK (q.den : Int))] := fun W v0 v1 hb h0 h1 => by
 obtain ⟨A1, c1, l1, m1, rfl, f1⟩ := aah h0
 obtain ⟨A2, c2, l2, m2, rfl, f2⟩ := aah h1
 exact (h _ _ _ _ _ _ _ _ W hb f1 f2).mono fun e w' h => bdf h
theorem axy {W : World} {A1 : Option Addr} {c1 : Nat} {l1 : List Nat} {m1 : Bool} {A2 : Option Addr} {c2 : Nat} {l2 : List Nat} {m2 : Bool} {x : Rat} (h : QV W A1 c1 l1 m1 A2 c2 l2 m2 x) : ∃ d : Int, (d = (x.den : Int) ∨ (d = 0 ∧ x.den = 1)) ∧ ax [.k (wK x.num), .k (wK d)] W (.agg #[.slice A1 l1.length c1, .bool m1, .slice A2 l2.length c2, .bool m2]) := by
 obtain ⟨d, h2, h3⟩ := h.den
 exact ⟨d, h3, _, rfl, fu.w h.num (fu.w h2 rfl)⟩
theorem anz (w : World) {x : Rat} {d : Int} (h : d = (x.den : Int) ∨ (d = 0 ∧ x.den = 1)) : C1 w 130 [.k (wK x.num), .k (wK d)] [.k (wK (x.den : Int))] := fun W v0 hb h0 => by
 obtain ⟨A1, c1, l1, m1, A2, c2, l2, m2, rfl, f1, f2⟩ := aag h0
 exact (acd A1 c1 l1 m1 A2 c2 l2 m2 x W ⟨f1, d, f2, h⟩).mono fun e w' h => axp h
theorem aky (w : World) {b : Int} {o : Bool} (h : o = decide (b = 1)) : CB w 131 [.k (wK b)] o := fun W v0 hb h0 => by
 obtain ⟨A1, c1, l1, m1, rfl, f1⟩ := aah h0
 rw [h]
 exact (Ym A1 c1 l1 m1 b W f1).mono fun e w' h => Zz h
theorem Ag : Dk Tryz.prog 66 2 := by
 intro ρ w d x b off us ty pos af gd hl hc hx
 match us, hl with
 | [u0, u1], _ =>
 have k0 : w.cell? ⟨b, off, none⟩ = some u0 := hc 0 om
 have k1 : w.cell? ⟨b, off + 1, none⟩ = some u1 := hc 1 om
 clear hc
 simp only [execOp, hx]
 simp [go_sem, k0, k1]
theorem ajw : zh Tryz.prog 66 2 := by
 intro ρ w d p x b off cs TB us ty pos af gd hl hu hb ho hp hx
 match us, hl with
 | [u0, u1], _ =>
 have o0 := hu u0 (by simp)
 have o1 := hu u1 (by simp)
 have f0 : w.frozen? ⟨b, off, none⟩ = false := ai hb _
 have f1 : w.frozen? ⟨b, off + 1, none⟩ = false := ai hb _
 obtain ⟨c0, k0⟩ : ∃ c, w.cell? ⟨b, off, none⟩ = some c := jk hb om
 obtain ⟨c1, k1⟩ : ∃ c, w.cell? ⟨b, off + 1, none⟩ = some c := jk hb om
 have hlt := lt_of_block hb
 clear hb ho hu
 simp only [execOp, hp, hx, setM]
 simp [go_sem, hlt, run_store _ _ _ _ _ o0, o0, run_store _ _ _ _ _ o1, o1, k0, k1, f0, f1]
theorem ayf : Jy Tryz.prog 66 [.slice none 0 0, .bool false] := by
 intro ρ w d ty pos af gd
 simp only [execOp]
 simp [go_sem]
theorem arb : Dk Tryz.prog 68 4 := by
 intro ρ w d x b off us ty pos af gd hl hc hx
 match us, hl with
 | [u0, u1, u2, u3], _ =>
 have k0 : w.cell? ⟨b, off, none⟩ = some u0 := hc 0 om
 have k1 : w.cell? ⟨b, off + 1, none⟩ = some u1 := hc 1 om
 have k2 : w.cell? ⟨b, off + 2, none⟩ = some u2 := hc 2 om
 have k3 : w.cell? ⟨b, off + 3, none⟩ = some u3 := hc 3 om
 clear hc
 simp only [execOp, hx]
 simp [go_sem, k0, k1, k2, k3]
theorem aax : zh Tryz.prog 68 4 := by
 intro ρ w d p x b off cs TB us ty pos af gd hl hu hb ho hp hx
 match us, hl with
 | [u0, u1, u2, u3], _ =>
 have o0 := hu u0 (by simp)
 have o1 := hu u1 (by simp)
 have o2 := hu u2 (by simp)
 have o3 := hu u3 (by simp)
 have f0 : w.frozen? ⟨b, off, none⟩ = false := ai hb _
 have f1 : w.frozen? ⟨b, off + 1, none⟩ = false := ai hb _
 have f2 : w.frozen? ⟨b, off + 2, none⟩ = false := ai hb _
 have f3 : w.frozen? ⟨b, off + 3, none⟩ = false := ai hb _
 obtain ⟨c0, k0⟩ : ∃ c, w.cell? ⟨b, off, none⟩ = some c := jk hb om
 obtain ⟨c1, k1⟩ : ∃ c, w.cell? ⟨b, off + 1, none⟩ = some c := jk hb om
 obtain ⟨c2, k2⟩ : ∃ c, w.cell? ⟨b, off + 2, none⟩ = some c := jk hb om
 obtain ⟨c3, k3⟩ : ∃ c, w.cell? ⟨b, off + 3, none⟩ = some c := jk hb om
 have hlt := lt_of_block hb
 clear hb ho hu
 simp only [execOp, hp, hx, setM]
 simp [go_sem, hlt, run_store _ _ _ _ _ o0, o0, run_store _ _ _ _ _ o1, o1, run_store _ _ _ _ _ o2, o2, run_store _ _ _ _ _ o3, o3, k0, k1, k2, k3, f0, f1, f2, f3]
theorem abj : Oj Tryz.prog 68 4 := by
 intro w b off us hl hc
 match us, hl with
 | [u0, u1, u2, u3], _ =>
 have k0 : w.cell? ⟨b, off, none⟩ = some u0 := hc 0 om
 have k1 : w.cell? ⟨b, off + 1, none⟩ = some u1 := hc 1 om
 have k2 : w.cell? ⟨b, off + 2, none⟩ = some u2 := hc 2 om
 have k3 : w.cell? ⟨b, off + 3, none⟩ = some u3 := hc 3 om
 clear hc
 simp [go_sem, k0, k1, k2, k3]
theorem bcp : Ut Tryz.prog 68 2 2 := by
 intro ρ w d x y us vs ty pos af gd h1 h2 e1 e2
 match us, h1, vs, h2 with
 | [u0, u1], _, [v0, v1], _ =>
 simp only [execOp]
 simp [go_sem, e1, e2]
 try rfl
theorem bcu : Eu Tryz.prog (fun x => .fieldAddr 68 x 0) 0 := by
 intro a w d x b off ty pos af gd hx
 have hc : ∀ v, a.eval (.const v) = v := fun _ => rfl
 simp only [execOp, hx, hc]
 simp [go_sem]
theorem Ha {Q : Exit → Act → World → Prop} {l : List Oper} {n : Nat} {T : Nat → World → Value → Prop} {G : World → Prop} {al : List Nat} {a0 : Act} {k d : Nat} {ty : TypeId} {pos : String} {af : Array Edge} {gd : Option (Nat × Bool)} {b off off' : Nat} {x : Operand} (hal : al.contains k = false) (hx : Rg.ib l n T a0 k x (Rg.au (.pointer (some ⟨b, off, none⟩)))) (ho : off + 0 = off') (hT : T k = Rg.au (.pointer (some ⟨b, off', none⟩))) :
  Rg.Step Tryz.prog Q l n T G dz al a0 k { dst := some d, op := .fieldAddr 68 x 0, type := ty, pos := pos, after := af, guard := gd } := by
 exact Fq (P := Tryz.prog) (o := fun x => .fieldAddr 68 x 0) bcu hal hx ho hT
end Sb


namespace Sb
theorem aqm {xn xe yn ye xd yd s m3 a b : Int} {o1 o2 : Bool} (w : World) (u0 : Value) (h0 : ax [.k (wK xn), .k (wK xe)] w u0) (u1 : Value) (h1 : ax [.k (wK yn), .k (wK ye)] w u1)
  (hd1 : C1 w 130 [.k (wK xn), .k (wK xe)] [.k (wK xd)])
  (hd2 : C1 w 130 [.k (wK yn), .k (wK ye)] [.k (wK yd)])
  (ho1 : CB w 131 [.k (wK xd)] o1)
  (ho2 : CB w 131 [.k (wK yd)] o2)
  (hc : (o1 = true ∧ o2 = true ∧ xd = b ∧ C2 w 133 [.k (wK xn)] [.k (wK yn)] [.k (wK a)]) ∨ ((o1 = false ∨ o1 = true ∧ o2 = false) ∧ C2 w 133 [.k (wK xn)] [.k (wK yn)] [.k (wK s)] ∧ C2 w 133 [.k (wK xd)] [.k (wK yd)] [.k (wK m3)] ∧ C2 w 128 [.k (wK s)] [.k (wK m3)] [.k (wK a), .k (wK b)])) :
  Calls Tryz.prog 62 #[u0, u1] w (ic (ax [.k (wK a), .k (wK b)]) w) := by
 have HD1 := hide hd1
 have HD2 := hide hd2
 have HO1 := hide ho1
 have HO2 := hide ho2
 have HC := hide hc
 clear hd1 hd2 ho1 ho2 hc
 obtain ⟨Gb, c0a, Fv, m0a, Iz, c0b, Ic, m0b, rfl, f0a, Ik⟩ := aag h0
 obtain ⟨Dn, c1a, Df, Wi, Dm, Dh, De, Wh, rfl, f1a, Ug⟩ := aag h1
 go_enter Tryz.func62, Tryz.ntmps62
 go_upto_region 1 with fail
 have hO := (Own.push (T := 68) (ls := zX) (Own.push (T := 68) (ls := [.k (wK yn), .k (wK ye)]) (Own.push (T := 68) (ls := [.k (wK xn), .k (wK xe)]) (Own.nil w) (fu.w f0a (fu.w Ik rfl)) (w.heap.size) rfl) (fu.below (by repeat (first | exact Below.refl _ _ | refine ig ?_ _)) (fu.w f1a (fu.w Ug rfl))) (w.heap.size + 1) (by simp only [World.size_alloc])) (fu.below (by repeat (first | exact Below.refl _ _ | refine ig ?_ _)) (fu.vs w [.slice none 0 0, .bool false, .slice none 0 0, .bool false] rfl)) (w.heap.size + 2) (by simp only [World.size_alloc]))
 generalize ((w.alloc (.cells #[.slice Gb (List.length Fv) c0a, .bool m0a, .slice Iz (List.length Ic) c0b, .bool m0b] 68)).alloc (.cells #[.slice Dn (List.length Df) c1a, .bool Wi, .slice Dm (List.length De) Dh, .bool Wh] 68)).alloc (.cells #[.slice none 0 0, .bool false, .slice none 0 0, .bool false] 68) = W0 at *
 have HO := hide hO
 clear hO
 go_upto_region 1 with fail
 go_upto_region 1 with fail
 refine Rg.aba 8 33 (fun k => if k = 6 then 5 else 6) (Rg.pick [ax [.k (wK xn), .k (wK xe)], ax [.k (wK xd)], ax [.k (wK yn), .k (wK ye)], ax [.k (wK yd)], fun _ _ => True, fun _ _ => True, fun _ _ => True, fun _ _ => True]) (az w [(w.heap.size + 2, 68, zX), (w.heap.size + 1, 68, [.k (wK yn), .k (wK ye)]), (w.heap.size, 68, [.k (wK xn), .k (wK xe)])] W0) (EX W0.heap.size 66) (J2 66 2 W0.heap.size 4 5 6 7 [.k (wK xd)] [.k (wK yd)]) kr kr kr rfl (Rg.ek.pick ⟨(sw _), (sw _), (sw _), (sw _), (yo), (yo), (yo), (yo), trivial⟩) (az.start (aa HO)) (fun _ => J2.start) (fun _ _ _ _ h => J2.congr (n := 8) de h)
  (Rg.jl (Bl (jc arb Ib aF [] [.k (wK xn), .k (wK xe)] []))
   (Rg.jl (Bl (Bp Tryz.func130 kr rfl az.step (aT 0) (fun W v0 hG h0 => aa HD1 W v0 hG.bel h0)))
   (Rg.jl (Bl (jc arb wz aF [] [.k (wK yn), .k (wK ye)] []))
   (Rg.jl (Bl (Bp Tryz.func130 kr rfl az.step (aT 2) (fun W v0 hG h0 => aa HD2 W v0 hG.bel h0)))
   (Rg.jl (Uv ayf rfl rfl rfl)
   (Rg.jl (Ww ayf rfl rfl rfl)
   (Rg.jl (Uu (aa HO) ajw kr (aT 1) rfl rfl rfl)
   (Rg.jl (Wv (aa HO) ajw kr (aT 3) rfl rfl rfl)
   Rg.Qp)))))))) ?_
 intro v1 V1 hG1 hJ1 hv1 hne1
 simp only [Rg.puts, Act.put, tA]
 obtain ⟨_, _, hd1, hf1, hg1⟩ := hJ1
 obtain ⟨bow, e4, hge4, hz4⟩ := (hf1 trivial).2
 obtain ⟨bhz, e5, Mr, Tu⟩ := (hg1 trivial).2
 simp only [e4, e5]
 have hO := Own.aod (aa HO) hG1.2 hge4 hz4 Mr Tu (fun h => hd1 trivial trivial (by rw [e4, e5, h]))
 clear hge4 hz4 Mr Tu hd1 hf1 hg1
 clear HO
 have HO := hide hO
 clear hO hG1 hv1 hne1
 try clear e4 e5
 rcases aa HC with ⟨rfl, rfl, rfl, hp⟩ | ⟨ho, hp⟩
 ·
  have HOP := hide hp
  clear hp HC
  go_upto_region 2 with fail
  refine Rg.di 6 33 (Rg.pick [ax [.k (wK xd)], Rg.au (.bool true), Rg.au (.bool true), ax [.k (wK yd)], Rg.au (.bool true), Rg.au (.bool true)]) (az w _ V1) dz [] kr rfl (Rg.ek.pick ⟨bf _, Rg.ae _, Rg.ae _, bf _, Rg.ae _, Rg.ae _, trivial⟩) (az.begin (aa HO))
   (ah (jc Ag wz aF [] [.k (wK xd)] [])
   (ah (sc1 Tryz.func131 (aT 0) (fun W v0 hG h0 => aa HO1 W v0 hG.bel h0))
   (ah (df rfl (aT 1))
   (Rg.dm (Rg.fq (d := 13) rfl kr rfl (jc Ag me0 aF [] [.k (wK yd)] []))
   (Rg.dm (Rg.fq (d := 13) rfl kr rfl (Bp Tryz.func131 kr rfl az.step (aT 3) (fun W v0 hG h0 => aa HO2 W v0 hG.bel h0)))
   (ah (yc rfl (aT 2) (aT 4))
   Rg.bg)))))) ?_
  intro v2 V2 hG2 hv2 hne2
  simp only [Rg.puts, Act.put, tA]
  have e5 : v2 5 = .bool true := hv2 5 de
  simp only [e5]
  have hO := hG2.1
  clear HO
  have HO := hide hO
  clear hO hG2 hv2 hne2
  try clear e5
  go_upto_region 3 with fail
  refine Rg.region 7 33 (Rg.pick [Rg.au (.pointer (some ⟨w.heap.size, 0, none⟩)), ax [.k (wK xn)], Rg.au (.pointer (some ⟨w.heap.size + 1, 0, none⟩)), ax [.k (wK yn)], ax [.k (wK a)], ax [.k (wK xd)], ax [.k (wK a), .k (wK xd)]]) (az w _ V2) dz [] kr kr rfl (Rg.ek.pick ⟨Rg.ae _, bf _, Rg.ae _, bf _, bf _, bf _, bf _, trivial⟩) (az.start (aa HO))
   (ah (Ha (b := w.heap.size) (off := 0) rfl aF rfl rfl)
   (ah (jc Ag me4 (aT 0) [] [.k (wK xn)] [.k (wK xe)])
   (ah (Ha (b := w.heap.size + 1) (off := 0) rfl aF rfl rfl)
   (ah (jc Ag Tn (aT 2) [] [.k (wK yn)] [.k (wK ye)])
   (ah (sc2 Tryz.func133 (aT 1) (aT 3) (fun W v0 v1 hG h0 h1 => aa HOP W v0 v1 hG.bel h0 h1))
   (ah (jc Ag wz aF [] [.k (wK xd)] [])
   (ah (Gm bcp rfl (aT 4) (aT 5) rfl rfl rfl)
   Rg.bg))))))) ?_
  intro v3 V3 hG3 hv3 mh
  simp only [Rg.puts, Act.put, tA]
  have hO := hG3.1
  refine oo hO 2 [] zX [.k (wK a), .k (wK xd)] [] rfl aax rfl (show ax [.k (wK a), .k (wK xd)] V3 (v3 6) from hv3 6 de) rfl rfl rfl ?_
  intro Ou jb hk0
  replace hO := jb
  clear jb
  clear HO
  have HO := hide hO
  clear hO hG3 hv3 mh hk0
  go_wp2_with fail
  exact Dy Tryz.results62 abj rfl (aa HO) Ib rfl rfl
 ·
  obtain ⟨h0, h1, h2⟩ := hp
  have HS := hide h0
  have HM3 := hide h1
  have HR := hide h2
  clear h0 h1 h2 HC
  rcases ho with rfl | ⟨rfl, rfl⟩
  ·
   go_upto_region 2 with fail
   refine Rg.di 6 33 (Rg.pick [ax [.k (wK xd)], Rg.au (.bool false), Rg.au (.bool false), Rg.au undef, Rg.au undef, Rg.au (.bool false)]) (az w _ V1) dz [] kr rfl (Rg.ek.pick ⟨bf _, Rg.ae _, Rg.ae _, Rg.ae _, Rg.ae _, Rg.ae _, trivial⟩) (az.begin (aa HO))
    (ah (jc Ag wz aF [] [.k (wK xd)] [])
    (ah (sc1 Tryz.func131 (aT 0) (fun W v0 hG h0 => aa HO1 W v0 hG.bel h0))
    (ah (df rfl (aT 1))
    (Rg.dm (Rg.pg (d := 13) rfl kr rfl rfl pq rfl rfl)
    (Rg.dm (Rg.pg (d := 13) rfl kr rfl rfl pq rfl rfl)
    (ah (qo rfl (aT 2) (Rg.je _))
    Rg.bg)))))) ?_
   intro v2 V2 hG2 hv2 hne2
   simp only [Rg.puts, Act.put, tA]
   have e5 : v2 5 = .bool false := hv2 5 de
   simp only [e5]
   have hO := hG2.1
   clear HO
   have HO := hide hO
   clear hO hG2 hv2 hne2
   try clear e5
   go_upto_region 4 with fail
   refine Rg.region 9 33 (Rg.pick [Rg.au (.pointer (some ⟨w.heap.size, 0, none⟩)), ax [.k (wK xn)], Rg.au (.pointer (some ⟨w.heap.size + 1, 0, none⟩)), ax [.k (wK yn)], ax [.k (wK s)], ax [.k (wK xd)], ax [.k (wK yd)], ax [.k (wK m3)], ax [.k (wK a), .k (wK b)]]) (az w _ V2) dz [] kr kr rfl (Rg.ek.pick ⟨Rg.ae _, bf _, Rg.ae _, bf _, bf _, bf _, bf _, bf _, bf _, trivial⟩) (az.start (aa HO))
    (ah (Ha (b := w.heap.size) (off := 0) rfl aF rfl rfl)
    (ah (jc Ag me4 (aT 0) [] [.k (wK xn)] [.k (wK xe)])
    (ah (Ha (b := w.heap.size + 1) (off := 0) rfl aF rfl rfl)
    (ah (jc Ag Tn (aT 2) [] [.k (wK yn)] [.k (wK ye)])
    (ah (sc2 Tryz.func133 (aT 1) (aT 3) (fun W v0 v1 hG h0 h1 => aa HS W v0 v1 hG.bel h0 h1))
    (ah (jc Ag wz aF [] [.k (wK xd)] [])
    (ah (jc Ag me0 aF [] [.k (wK yd)] [])
    (ah (sc2 Tryz.func133 (aT 5) (aT 6) (fun W v0 v1 hG h0 h1 => aa HM3 W v0 v1 hG.bel h0 h1))
    (ah (sc2 Tryz.func128 (aT 4) (aT 7) (fun W v0 v1 hG h0 h1 => aa HR W v0 v1 hG.bel h0 h1))
    Rg.bg))))))))) ?_
   intro v3 V3 hG3 hv3 mh
   simp only [Rg.puts, Act.put, tA]
   have hO := hG3.1
   refine oo hO 2 [] zX [.k (wK a), .k (wK b)] [] rfl aax rfl (show ax [.k (wK a), .k (wK b)] V3 (v3 8) from hv3 8 de) rfl rfl rfl ?_
   intro Ou jb hk0
   replace hO := jb
   clear jb
   clear HO
   have HO := hide hO
   clear hO hG3 hv3 mh hk0
   go_wp2_with fail
   exact Dy Tryz.results62 abj rfl (aa HO) Ib rfl rfl
  ·
   go_upto_region 2 with fail
   refine Rg.di 6 33 (Rg.pick [ax [.k (wK xd)], Rg.au (.bool true), Rg.au (.bool true), ax [.k (wK yd)], Rg.au (.bool false), Rg.au (.bool false)]) (az w _ V1) dz [] kr rfl (Rg.ek.pick ⟨bf _, Rg.ae _, Rg.ae _, bf _, Rg.ae _, Rg.ae _, trivial⟩) (az.begin (aa HO))
    (ah (jc Ag wz aF [] [.k (wK xd)] [])
    (ah (sc1 Tryz.func131 (aT 0) (fun W v0 hG h0 => aa HO1 W v0 hG.bel h0))
    (ah (df rfl (aT 1))
    (Rg.dm (Rg.fq (d := 13) rfl kr rfl (jc Ag me0 aF [] [.k (wK yd)] []))
    (Rg.dm (Rg.fq (d := 13) rfl kr rfl (Bp Tryz.func131 kr rfl az.step (aT 3) (fun W v0 hG h0 => aa HO2 W v0 hG.bel h0)))
    (ah (yc rfl (aT 2) (aT 4))
    Rg.bg)))))) ?_
   intro v2 V2 hG2 hv2 hne2
   simp only [Rg.puts, Act.put, tA]
   have e5 : v2 5 = .bool false := hv2 5 de
   simp only [e5]
   have hO := hG2.1
   clear HO
   have HO := hide hO
   clear hO hG2 hv2 hne2
   try clear e5
   go_upto_region 4 with fail
   refine Rg.region 9 33 (Rg.pick [Rg.au (.pointer (some ⟨w.heap.size, 0, none⟩)), ax [.k (wK xn)], Rg.au (.pointer (some ⟨w.heap.size + 1, 0, none⟩)), ax [.k (wK yn)], ax [.k (wK s)], ax [.k (wK xd)], ax [.k (wK yd)], ax [.k (wK m3)], ax [.k (wK a), .k (wK b)]]) (az w _ V2) dz [] kr kr rfl (Rg.ek.pick ⟨Rg.ae _, bf _, Rg.ae _, bf _, bf _, bf _, bf _, bf _, bf _, trivial⟩) (az.start (aa HO))
    (ah (Ha (b := w.heap.size) (off := 0) rfl aF rfl rfl)
    (ah (jc Ag me4 (aT 0) [] [.k (wK xn)] [.k (wK xe)])
    (ah (Ha (b := w.heap.size + 1) (off := 0) rfl aF rfl rfl)
    (ah (jc Ag Tn (aT 2) [] [.k (wK yn)] [.k (wK ye)])
    (ah (sc2 Tryz.func133 (aT 1) (aT 3) (fun W v0 v1 hG h0 h1 => aa HS W v0 v1 hG.bel h0 h1))
    (ah (jc Ag wz aF [] [.k (wK xd)] [])
    (ah (jc Ag me0 aF [] [.k (wK yd)] [])
    (ah (sc2 Tryz.func133 (aT 5) (aT 6) (fun W v0 v1 hG h0 h1 => aa HM3 W v0 v1 hG.bel h0 h1))
    (ah (sc2 Tryz.func128 (aT 4) (aT 7) (fun W v0 v1 hG h0 h1 => aa HR W v0 v1 hG.bel h0 h1))
    Rg.bg))))))))) ?_
   intro v3 V3 hG3 hv3 mh
   simp only [Rg.puts, Act.put, tA]
   have hO := hG3.1
   refine oo hO 2 [] zX [.k (wK a), .k (wK b)] [] rfl aax rfl (show ax [.k (wK a), .k (wK b)] V3 (v3 8) from hv3 8 de) rfl rfl rfl ?_
   intro Ou jb hk0
   replace hO := jb
   clear jb
   clear HO
   have HO := hide hO
   clear hO hG3 hv3 mh hk0
   go_wp2_with fail
   exact Dy Tryz.results62 abj rfl (aa HO) Ib rfl rfl
end Sb

end Go.Proofs.YtfgeaakhlcaibaaGreatDoor
namespace Go.Proofs.YtfgeaakhlcaibaaGreatDoor
open Go.RowKit Sb

namespace Wd
theorem bjz (x y : Rat) : x + y = Rat.divInt (x.num * (y.den : Int) + y.num * (x.den : Int)) ((x.den : Int) * (y.den : Int)) := by
 have hx := x.den_nz; have hy := y.den_nz
 conv => lhs; rw [← Rat.num_divInt_den x, ← Rat.num_divInt_den y]
 exact Rat.divInt_add_divInt _ _ om om
theorem amw (x y : Rat) : x * y = Rat.divInt (x.num * y.num) ((x.den : Int) * (y.den : Int)) := by
 conv => lhs; rw [← Rat.num_divInt_den x, ← Rat.num_divInt_den y]
 exact Rat.divInt_mul_divInt _ _
theorem ayn (n : Int) : (Rat.divInt n 1).num = n ∧ (Rat.divInt n 1).den = 1 := by
 have h : Rat.divInt n 1 = (n : Rat) := by
  rw [← Rat.num_divInt_den (n : Rat)]; rfl
 rw [h]
 exact ⟨rfl, rfl⟩
theorem ayg {x y : Rat} (hx : (x.den : Int) = 1) (hy : (y.den : Int) = 1) : x.num * y.num = (x * y).num ∧ (x.den : Int) = ((x * y).den : Int) := by
 have h : x * y = Rat.divInt (x.num * y.num) 1 := by
  rw [amw, hx, hy]; simp
 rw [h, (ayn _).1, (ayn _).2]; exact ⟨rfl, hx⟩
def Bi (B K : Nat) (q : Rat) : Prop := Sz B K q.num ∧ Sz B K (q.den : Int)
end Wd

theorem afj {w : World} {a b c : Int} {K L : Nat} (ha : Wd.Sz dw K a) (hb : Wd.Sz dw L b) (hK : K + L ≤ 35184372088832) (e : c = a * b) : bii w 133 a b c := by
 subst e
 exact fun A1 c1 l1 m1 A2 c2 l2 m2 W _ f g => atp A1 c1 l1 m1 a A2 c2 l2 m2 b W f g (by have := f.len ha; have := g.len hb; omega)
theorem auu {w : World} {a b : Int} {q : Rat} {K : Nat} (ha : Wd.Sz dw K a) (hb : Wd.Sz dw K b) (h0 : b ≠ 0) (hK : K + 1 ≤ 35184372088832) (e : q = Rat.divInt a b) : bij w 128 a b q := by
 subst e
 exact fun A1 c1 l1 m1 A2 c2 l2 m2 W _ f g => als A1 c1 l1 m1 a A2 c2 l2 m2 b K W f g h0 ha hb hK

theorem aow (K : Nat) (A1 : Option Addr) (c1 : Nat) (l1 : List Nat) (m1 : Bool) (A2 : Option Addr) (c2 : Nat) (l2 : List Nat) (m2 : Bool) (A3 : Option Addr) (c3 : Nat) (l3 : List Nat) (m3 : Bool) (A4 : Option Addr) (c4 : Nat) (l4 : List Nat) (m4 : Bool) (x y : Rat) (w : World) (h1 : QV w A1 c1 l1 m1 A2 c2 l2 m2 x) (h2 : QV w A3 c3 l3 m3 A4 c4 l4 m4 y) (sx : Wd.Bi dw K x) (sy : Wd.Bi dw K y) (hK : 4 * K + 4 ≤ 35184372088832) :
  Calls Tryz.prog 62 #[.agg #[.slice A1 l1.length c1, .bool m1, .slice A2 l2.length c2, .bool m2], .agg #[.slice A3 l3.length c3, .bool m3, .slice A4 l4.length c4, .bool m4]] w fun e w' => QR w (x * y) e w' := by
 obtain ⟨d1, q1, g1⟩ := axy h1
 obtain ⟨d2, q2, g2⟩ := axy h2
 have hx := x.den_nz; have hy := y.den_nz
 have an := afj (w := w) sx.1 sy.1 om rfl
 have am := afj (w := w) sx.2 sy.2 om rfl
 have ar := auu (w := w) (sx.1.mul sy.1) (sx.2.mul sy.2) (Int.mul_ne_zero om om) om (Wd.amw x y)
 refine (aqm (s := x.num * y.num) (m3 := (x.den : Int) * (y.den : Int)) (a := (x * y).num) (b := ((x * y).den : Int)) w _ g1 _ g2 (anz w q1) (anz w q2) (aky w rfl) (aky w rfl) ?_).mono fun e w' h => bes h
 by_cases e1 : (x.den : Int) = 1
 ·
  by_cases e2 : (y.den : Int) = 1
  ·
   exact .inl ⟨decide_eq_true e1, decide_eq_true e2, (Wd.ayg e1 e2).2, cw2 (afj sx.1 sy.1 om (Wd.ayg e1 e2).1.symm)⟩
  ·
   exact .inr ⟨.inr ⟨decide_eq_true e1, decide_eq_false e2⟩, cw2 an, cw2 am, cwq ar⟩
 ·
  exact .inr ⟨.inl (decide_eq_false e1), cw2 an, cw2 am, cwq ar⟩
end Go.Proofs.YtfgeaakhlcaibaaGreatDoor
namespace Go.Proofs.YtfgeaakhlcaibaaGreatDoor
open Go.RowKit




end Go.Proofs.YtfgeaakhlcaibaaGreatDoor
namespace Go.Proofs.YtfgeaakhlcaibaaGreatDoor
namespace Wd

def simp : Nat → Nat → Nat → Nat → Nat → Nat × Nat
 | 0, _, _, _, _ => (0, 1)
 | f + 1, a, b, c, d => if b = 1 then (a, 1) else if a / b < c / d then (a / b + 1, 1)
  else (a / b * (simp f d (c - a / b * d) b (a - a / b * b)).1 + (simp f d (c - a / b * d) b (a - a / b * b)).2, (simp f d (c - a / b * d) b (a - a / b * b)).1)

structure aie (a b c d : Nat) : Prop where
 pa : 0 < a
 pb : 0 < b
 pc : 0 < c
 pd : 0 < d
 co : a.Coprime b
 co2 : c.Coprime d
 le : a * d ≤ c * b

theorem Vy (a b : Nat) : a - a / b * b = a % b := by
 have := Nat.div_add_mod a b
 rw [Nat.mul_comm] at this
 omega
theorem aie.step {a b c d : Nat} (h : aie a b c d) (hb : b ≠ 1) (hk : ¬ a / b < c / d) :
  aie d (c - a / b * d) b (a - a / b * b) ∧ c / d = a / b ∧ c - a / b * d = c % d ∧ c - a / b * d < d ∧ a - a / b * b < b := by
 have ha := h.pa; have hb0 := h.pb; have hc := h.pc; have hd := h.pd
 have e1 := Nat.div_add_mod a b
 have r0 : a % b ≠ 0 := fun e => by
  have hdv := Nat.dvd_of_mod_eq_zero e
  have := Nat.Coprime.eq_one_of_dvd h.co.symm hdv
  exact hb this
 have hkd : a / b ≤ c / d := by
  rw [Nat.le_div_iff_mul_le hd]
  have h2 : a / b * b * d ≤ c * b := Nat.le_trans (Nat.mul_le_mul_right _ (Nat.div_mul_le_self a b)) h.le
  rw [Nat.mul_right_comm] at h2
  exact Nat.le_of_mul_le_mul_right h2 hb0
 have hq : c / d = a / b := by omega
 have e2 : c - a / b * d = c % d := by rw [← hq]; exact Vy c d
 have e3 := Vy a b
 have e4 := Nat.div_add_mod c d
 have hle : a % b * d ≤ c % d * b := by
  have hle := h.le
  rw [hq] at e4
  generalize a / b = k at *
  generalize a % b = r at *
  generalize c % d = s at *
  subst e1 e4
  rw [Nat.add_mul, Nat.add_mul] at hle
  have : b * k * d = d * k * b := by rw [Nat.mul_comm b k, Nat.mul_assoc, Nat.mul_comm b d, ← Nat.mul_assoc, Nat.mul_comm k d]
  omega
 have s0 : 0 < c % d := by
  rcases Nat.eq_zero_or_pos (c % d) with e | e
  ·
   rw [e, Nat.zero_mul] at hle
   have := Nat.mul_pos (Nat.pos_of_ne_zero r0) hd
   omega
  ·
   exact e
 rw [e2, e3]
 refine ⟨⟨hd, s0, hb0, Nat.pos_of_ne_zero r0, ?_, ?_, ?_⟩, hq, rfl, Nat.mod_lt _ hd, Nat.mod_lt _ hb0⟩
 ·
  have := h.co2
  unfold Nat.Coprime at *
  rw [Nat.gcd_comm, ← Nat.gcd_rec, Nat.gcd_comm]; exact this
 ·
  have := h.co
  unfold Nat.Coprime at *
  rw [Nat.gcd_comm, ← Nat.gcd_rec, Nat.gcd_comm]; exact this
 ·
  rw [Nat.mul_comm, Nat.mul_comm b]; exact hle
def fr (n d : Nat) : Rat := Rat.divInt (n : Int) (d : Int)
end Wd
namespace Wd

def cf : Nat → Int → Int → List Int
 | 0, _, _ => []
 | f + 1, n, d => if d = 0 then [] else n / d :: cf f d (n % d)
theorem asg : ∀ (f : Nat) (n d : Int), (cf f n d).length ≤ f
 | 0, _, _ => Nat.le_refl _
 | f + 1, n, d => by
  unfold cf
  split
  ·
   exact Nat.zero_le _
  ·
   have := asg f d (n % d)
   rw [List.length_cons]; omega
theorem bck (f : Nat) (n : Int) : cf f n 0 = [] := by
 cases f with
 | zero => rfl
 | succ f => simp [cf]
structure Ls (L l : List Int) (n d : Int) : Prop where
 ok : ∃ f : Nat, d < f ∧ l ++ cf f n d = L ∧ L.length ≤ l.length + f
 d0 : 0 ≤ d
 nb : -1000000000000 ≤ n ∧ n ≤ 1000000000000
 db : d ≤ 1000000000000
theorem Ls.start {n d : Int} (h : qm n d) : Ls (cf (d.toNat + 1) n d) [] n d := by
 obtain ⟨h1, h2, h3, h4, _⟩ := h
 exact ⟨⟨d.toNat + 1, by omega, rfl, by have := asg (d.toNat + 1) n d; simpa using this⟩, by omega, ⟨by omega, by omega⟩, by omega⟩
theorem Ls.step {L l : List Int} {n d : Int} (h : Ls L l n d) (hd : 0 < d) : Ls L (l ++ [n / d]) d (n % d) ∧ n - n / d * d = n % d ∧ -1000000000000 ≤ n / d ∧ n / d ≤ 1000000000000 ∧ -2000000000000 ≤ n / d * d ∧ n / d * d ≤ 2000000000000 := by
 obtain ⟨⟨f, h1, h2, h3⟩, h4, h5, h6⟩ := h
 have e1 := Int.emod_nonneg n (show d ≠ 0 by omega)
 have e2 := Int.emod_lt_of_pos n hd
 have e3 := Int.mul_ediv_add_emod n d
 rw [Int.mul_comm] at e3
 have lo : -1000000000000 ≤ n / d := by
  rw [Int.le_ediv_iff_mul_le hd]
  omega
 have hi : n / d ≤ 1000000000000 := by
  rcases Int.lt_or_le n 0 with hn | hn
  ·
   have : n / d < 0 := Int.ediv_neg_of_neg_of_pos hn hd
   omega
  ·
   have := Int.ediv_le_self d hn
   omega
 have e4 : n - n / d * d = n % d ∧ -2000000000000 ≤ n / d * d ∧ n / d * d ≤ 2000000000000 := by
  generalize n / d * d = t at *
  generalize n % d = r at *
  exact ⟨by omega, by omega, by omega⟩
 refine ⟨⟨?_, e1, by omega, by omega⟩, e4.1, lo, hi, e4.2.1, e4.2.2⟩
 cases f with
 | zero => omega
 | succ f =>
  refine ⟨f, by omega, ?_, by simp; omega⟩
  rw [← h2]
  simp only [cf, if_neg (show ¬ d = 0 by omega), List.append_assoc, List.cons_append, List.nil_append]
theorem Ls.done {L l : List Int} {n : Int} (h : Ls L l n 0) : l = L := by
 obtain ⟨⟨f, h1, h2, h3⟩, _, _, _⟩ := h
 rw [bck, List.append_nil] at h2
 exact h2
theorem Ls.len {L l : List Int} {n d : Int} (h : Ls L l n d) (hL : L.length ≤ 1000000000001) : l.length ≤ 1000000000001 := by
 obtain ⟨⟨f, h1, h2, h3⟩, _, _, _⟩ := h
 rw [← h2, List.length_append] at hL
 omega
end Wd
namespace Wd

def Ie : List Int → Rat
 | [] => 0
 | [a] => Rat.divInt a 1
 | a :: b :: l => Rat.divInt a 1 + (Ie (b :: l))⁻¹
theorem Zr (a : Int) {l : List Int} (h : l ≠ []) : Ie (a :: l) = Rat.divInt a 1 + (Ie l)⁻¹ := by
 cases l with
 | nil => exact absurd rfl h
 | cons b l => rfl
theorem Yp (a : Int) (x : Rat) (hx : 0 < x.num) : (Rat.divInt a 1 + x⁻¹).num = a * x.num + x.den ∧ ((Rat.divInt a 1 + x⁻¹).den : Int) = x.num := by
 obtain ⟨n, hn⟩ := Int.eq_ofNat_of_zero_le (Int.le_of_lt hx)
 have hn0 : 0 < n := by omega
 have hc : (a * x.num + x.den).natAbs.Coprime n := by
  have hr := x.reduced
  unfold Nat.Coprime at *
  apply Nat.dvd_one.1
  rw [← hr]
  have d1 : (((a * x.num + x.den).natAbs.gcd n : Nat) : Int) ∣ a * x.num + x.den := Int.dvd_trans (Int.ofNat_dvd.2 (Nat.gcd_dvd_left _ _)) (Int.natAbs_dvd.2 (Int.dvd_refl _))
  have d2 : (((a * x.num + x.den).natAbs.gcd n : Nat) : Int) ∣ x.num := by rw [hn]; exact Int.ofNat_dvd.2 (Nat.gcd_dvd_right _ _)
  have d3 := Int.dvd_sub d1 (Int.dvd_trans d2 (Int.dvd_mul_left a x.num))
  rw [show a * x.num + (x.den : Int) - a * x.num = (x.den : Int) by omega] at d3
  refine Nat.dvd_gcd ?_ (Int.ofNat_dvd.1 d3)
  have d4 := Int.natAbs_dvd_natAbs.2 d2
  rwa [Int.natAbs_natCast] at d4
 have e : Rat.divInt a 1 + x⁻¹ = Rat.mk' (a * x.num + x.den) n om hc := by
  rw [Rat.mk_eq_divInt, Rat.inv_def, hn, Rat.divInt_add_divInt _ _ om om, Int.mul_one, Int.one_mul]
 rw [e]
 exact ⟨rfl, hn.symm⟩
theorem Nt (a : Int) : (Rat.divInt a 1).num = a ∧ ((Rat.divInt a 1).den : Int) = 1 := by
 have h : Rat.divInt a 1 = (a : Rat) := by
  rw [← Rat.num_divInt_den (a : Rat)]; rfl
 rw [h]
 exact ⟨rfl, rfl⟩
theorem aju {B s K : Nat} {a n d : Int} (hB : 9223372036854775809 ≤ B ^ s) (ha : -9223372036854775808 ≤ a ∧ a ≤ 9223372036854775808) (hn : Sz B K n) (hd : Sz B K d) : Sz B (K + s) (a * n + d) := by
 unfold Sz at *
 have h1 : (a * n + d).natAbs ≤ a.natAbs * n.natAbs + d.natAbs := Nat.le_trans (Int.natAbs_add_le _ _) (by rw [Int.natAbs_mul]; exact Nat.le_refl _)
 have h2 : a.natAbs * n.natAbs ≤ 9223372036854775808 * n.natAbs := Nat.mul_le_mul_right _ om
 have h3 : 9223372036854775809 * B ^ K ≤ B ^ s * B ^ K := Nat.mul_le_mul_right _ hB
 rw [Nat.pow_add, Nat.mul_comm (B ^ K)]
 generalize B ^ s * B ^ K = X at *
 generalize B ^ K = Y at *
 omega
def Big (l : List Int) : Prop := ∀ x ∈ l, 1 ≤ x ∧ x ≤ 9223372036854775807
theorem age {B s : Nat} (hB : 9223372036854775809 ≤ B ^ s) (hB1 : 1 < B) : ∀ l : List Int, l ≠ [] → Big l → 0 < (Ie l).num ∧ Sz B (s * l.length) (Ie l).num ∧ Sz B (s * l.length) ((Ie l).den : Int)
 | [], h, _ => absurd rfl h
 | [a], _, h => by
  obtain ⟨h1, h2⟩ := h a (by simp)
  obtain ⟨e1, e2⟩ := Nt a
  show 0 < (Rat.divInt a 1).num ∧ Sz B (s * 1) (Rat.divInt a 1).num ∧ Sz B (s * 1) ((Rat.divInt a 1).den : Int)
  rw [e1, e2, Nat.mul_one]
  unfold Sz
  exact ⟨by omega, by omega, by omega⟩
 | a :: b :: l, _, h => by
  obtain ⟨h1, h2⟩ := h a (by simp)
  obtain ⟨i1, i2, i3⟩ := age hB hB1 (b :: l) (by simp) (fun x hx => h x (List.mem_cons_of_mem _ hx))
  rw [Zr a (by simp)]
  obtain ⟨e1, e2⟩ := Yp a (Ie (b :: l)) i1
  rw [e1, e2]
  have hd := (Ie (b :: l)).den_nz
  refine ⟨?_, ?_, ?_⟩
  ·
   have := Int.mul_pos (show 0 < a by omega) i1
   omega
  ·
   have := aju hB (a := a) ⟨by omega, by omega⟩ i2 i3
   rwa [← Nat.mul_succ] at this
  ·
   exact i2.mono hB1 (Nat.mul_le_mul_left _ (by simp))
theorem agf {B s : Nat} (hB : 9223372036854775809 ≤ B ^ s) (hB1 : 1 < B) (a : Int) (l : List Int) (ha : -9223372036854775808 ≤ a ∧ a ≤ 9223372036854775807) (h : Big l) : Sz B (s * (a :: l).length) (Ie (a :: l)).num ∧ Sz B (s * (a :: l).length) ((Ie (a :: l)).den : Int) := by
 cases l with
 | nil =>
  obtain ⟨e1, e2⟩ := Nt a
  show Sz B (s * 1) (Rat.divInt a 1).num ∧ Sz B (s * 1) ((Rat.divInt a 1).den : Int)
  rw [e1, e2, Nat.mul_one]
  unfold Sz
  exact ⟨by omega, by omega⟩
 | cons b l =>
  obtain ⟨i1, i2, i3⟩ := age hB hB1 (b :: l) (by simp) h
  rw [Zr a (by simp)]
  obtain ⟨e1, e2⟩ := Yp a (Ie (b :: l)) i1
  rw [e1, e2]
  refine ⟨?_, i2.mono hB1 (Nat.mul_le_mul_left _ (by simp))⟩
  have := aju hB (a := a) ⟨by omega, by omega⟩ i2 i3
  rwa [← Nat.mul_succ] at this
def asr (l : List Int) : Prop := 0 < l.length ∧ (∀ i, i < l.length → 1 ≤ i → 1 ≤ l.getD i 0) ∧ (l.length = 1 ∨ l.getD (l.length - 1) 0 ≠ 1)
instance (l : List Int) : Decidable (asr l) := by unfold asr; infer_instance
end Wd
end Go.Proofs.YtfgeaakhlcaibaaGreatDoor
namespace Go.Proofs.YtfgeaakhlcaibaaGreatDoor
open Go.RowKit

theorem awt (x q : Rat) (w : World) (u1 : Value) (h1 : Lc x w u1) (ha : (x.den : Int) = q.num) (hb : (1 : Int) = (q.den : Int))
  (hden : ∀ (W : World) (v0 : Value), Lc (x) W v0 → Calls Tryz.prog 130 #[v0] W (ic (Wt (x.den)) W))
  (hone : ∀ (W : World) , Calls Tryz.prog 142 #[] W (ic (Wt (1)) W)) :
  Calls Tryz.prog 82 #[u1] w (ic (Lc q) w) := by
 obtain ⟨A1, c1, l1, m1, A2, c2, l2, m2, rfl, hq1⟩ := h1
 have bkc := hide hden
 have bkb := hide hone
 have HHA := hide ha
 have HHB := hide hb
 clear hden hone ha hb
 go_enter Tryz.func82, Tryz.ntmps82
 go_upto_region 1 with fail
 have hO := (Own.bji (Own.push (Own.nil w) (hq1.below (Below.refl _ _)) (w.heap.size) rfl) (w.heap.size + 1) (by simp only [World.size_alloc]))
 generalize (w.alloc (.cells #[.slice A1 l1.length c1, .bool m1, .slice A2 l2.length c2, .bool m2] 68)).alloc (.cells #[.slice none 0 0, .bool false, .slice none 0 0, .bool false] 68) = W0 at *
 have HO := hide hO
 clear hO
 go_upto_region 1 with fail
 refine Rg.di 4 7 (Rg.pick [Lc (x), Wt (x.den : Int), Wt 1, Lc (q)]) (az w _ W0) dz [] kr rfl (Rg.ek.pick ⟨ajy _, ajx _, ajx _, ajy _, trivial⟩) (az.begin (aa HO))
  (Rg.dm (Rg.plain rfl (bao rfl aF (fun W h => az.box (List.Mem.tail _ (List.Mem.head _)) h) rfl))
   (Rg.dm (Rg.plain rfl (Bp Tryz.func130 kr rfl az.step (aT 0) (fun W v0 hG h0 => aa bkc W v0 h0)))
   (Rg.dm (Rg.plain rfl (Pb Tryz.func142 kr rfl az.step  (fun W  hG  => aa bkb W)))
   (Rg.dm (Rg.plain rfl (aty rfl (aT 1) (aT 2) (aa HHA) (aa HHB) rfl))
   Rg.bg)))) ?_
 intro v V1 hG1 hv hne
 clear hne
 simp only [Rg.puts, List.take_succ_cons, List.take_zero, List.drop_succ_cons, List.drop_zero, Act.put, List.setIfInBounds_toArray, List.set_cons_zero, List.set_cons_succ]
 obtain ⟨bke, bjy, bjq, bjo, bkd, bjx, bjp, bjn, e3, f3⟩ := (show Lc (q) V1 (v 3) from hv 3 de)
 simp only [e3]
 have hO := hG1.1
 obtain ⟨-, _, _, _, _, _, _, _, _, hz, -⟩ := hO.box (w.heap.size + 1) (0) (List.Mem.head _)
 have Ed := ag hz 0
 have Sy := ai hz 0
 have Ec := ag hz 1
 have Sw := ai hz 1
 have Eb := ag hz 2
 have Sv := ai hz 2
 have Ea := ag hz 3
 have Su := ai hz 3
 have Ej := lt_of_block hz
 clear hz
 go_wp2_with fail
 replace hO := Own.set (xs := []) (ys := [(w.heap.size, x)]) hO f3
 unfold bdz at hO
 generalize (((V1.setCell ⟨w.heap.size + 1, 0, none⟩ (.slice bke bjq.length bjy)).setCell ⟨w.heap.size + 1, 1, none⟩ (.bool bjo)).setCell ⟨w.heap.size + 1, 2, none⟩ (.slice bkd bjp.length bjx)).setCell ⟨w.heap.size + 1, 3, none⟩ (.bool bjn) = U1 at *
 try clear Ed Sy Ec Sw Eb Sv Ea Su hG1
 try clear e3 f3 Ej
 try clear hv
 replace HO := hide hO
 clear hO
 obtain ⟨Ua, Vx, Vv, Vq, Vs, Vw, Vu, Vp, Vr, ym, Vt⟩ := (aa HO).box _ _ (List.Mem.head _)
 have Ed := ag ym 0
 have Ec := ag ym 1
 have Eb := ag ym 2
 have Ea := ag ym 3
 have Ej := lt_of_block ym
 clear ym Ua
 go_wp2_with fail
 exact bodyPost_ret (v := .agg #[.slice Vx Vq.length Vv, .bool Vs, .slice Vw Vp.length Vu, .bool Vr]) (by simp [results, Tryz.results82, go_sem, Ed, Ec, Eb, Ea, Ej]) rfl
  ⟨_, rfl, (aa HO).bel, ⟨_, _, _, _, _, _, _, _, rfl, Vt⟩⟩
theorem bhx (x : Rat) (W : World) (v : Value) (h : Lc x W v) : Calls Tryz.prog 130 #[v] W (ic (Wt (x.den : Int)) W) := by
 obtain ⟨A1, c1, l1, m1, A2, c2, l2, m2, rfl, hq⟩ := h
 exact (acd A1 c1 l1 m1 A2 c2 l2 m2 x W hq).mono (fun e w' => abz)
theorem bjv (W : World) : Calls Tryz.prog 142 #[] W (ic (Wt 1) W) := (aeh W).mono (fun e w' => abz)
theorem anz (x : Rat) (W : World) (v : Value) (h : Lc x W v) : Calls Tryz.prog 82 #[v] W (ic (Lc (Rat.divInt (x.den : Int) 1)) W) :=
 awt x _ W v h (Wd.Nt _).1.symm (Wd.Nt _).2.symm (fun W v h => bhx x W v h) bjv
theorem Vk {x y : Rat} {K : Nat} (sx : Wd.Bi dw K x) (sy : Wd.Bi dw K y) (hK : 4 * K + 4 ≤ 35184372088832)  (W : World) (v0 v1 : Value) (h0 : Lc x W v0) (h1 : Lc y W v1) : Calls Tryz.prog 62 #[v0, v1] W (ic (Lc (x * y)) W) := by
 obtain ⟨A1, c1, l1, m1, A2, c2, l2, m2, rfl, f1⟩ := h0
 obtain ⟨A3, c3, l3, m3, A4, c4, l4, m4, rfl, f2⟩ := h1
 exact (aow K A1 c1 l1 m1 A2 c2 l2 m2 A3 c3 l3 m3 A4 c4 l4 m4 x y W f1 f2 sx sy hK).mono (fun e w' => bet)





namespace Sb
def Bw (K : Nat) (x : Rat) : Prop := Wd.Bi dw K x ∧ K ≤ 1000000
variable {W : World} {v0 v1 : Value} {x y : Rat} {K : Nat}
theorem aup {n d : Int} (h0 : ax [.v (.int .i64 n), .v (.int .i64 d)] W v0) : Calls Tryz.prog 70 #[v0] W (ic (Rg.au (.bool (decide (Wd.qm n d)))) W) := by
 rw [Eo h0]
 exact (bah n d W).mono fun e w' h => Zz h
theorem Qi : 1 < dw := by rw [fo]; omega
theorem aek {K : Nat} {n d : Int} (hd : d ≠ 0) (hn : Wd.Sz dw K n) (hdd : Wd.Sz dw K d) : Wd.Bi dw K (Rat.divInt n d) := by
 obtain ⟨h1, h2⟩ := Wd.Mt n d hd
 exact ⟨by rw [h1]; exact hn.tdiv _, by rw [h2]; exact hdd.tdiv _⟩
theorem Bw.mono {K L : Nat} {x : Rat} (h : Bw K x) (hk : K ≤ L) (hl : L ≤ 1000000) : Bw L x := ⟨⟨h.1.1.mono Qi hk, h.1.2.mono Qi hk⟩, hl⟩
theorem Bw.mul {K : Nat} {x y : Rat} (hx : Bw K x) (hy : Bw K y) (h : K + K ≤ 1000000) : Bw (K + K) (x * y) := by
 refine ⟨?_, h⟩
 rw [Wd.amw]
 have d1 := x.den_nz; have d2 := y.den_nz
 exact aek (Int.mul_ne_zero om om) (hx.1.1.mul hy.1.1) (hx.1.2.mul hy.1.2)
theorem Bw.add {K : Nat} {x y : Rat} (hx : Bw K x) (hy : Bw K y) (h : K + K + 1 ≤ 1000000) : Bw (K + K + 1) (x + y) := by
 refine ⟨?_, h⟩
 rw [Wd.bjz]
 have d1 := x.den_nz; have d2 := y.den_nz
 exact aek (Int.mul_ne_zero om om) ((hx.1.1.mul hy.1.2).add Qi (hy.1.1.mul hx.1.2)) ((hx.1.2.mul hy.1.2).mono Qi om)
theorem Bw.neg {K : Nat} {x : Rat} (hx : Bw K x) : Bw K (-x) := ⟨⟨by rw [Rat.neg_num]; exact hx.1.1.neg, by rw [Rat.neg_den]; exact hx.1.2⟩, hx.2⟩
theorem Bw.sub {K : Nat} {x y : Rat} (hx : Bw K x) (hy : Bw K y) (h : K + K + 1 ≤ 1000000) : Bw (K + K + 1) (x - y) := by rw [Rat.sub_eq_add_neg]; exact hx.add hy.neg h
theorem Bw.inv {K : Nat} {x : Rat} (hx : Bw K x) (h0 : x.num ≠ 0) : Bw K (x⁻¹) := by
 have hp := Wd.Tq x h0
 refine ⟨?_, hx.2⟩
 by_cases hn : x.num < 0
 ·
  exact ⟨by rw [(hp.1 hn).1]; exact hx.1.2.neg, by rw [(hp.1 hn).2]; exact hx.1.1.neg⟩
 ·
  exact ⟨by rw [(hp.2 hn).1]; exact hx.1.2, by rw [(hp.2 hn).2]; exact hx.1.1⟩
section
variable {W : World} {v0 v1 : Value} {x y : Rat} {K : Nat}
end
end Sb




structure NbW (w wr : World) (b0 b1 l0 l1 : Int) : Prop where
 below : Below w.heap.size w wr
 x : wr.heap[w.heap.size]? = some (.cells #[.int .i64 22, .int .i64 7] 23 (0, 0))
 lo : wr.heap[w.heap.size + 1]? = some (.cells #[.int .i64 0, .int .i64 0] 23 (0, 0))
 hi : wr.heap[w.heap.size + 2]? = some (.cells #[.int .i64 0, .int .i64 0] 23 (0, 0))
 bef : wr.heap[w.heap.size + 3]? = some (.cells #[.int .i64 b0, .int .i64 b1] 23 (0, 0))
 last : wr.heap[w.heap.size + 4]? = some (.cells #[.int .i64 l0, .int .i64 l1] 23 (0, 0))
theorem NbW.step {w wr w' : World} {b0 b1 l0 l1 : Int} (h : NbW w wr b0 b1 l0 l1) (hb : Below wr.heap.size wr w') : NbW w w' b0 b1 l0 l1 :=
 ⟨ay h.below hb, (hb.block _ (lt_of_block h.x)).trans h.x, (hb.block _ (lt_of_block h.lo)).trans h.lo, (hb.block _ (lt_of_block h.hi)).trans h.hi, (hb.block _ (lt_of_block h.bef)).trans h.bef, (hb.block _ (lt_of_block h.last)).trans h.last⟩
theorem NbW.set {w wr : World} {b0 b1 l0 l1 : Int} (h : NbW w wr b0 b1 l0 l1) (u0 u1 v0 v1 : Int) :
  NbW w ((((wr.setCell ⟨w.heap.size + 3, 0, none⟩ (.int .i64 u0)).setCell ⟨w.heap.size + 3, 1, none⟩ (.int .i64 u1)).setCell ⟨w.heap.size + 4, 0, none⟩ (.int .i64 v0)).setCell ⟨w.heap.size + 4, 1, none⟩ (.int .i64 v1)) u0 u1 v0 v1 := by
 have g1 := mo wr (w.heap.size + 3) (.int .i64 u0) (.int .i64 u1)
 have g2 := mo ((wr.setCell ⟨w.heap.size + 3, 0, none⟩ (.int .i64 u0)).setCell ⟨w.heap.size + 3, 1, none⟩ (.int .i64 u1)) (w.heap.size + 4) (.int .i64 v0) (.int .i64 v1)
 have s1 := g1.size
 have old : ∀ k, k < w.heap.size + 3 → ((((wr.setCell ⟨w.heap.size + 3, 0, none⟩ (.int .i64 u0)).setCell ⟨w.heap.size + 3, 1, none⟩ (.int .i64 u1)).setCell ⟨w.heap.size + 4, 0, none⟩ (.int .i64 v0)).setCell ⟨w.heap.size + 4, 1, none⟩ (.int .i64 v1)).heap[k]? = wr.heap[k]? := fun k hk => by
  have hl := lt_of_block h.last
  exact (g2.block k om (fun e => by injection e with e; omega)).trans (g1.block k om (fun e => by injection e with e; omega))
 have hl := lt_of_block h.last
 have e1 := Qt (u0 := .int .i64 u0) (u1 := .int .i64 u1) h.bef
 refine ⟨(h.below.grown g1 h.below.size (fun k hk => by injection hk with hk; omega)).grown g2 (by have := h.below.size; omega) (fun k hk => by injection hk with hk; omega), (old _ om).trans h.x, (old _ om).trans h.lo, (old _ om).trans h.hi, ?_, ?_⟩
 ·
  exact (g2.block _ (lt_of_block e1) (fun e => by injection e with e; omega)).trans e1
 ·
  exact Qt ((g1.block _ hl (fun e => by injection e with e; omega)).trans h.last)

structure IQ (w : World) (Nn : Int) (adw : Bool) (Dn : Option Addr) (c1a : Nat) (Df : List Nat) (Nl : Int) (adv : Bool) (Dm : Option Addr) (Dh : Nat) (De : List Nat) (q : Rat) : Prop where
 n : fw w Nn adw Dn c1a Df q.num
 d : fw w Nl adv Dm Dh De (q.den : Int)
theorem IQ.below {w w' : World} {Nn : Int} {adw : Bool} {Dn : Option Addr} {c1a : Nat} {Df : List Nat} {Nl : Int} {adv : Bool} {Dm : Option Addr} {Dh : Nat} {De : List Nat} {q : Rat} (h : IQ w Nn adw Dn c1a Df Nl adv Dm Dh De q) (hb : Below w.heap.size w w') : IQ w' Nn adw Dn c1a Df Nl adv Dm Dh De q := ⟨h.n.below hb, h.d.below hb⟩
theorem ama {W : World} {b : Nat} {a0 a1 a2 a3 a4 a5 u0 u1 u2 u3 u4 u5 : Value} {T : TypeId} (h : W.heap[b]? = some (.cells #[a0, a1, a2, a3, a4, a5] T (0, 0))) : ((((((W.setCell ⟨b, 0, none⟩ u0).setCell ⟨b, 1, none⟩ u1).setCell ⟨b, 2, none⟩ u2).setCell ⟨b, 3, none⟩ u3).setCell ⟨b, 4, none⟩ u4).setCell ⟨b, 5, none⟩ u5).heap[b]? = some (.cells #[u0, u1, u2, u3, u4, u5] T (0, 0)) := by
 simp [World.setCell, Array.getElem?_modify, h]

namespace Sb
section
variable {W : World} {v0 v1 : Value} {K : Nat}
end
theorem bjw {W : World} {v0 : Value} {x : Rat} (h : x.num ≠ 0) (h0 : ax [.q x] W v0) : Calls Tryz.prog 94 #[v0] W (ic (ax [.q (x⁻¹)]) W) := azg (akc W x h) h0
theorem Sm.sub {x y : Rat} {K : Nat} (hx : Sm K x) (hy : Sm K y) (h : K + K + 1 ≤ 1000000) (w : World) (hT : og w) : Sm (K + K + 1) (x - y) := ⟨(bbo hT x y hx.1 hy.1 (by have := Lv; omega)).2, h⟩
theorem Sm.inv {x : Rat} {K : Nat} (hx : Sm K x) (h : x.num ≠ 0) : Sm K (x⁻¹) := ⟨hx.1.inv h, hx.2⟩
end Sb


namespace Sb
def xw (f : Nat → Int) : Prop := ∀ j, j < 7 → -9 ≤ f j ∧ f j ≤ 9
instance (f : Nat → Int) : Decidable (xw f) := by unfold xw; infer_instance
theorem aia (z : Int) (w : World) : Calls Tryz.prog 167 #[.int .i64 z] w (ic (Rg.au (.bool (decide (z < -9 ∨ 9 < z)))) w) := by
 obtain ⟨o, ho⟩ : ∃ o, o = decide (z < -9 ∨ 9 < z) := ⟨_, rfl⟩
 rw [← ho]
 have HR := hide ho
 clear ho
 go_enter Tryz.func167, Tryz.ntmps167
 go_upto_region 1 with fail
 have hO := (Own.nil w)
 have HO := hide hO
 clear hO
 by_cases g1 : z < -9
 ·
  have k1 : decide (z < -9) = true := decide_eq_true g1
  have hr : o = true := by rw [aa HR]; exact decide_eq_true om
  subst hr
  go_upto_region 1 with fail
  refine Rg.di 7 9 (Rg.pick [Rg.au (.int .i64 z), Rg.au (.bool true), Rg.au (.bool true), Rg.au undef, Rg.au undef, Rg.au (.bool true), Rg.au (.bool true)]) (az w _ w) dz [] kr rfl (Rg.ek.pick ⟨Rg.ae _, Rg.ae _, Rg.ae _, Rg.ae _, Rg.ae _, Rg.ae _, Rg.ae _, trivial⟩) (az.begin (aa HO))
   (ah (df rfl aF)
   (ah (xq rfl (aT 0) (Rg.je _) rfl k1)
   (ah (df rfl (aT 1))
   (Rg.dm (Rg.pg (d := 5) rfl kr rfl rfl pq rfl rfl)
   (Rg.dm (Rg.pg (d := 5) rfl kr rfl rfl pq rfl rfl)
   (ah (yc rfl (aT 2) (Rg.je _))
   (ah (ik rfl (aT 5))
   Rg.bg))))))) ?_
  intro v1 V1 hG1 hv1 hne1
  simp only [Rg.puts, Act.put, tA]
  have e5 : v1 5 = .bool true := hv1 5 de
  have e6 : v1 6 = .bool true := hv1 6 de
  simp only [e5, e6]
  have hO := hG1.1
  clear HO
  have HO := hide hO
  clear hO hG1 hv1 hne1
  try clear e5 e6
  go_wp2_with fail
  exact yz Tryz.results167 rfl (aa HO).bel rfl
 ·
  by_cases g2 : 9 < z
  ·
   have k1 : decide (z < -9) = false := decide_eq_false g1
   have k2 : decide (9 < z) = true := decide_eq_true g2
   have hr : o = true := by rw [aa HR]; exact decide_eq_true om
   subst hr
   go_upto_region 1 with fail
   refine Rg.di 7 9 (Rg.pick [Rg.au (.int .i64 z), Rg.au (.bool false), Rg.au (.bool false), Rg.au (.int .i64 z), Rg.au (.bool true), Rg.au (.bool true), Rg.au (.bool true)]) (az w _ w) dz [] kr rfl (Rg.ek.pick ⟨Rg.ae _, Rg.ae _, Rg.ae _, Rg.ae _, Rg.ae _, Rg.ae _, Rg.ae _, trivial⟩) (az.begin (aa HO))
    (ah (df rfl aF)
    (ah (xq rfl (aT 0) (Rg.je _) rfl k1)
    (ah (df rfl (aT 1))
    (Rg.dm (Rg.fq (d := 5) rfl kr rfl (df rfl aF))
    (Rg.dm (Rg.fq (d := 5) rfl kr rfl (Uz rfl (aT 3) (Rg.je _) rfl k2))
    (ah (qo rfl (aT 2) (aT 4))
    (ah (ik rfl (aT 5))
    Rg.bg))))))) ?_
   intro v1 V1 hG1 hv1 hne1
   simp only [Rg.puts, Act.put, tA]
   have e5 : v1 5 = .bool true := hv1 5 de
   have e6 : v1 6 = .bool true := hv1 6 de
   simp only [e5, e6]
   have hO := hG1.1
   clear HO
   have HO := hide hO
   clear hO hG1 hv1 hne1
   try clear e5 e6
   go_wp2_with fail
   exact yz Tryz.results167 rfl (aa HO).bel rfl
  ·
   have k1 : decide (z < -9) = false := decide_eq_false g1
   have k2 : decide (9 < z) = false := decide_eq_false g2
   have hr : o = false := by rw [aa HR]; exact decide_eq_false om
   subst hr
   go_upto_region 1 with fail
   refine Rg.di 7 9 (Rg.pick [Rg.au (.int .i64 z), Rg.au (.bool false), Rg.au (.bool false), Rg.au (.int .i64 z), Rg.au (.bool false), Rg.au (.bool false), Rg.au (.bool false)]) (az w _ w) dz [] kr rfl (Rg.ek.pick ⟨Rg.ae _, Rg.ae _, Rg.ae _, Rg.ae _, Rg.ae _, Rg.ae _, Rg.ae _, trivial⟩) (az.begin (aa HO))
    (ah (df rfl aF)
    (ah (xq rfl (aT 0) (Rg.je _) rfl k1)
    (ah (df rfl (aT 1))
    (Rg.dm (Rg.fq (d := 5) rfl kr rfl (df rfl aF))
    (Rg.dm (Rg.fq (d := 5) rfl kr rfl (Uz rfl (aT 3) (Rg.je _) rfl k2))
    (ah (qo rfl (aT 2) (aT 4))
    (ah (ik rfl (aT 5))
    Rg.bg))))))) ?_
   intro v1 V1 hG1 hv1 hne1
   simp only [Rg.puts, Act.put, tA]
   have e5 : v1 5 = .bool false := hv1 5 de
   have e6 : v1 6 = .bool false := hv1 6 de
   simp only [e5, e6]
   have hO := hG1.1
   clear HO
   have HO := hide hO
   clear hO hG1 hv1 hne1
   try clear e5 e6
   go_wp2_with fail
   exact yz Tryz.results167 rfl (aa HO).bel rfl
theorem axa {f : Nat → Int} {post : List jf} {TB : TypeId} {b0 : Nat} (o : Int) (w : World) (hb : si w b0 TB (.k (eK f) :: post))
  (ho : ((∀ j, j < 7 → -9 ≤ f j ∧ f j ≤ 9) → o = -1) ∧ (∀ k : Nat, k < 7 → (f k < -9 ∨ 9 < f k) → (∀ j, j < k → -9 ≤ f j ∧ f j ≤ 9) → o = (k : Int))) :
  Calls Tryz.prog 204 #[.slice (some ⟨b0, 0, none⟩) 7 7, .func (.func 167) #[] #[]] w (ic (Rg.au (.int .i64 o)) w) := by
 have HB := hide hb
 have HR := hide ho
 clear hb ho
 go_enter Tryz.func204, Tryz.ntmps204
 go_upto_region 1 with fail
 have hO := (Own.nil w)
 have HO := hide hO
 clear hO
 go_wp2_with fail
 go_loopw [8] (fun vk wr => ∃ k : Nat, k ≤ 7 ∧ vk = .int .i64 ((k : Nat) : Int) ∧ (∀ j, j < k → -9 ≤ f j ∧ f j ≤ 9) ∧ Hid (Own w [] wr)) (fun vk _ => 7 - (intOf vk).toNat)
 case atStart => exact ⟨0, by omega, rfl, (by intro j hj; omega), HO⟩
 case round =>
  obtain ⟨k, hk, rfl, hall, HO⟩ := hrel
  have HK := hide hk
  have HAL := hide hall
  clear hk hall
  by_cases g1 : k < 7
  ·
   have d1 : decide ((k : Int) < 7) = true := decide_eq_true om
   have xc := hide g1
   clear g1
   go_upto_region 2 with fail
   refine Rg.di 1 19 (Rg.pick [Rg.au (.bool true)]) (az w _ wr) dz [] kr rfl (Rg.ek.pick ⟨Rg.ae _, trivial⟩) (az.begin (aa HO))
    (ah (xq rfl aF aF rfl d1)
    Rg.bg) ?_
   intro v1 V1 hG1 hv1 hne1
   simp only [Rg.puts, Act.put, tA]
   have e0 : v1 0 = .bool true := hv1 0 de
   simp only [e0]
   have hO := hG1.1
   clear HO
   have HO := hide hO
   clear hO hG1 hv1 hne1
   try clear e0
   clear d1
   go_upto_region 3 with fail
   refine Rg.di 2 19 (Rg.pick [Rg.au (.int .i64 (k : Int)), Rg.au (.int .i64 (k : Int))]) (az w _ V1) dz [] kr rfl (Rg.ek.pick ⟨Rg.ae _, Rg.ae _, trivial⟩) (az.begin (aa HO))
    (ah (df rfl aF)
    (ah (ik rfl (aT 0))
    Rg.bg)) ?_
   intro v2 V2 hG2 hv2 hne2
   simp only [Rg.puts, Act.put, tA]
   have e0 : v2 0 = .int .i64 (k : Int) := hv2 0 de
   have e1 : v2 1 = .int .i64 (k : Int) := hv2 1 de
   simp only [e0, e1]
   have hO := hG2.1
   clear HO
   have HO := hide hO
   clear hO hG2 hv2 hne2
   try clear e0 e1
   by_cases g2 : f k < -9 ∨ 9 < f k
   ·
    have k2 : decide (f k < -9 ∨ 9 < f k) = true := decide_eq_true g2
    go_upto_region 4 with fail
    refine Rg.di 6 19 (Rg.pick [Rg.au (.func (.func 167) #[] #[]), Rg.au (.slice (some ⟨b0, 0, none⟩) 7 7), Rg.au (.int .i64 (k : Int)), Rg.au (.pointer (some ⟨b0, k, none⟩)), Rg.au (.int .i64 (f k)), Rg.au (.bool true)]) (az w _ V2) dz [] kr rfl (Rg.ek.pick ⟨Rg.ae _, Rg.ae _, Rg.ae _, Rg.ae _, Rg.ae _, Rg.ae _, trivial⟩) (az.begin (aa HO))
     (ah (df rfl aF)
     (ah (df rfl aF)
     (ah (df rfl aF)
     (ah (apo (i := k) (m := 7) rfl (aT 1) (aT 2) (aa xc) (by simp; rfl))
     (ah (axv (f := f) (b := b0) (TB := TB) (post := post) (fun W h => (aa HB).below h.1.bel) rfl (aT 3) (aa xc) rfl)
     (ah (aex Tryz.func167 kr rfl az.step (aT 0) (aT 4) (fun W v0 hG h0 => by cases h0; exact k2 ▸ aia _ W))
     Rg.bg)))))) ?_
    intro v3 V3 hG3 hv3 mh
    simp only [Rg.puts, Act.put, tA]
    have e5 : v3 5 = .bool true := hv3 5 de
    simp only [e5]
    have hO := hG3.1
    clear HO
    have HO := hide hO
    clear hO hG3 hv3 mh
    try clear e5
    clear k2
    have hr : o = (k : Int) := (aa HR).2 k (aa xc) g2 (aa HAL)
    subst hr
    go_upto_region 5 with fail
    refine Rg.di 2 19 (Rg.pick [Rg.au (.int .i64 (k : Int)), Rg.au (.int .i64 (k : Int))]) (az w _ V3) dz [] kr rfl (Rg.ek.pick ⟨Rg.ae _, Rg.ae _, trivial⟩) (az.begin (aa HO))
     (ah (df rfl aF)
     (ah (ik rfl (aT 0))
     Rg.bg)) ?_
    intro v4 V4 hG4 hv4 tu
    simp only [Rg.puts, Act.put, tA]
    have e0 : v4 0 = .int .i64 (k : Int) := hv4 0 de
    have e1 : v4 1 = .int .i64 (k : Int) := hv4 1 de
    simp only [e0, e1]
    have hO := hG4.1
    clear HO
    have HO := hide hO
    clear hO hG4 hv4 tu
    try clear e0 e1
    go_wp2_with fail
    exact yz Tryz.results204 rfl (aa HO).bel rfl
   ·
    have k2 : decide (f k < -9 ∨ 9 < f k) = false := decide_eq_false g2
    go_upto_region 4 with fail
    refine Rg.di 6 19 (Rg.pick [Rg.au (.func (.func 167) #[] #[]), Rg.au (.slice (some ⟨b0, 0, none⟩) 7 7), Rg.au (.int .i64 (k : Int)), Rg.au (.pointer (some ⟨b0, k, none⟩)), Rg.au (.int .i64 (f k)), Rg.au (.bool false)]) (az w _ V2) dz [] kr rfl (Rg.ek.pick ⟨Rg.ae _, Rg.ae _, Rg.ae _, Rg.ae _, Rg.ae _, Rg.ae _, trivial⟩) (az.begin (aa HO))
     (ah (df rfl aF)
     (ah (df rfl aF)
     (ah (df rfl aF)
     (ah (apo (i := k) (m := 7) rfl (aT 1) (aT 2) (aa xc) (by simp; rfl))
     (ah (axv (f := f) (b := b0) (TB := TB) (post := post) (fun W h => (aa HB).below h.1.bel) rfl (aT 3) (aa xc) rfl)
     (ah (aex Tryz.func167 kr rfl az.step (aT 0) (aT 4) (fun W v0 hG h0 => by cases h0; exact k2 ▸ aia _ W))
     Rg.bg)))))) ?_
    intro v3 V3 hG3 hv3 mh
    simp only [Rg.puts, Act.put, tA]
    have e5 : v3 5 = .bool false := hv3 5 de
    simp only [e5]
    have hO := hG3.1
    clear HO
    have HO := hide hO
    clear hO hG3 hv3 mh
    try clear e5
    clear k2
    have HN := hide (show ∀ j, j < k + 1 → -9 ≤ f j ∧ f j ≤ 9 from fun j hj => by
     rcases Nat.lt_succ_iff_lt_or_eq.1 hj with h | rfl
     ·
      exact (aa HAL) j h
     ·
      omega)
    clear g2
    go_wp2_with fail
    go_roundw
    case rel =>
     exact ⟨k + 1, by have := aa xc; omega, Ql (aa xc) om, aa HN, HO⟩
    case measure =>
     have h1 := aa xc
     clear HO
     rw [Gd h1 om]
     exact measS h1
  ·
   obtain rfl : k = 7 := by have := aa HK; omega
   have hr : o = -1 := (aa HR).1 (aa HAL)
   subst hr
   clear g1
   go_upto_region 2 with fail
   refine Rg.di 1 19 (Rg.pick [Rg.au (.bool false)]) (az w _ wr) dz [] kr rfl (Rg.ek.pick ⟨Rg.ae _, trivial⟩) (az.begin (aa HO))
    (ah (xq rfl aF aF rfl rfl)
    Rg.bg) ?_
   intro v1 V1 hG1 hv1 hne1
   simp only [Rg.puts, Act.put, tA]
   have e0 : v1 0 = .bool false := hv1 0 de
   simp only [e0]
   have hO := hG1.1
   clear HO
   have HO := hide hO
   clear hO hG1 hv1 hne1
   try clear e0
   go_upto_region 7 with fail
   refine Rg.di 1 19 (Rg.pick [Rg.au (.int .i64 (-1))]) (az w _ V1) dz [] kr rfl (Rg.ek.pick ⟨Rg.ae _, trivial⟩) (az.begin (aa HO))
    (ah (ik rfl (Rg.je _))
    Rg.bg) ?_
   intro v2 V2 hG2 hv2 hne2
   simp only [Rg.puts, Act.put, tA]
   have e0 : v2 0 = .int .i64 (-1) := hv2 0 de
   simp only [e0]
   have hO := hG2.1
   clear HO
   have HO := hide hO
   clear hO hG2 hv2 hne2
   try clear e0
   go_wp2_with fail
   exact yz Tryz.results204 rfl (aa HO).bel rfl
theorem bhg (f : Nat → Int) : ∃ o : Int, (((∀ j, j < 7 → -9 ≤ f j ∧ f j ≤ 9) → o = -1) ∧ (∀ k : Nat, k < 7 → (f k < -9 ∨ 9 < f k) → (∀ j, j < k → -9 ≤ f j ∧ f j ≤ 9) → o = (k : Int))) ∧ decide (0 ≤ o) = decide (¬ xw f) := by
 by_cases h : xw f
 ·
  exact ⟨-1, ⟨fun _ => rfl, fun k hk hb _ => by have := h k hk; omega⟩, by rw [decide_eq_false (fun hn : ¬ xw f => hn h)]; rfl⟩
 ·
  have hex : ∃ k, k < 7 ∧ (f k < -9 ∨ 9 < f k) ∧ ∀ j, j < k → -9 ≤ f j ∧ f j ≤ 9 := by
   have key : ∀ n, n ≤ 7 → (∀ j, j < n → -9 ≤ f j ∧ f j ≤ 9) ∨ ∃ k, k < 7 ∧ (f k < -9 ∨ 9 < f k) ∧ ∀ j, j < k → -9 ≤ f j ∧ f j ≤ 9 := by
    intro n
    induction n with
    | zero => exact fun _ => .inl (by intro j hj; omega)
    | succ n ih =>
     intro hn
     rcases ih om with h1 | h1
     ·
      by_cases h2 : -9 ≤ f n ∧ f n ≤ 9
      ·
       exact .inl fun j hj => by
        rcases Nat.lt_succ_iff_lt_or_eq.1 hj with h3 | rfl
        ·
         exact h1 j h3
        ·
         exact h2
      ·
       exact .inr ⟨n, by omega, by omega, h1⟩
     ·
      exact .inr h1
   rcases key 7 om with h1 | h1
   ·
    exact absurd h1 h
   ·
    exact h1
  obtain ⟨k, hk, hb, ha⟩ := hex
  refine ⟨(k : Int), ⟨fun h1 => absurd h1 h, fun k' hk' hb' ha' => ?_⟩, by rw [decide_eq_true om, decide_eq_true h]⟩
  rcases Nat.lt_trichotomy k k' with h1 | h1 | h1
  ·
   have := ha' k h1; omega
  ·
   rw [h1]
  ·
   have := ha k' h1; omega
theorem aoa {f : Nat → Int} {post : List jf} {TB : TypeId} {b0 : Nat} (c : Bool) (w : World) (hb : si w b0 TB (.k (eK f) :: post)) (hc : decide (¬ xw f) = c) :
  Calls Tryz.prog 168 #[.slice (some ⟨b0, 0, none⟩) 7 7, .func (.func 167) #[] #[]] w (ic (Rg.au (.bool c)) w) := by
 obtain ⟨o, hr, hd⟩ := bhg f
 rw [hc] at hd
 have HB := hide hb
 have HR := hide hr
 have HC := hide hd
 clear hb hr hc hd
 go_enter Tryz.func168, Tryz.ntmps168
 go_upto_region 1 with fail
 have hO := (Own.nil w)
 have HO := hide hO
 clear hO
 go_upto_region 1 with fail
 refine Rg.di 5 9 (Rg.pick [Rg.au (.slice (some ⟨b0, 0, none⟩) 7 7), Rg.au (.func (.func 167) #[] #[]), Rg.au (.int .i64 o), Rg.au (.bool c), Rg.au (.bool c)]) (az w _ w) dz [] kr rfl (Rg.ek.pick ⟨Rg.ae _, Rg.ae _, Rg.ae _, Rg.ae _, Rg.ae _, trivial⟩) (az.begin (aa HO))
  (ah (df rfl aF)
  (ah (df rfl aF)
  (ah (sc2 Tryz.func204 (aT 0) (aT 1) (fun W v0 v1 hG h0 h1 => by cases h0; cases h1; exact axa o W ((aa HB).below hG.bel) (aa HR)))
  (ah (bjg rfl (aT 2) (Rg.je _) rfl (aa HC))
  (ah (ik rfl (aT 3))
  Rg.bg))))) ?_
 intro v1 V1 hG1 hv1 hne1
 simp only [Rg.puts, Act.put, tA]
 have e3 : v1 3 = .bool c := hv1 3 de
 have e4 : v1 4 = .bool c := hv1 4 de
 simp only [e3, e4]
 have hO := hG1.1
 clear HO
 have HO := hide hO
 clear hO hG1 hv1 hne1
 try clear e3 e4
 go_wp2_with fail
 exact yz Tryz.results168 rfl (aa HO).bel rfl
theorem Rv {f : Nat → Int} (d : Bool) (w : World) (u0 : Value) (h0 : ax [.k (eK f)] w u0) (hd : decide (xw f) = d) :
  Calls Tryz.prog 96 #[u0] w (ic (Rg.au (.bool d)) w) := by
 obtain ⟨c, hc⟩ : ∃ c, decide (¬ xw f) = c := ⟨_, rfl⟩
 have HC := hide hc
 have HD := hide (show (!c) = d by rw [← hc, ← hd, decide_not, Bool.not_not])
 clear hc hd
 have hu0 := azi h0
 subst hu0
 go_enter Tryz.func96, Tryz.ntmps96
 go_upto_region 1 with fail
 have hO := (Own.push (T := 42) (ls := [.k (eK f)]) (Own.nil w) (fu.e rfl) (w.heap.size) rfl)
 generalize w.alloc (.cells #[.int .i64 (f 0), .int .i64 (f 1), .int .i64 (f 2), .int .i64 (f 3), .int .i64 (f 4), .int .i64 (f 5), .int .i64 (f 6)] 42) = W0 at *
 have HO := hide hO
 clear hO
 go_upto_region 2 with fail
 refine Rg.di 5 8 (Rg.pick [Rg.au (.slice (some ⟨w.heap.size, 0, none⟩) 7 7), Rg.au (.func (.func 167) #[] #[]), Rg.au (.bool c), Rg.au (.bool d), Rg.au (.bool d)]) (az w _ W0) dz [] kr rfl (Rg.ek.pick ⟨Rg.ae _, Rg.ae _, Rg.ae _, Rg.ae _, Rg.ae _, trivial⟩) (az.begin (aa HO))
  (ah (atx (b := w.heap.size) (f := f) (post := []) (fun W h => az.box me0 h) rfl aF rfl)
  (ah (df rfl aF)
  (ah (sc2 Tryz.func168 (aT 0) (aT 1) (fun W v0 v1 hG h0 h1 => by cases h0; cases h1; exact aoa c W (az.box me0 hG) (aa HC)))
  (ah (zw rfl (aT 2) rfl (aa HD))
  (ah (ik rfl (aT 3))
  Rg.bg))))) ?_
 intro v1 V1 hG1 hv1 hne1
 simp only [Rg.puts, Act.put, tA]
 have e3 : v1 3 = .bool d := hv1 3 de
 have e4 : v1 4 = .bool d := hv1 4 de
 simp only [e3, e4]
 have hO := hG1.1
 clear HO
 have HO := hide hO
 clear hO hG1 hv1 hne1
 try clear e3 e4
 go_wp2_with fail
 exact yz Tryz.results96 rfl (aa HO).bel rfl
end Sb


namespace Sb
theorem Lt {B K : Nat} {z : Int} (hB : 1 < B) (h : Wd.Sz B K z) : ∀ n : Nat, Wd.Sz B (K * n + 1) (z ^ n)
 | 0 => by rw [Int.pow_zero]; exact Wd.Sz.of_le (by show 1 < B; omega) hB om
 | n + 1 => by
  have := (Lt hB h n).mul h
  rw [Int.pow_succ, Nat.mul_succ, Nat.add_right_comm]
  exact this
theorem Ji (x : Rat) (m : Nat) : (x ^ m).num = x.num ^ m ∧ ((x ^ m).den : Int) = (x.den : Int) ^ m := ⟨rfl, Int.natCast_pow _ _⟩
theorem Sm.pow {K : Nat} {x : Rat} (h : Sm K x) (m : Nat) (hm : K * m + 1 ≤ 1000000) : Sm (K * m + 1) (x ^ m) :=
 ⟨⟨by rw [(Ji x m).1]; exact Lt oh h.1.1 m, by rw [(Ji x m).2]; exact Lt oh h.1.2 m⟩, hm⟩
theorem Bw.pow {K : Nat} {x : Rat} (h : Bw K x) (m : Nat) (hm : K * m + 1 ≤ 1000000) : Bw (K * m + 1) (x ^ m) :=
 ⟨⟨by rw [(Ji x m).1]; exact Lt Qi h.1.1 m, by rw [(Ji x m).2]; exact Lt Qi h.1.2 m⟩, hm⟩
theorem bmy {F : Nat} {vs : Array Value} {W : World} {a b : Int} (e : a = b) (h : Calls Tryz.prog F vs W (ic (ax [.z a]) W)) : Calls Tryz.prog F vs W (ic (ax [.z b]) W) := e ▸ h
theorem bmx {W : World} {x : Rat} {v : Value} (h : ax [.z x.num, .z (x.den : Int)] W v) : ax [.q x] W v := by
 obtain ⟨s1, n1, A1, c1, l1, s2, n2, A2, c2, l2, rfl, f1, f2⟩ := Mx h
 exact ⟨_, rfl, fu.q f1 f2 rfl⟩
theorem bde {w w' : World} {q : Rat} {e : Ending} (h : ic (ax [.z q.num, .z (q.den : Int)]) w e w') : ic (ax [.q q]) w e w' := by
 obtain ⟨u, h1, h2, h3⟩ := h
 exact ⟨u, h1, h2, bmx h3⟩
theorem kle {K m k : Nat} (h : K * m + 1 ≤ 1000000) (hk : k < m) : K ≤ K * m + 1 := by
 have : K * 1 ≤ K * m := Nat.mul_le_mul_left K om
 omega
theorem asl {x : Int} {K m : Nat} (sx : Wd.Sz dh K x) (hK : K * m + 1 ≤ 1000000) (hm : m ≤ 1000000) (w : World) (u0 : Value) (h0 : ax [.z x] w u0) :
  Calls Tryz.prog 139 #[u0, .int .i64 (m : Int)] w (ic (ax [.z (x ^ m)]) w) := by
 have HS := hide (And.intro sx (And.intro hK hm))
 clear sx hK hm
 obtain ⟨Hu, Ia, Gb, c0a, Fv, rfl, f0a⟩ := aaf h0
 go_enter Tryz.func139, Tryz.ntmps139
 go_upto_region 1 with fail
 have hO := (Own.push (T := 77) (ls := zZ) (Own.push (T := 77) (ls := [.z x]) (Own.nil w) (fu.z f0a rfl) (w.heap.size) rfl) (fu.below (by repeat (first | exact Below.refl _ _ | refine ig ?_ _)) (fu.vs w [.int .i64 0, .bool false, .slice none 0 0] rfl)) (w.heap.size + 1) (by simp only [World.size_alloc]))
 generalize (w.alloc (.cells #[.int .i64 Hu, .bool Ia, .slice Gb (List.length Fv) c0a] 77)).alloc (.cells #[.int .i64 0, .bool false, .slice none 0 0] 77) = W0 at *
 have HO := hide hO
 clear hO
 go_upto_region 1 with fail
 refine Rg.di 2 15 (Rg.pick [ax [.z (x ^ 0)], qj 77 zZ W0.heap.size]) (az w _ W0) dz [1] kr rfl (Rg.ek.pick ⟨bf _, qz _ _ _, trivial⟩) (az.begin (aa HO))
  (ah (sc1 Tryz.func137 (Rg.je _) (fun W v0 hG h0 => by cases h0; exact bmy (by rw [Int.pow_zero]) (bhv 1 om om W)))
  (ah (uh Nv rfl az.step az.size rfl (xm (by intro j hj; simp at hj; (repeat' (first | (rcases hj with rfl | hj))) <;> first | (subst hj; exact ⟨_, _, _, rfl⟩) | exact ⟨_, _, _, rfl⟩)))
  Rg.bg)) ?_
 intro v1 V1 hG1 hv1 hne1
 simp only [Rg.puts, Act.put, tA]
 obtain ⟨boy, e1, bgi, hz1⟩ := (show qj 77 zZ W0.heap.size V1 (v1 1) from hv1 1 de)
 simp only [e1]
 have hO := hG1.1
 replace hO := Own.add (aa HO) hG1.2 bgi hz1
 clear bgi hz1
 refine oo hO 0 [] zZ [.z (x ^ 0)] [] rfl Dq rfl (show ax [.z (x ^ 0)] V1 (v1 0) from hv1 0 de) rfl rfl rfl ?_
 intro Cg jb hk0
 replace hO := jb
 clear jb
 clear HO
 have HO := hide hO
 clear hO hG1 hv1 hne1 hk0
 try clear e1
 go_upto_region 2 with fail
 refine Rg.di 2 15 (Rg.pick [Rg.au (.int .i64 (m : Int)), Rg.au (.int .i64 0)]) (az w _ Cg) dz [] kr rfl (Rg.ek.pick ⟨Rg.ae _, Rg.ae _, trivial⟩) (az.begin (aa HO))
  (ah (df rfl aF)
  (ah (df rfl (Rg.je _))
  Rg.bg)) ?_
 intro v2 V2 hG2 hv2 hne2
 simp only [Rg.puts, Act.put, tA]
 have e0 : v2 0 = .int .i64 (m : Int) := hv2 0 de
 have e1 : v2 1 = .int .i64 0 := hv2 1 de
 simp only [e0, e1]
 have hO := hG2.1
 clear HO
 have HO := hide hO
 clear hO hG2 hv2 hne2
 try clear e0 e1
 go_wp2_with fail
 go_loopw [8] (fun vk wr => ∃ k : Nat, k ≤ m ∧ vk = .int .i64 ((k : Nat) : Int) ∧ Hid (Own w [(boy, 77, [.z (x ^ k)]), (w.heap.size + 1, 77, zZ), (w.heap.size, 77, [.z x])] wr)) (fun vk _ => m - (intOf vk).toNat)
 case atStart => exact ⟨0, by omega, rfl, HO⟩
 case round =>
  obtain ⟨k, hk, rfl, HO⟩ := hrel
  have HK := hide hk
  clear hk
  by_cases g1 : (k : Int) < (m : Int)
  ·
   have d1 : decide ((k : Int) < (m : Int)) = true := decide_eq_true g1
   have rq := hide (show k < m by omega)
   go_upto_region 3 with fail
   refine Rg.di 1 15 (Rg.pick [Rg.au (.bool true)]) (az w _ wr) dz [] kr rfl (Rg.ek.pick ⟨Rg.ae _, trivial⟩) (az.begin (aa HO))
    (ah (xq rfl aF aF rfl d1)
    Rg.bg) ?_
   intro v3 V3 hG3 hv3 mh
   simp only [Rg.puts, Act.put, tA]
   have e0 : v3 0 = .bool true := hv3 0 de
   simp only [e0]
   have hO := hG3.1
   clear HO
   have HO := hide hO
   clear hO hG3 hv3 mh
   try clear e0
   clear d1 g1
   go_upto_region 4 with fail
   refine Rg.di 3 15 (Rg.pick [ax [.z (x ^ k)], ax [.z x], ax [.z (x ^ (k + 1))]]) (az w _ V3) dz [] kr rfl (Rg.ek.pick ⟨bf _, bf _, bf _, trivial⟩) (az.begin (aa HO))
    (ah (jc oz me0 aF [] [.z (x ^ k)] [])
    (ah (jc oz Ib aF [] [.z x] [])
    (ah (sc2 Tryz.func147 (aT 0) (aT 1) (fun W v0 v1 hG h0 h1 => bhw (Pn (Lt oh (aa HS).1 k |>.mono oh (Nat.succ_le_succ (Nat.mul_le_mul_left K (aa HK)))) ((aa HS).1.mono oh (kle (aa HS).2.1 (aa rq))) (by have := (aa HS).2.1; have := Lv; omega) (Int.pow_succ x k)) h0 h1))
    Rg.bg))) ?_
   intro v4 V4 hG4 hv4 tu
   simp only [Rg.puts, Act.put, tA]
   have hO := hG4.1
   refine oo hO 0 [] [.z (x ^ k)] [.z (x ^ (k + 1))] [] rfl Dq rfl (show ax [.z (x ^ (k + 1))] V4 (v4 2) from hv4 2 de) rfl rfl rfl ?_
   intro Gr jb hk0
   replace hO := jb
   clear jb
   clear HO
   have HO := hide hO
   clear hO hG4 hv4 tu hk0
   go_wp2_with fail
   go_roundw
   case rel =>
    exact ⟨k + 1, by have := aa rq; omega, Ql (aa rq) (aa HS).2.2, HO⟩
   case measure =>
    have h1 := aa rq
    have h2 := (aa HS).2.2
    clear HO
    rw [Gd h1 h2]
    exact measS h1
  ·
   have d1 : decide ((k : Int) < (m : Int)) = false := decide_eq_false g1
   obtain rfl : k = m := by have := aa HK; omega
   go_upto_region 3 with fail
   refine Rg.di 1 15 (Rg.pick [Rg.au (.bool false)]) (az w _ wr) dz [] kr rfl (Rg.ek.pick ⟨Rg.ae _, trivial⟩) (az.begin (aa HO))
    (ah (xq rfl aF aF rfl d1)
    Rg.bg) ?_
   intro v3 V3 hG3 hv3 mh
   simp only [Rg.puts, Act.put, tA]
   have e0 : v3 0 = .bool false := hv3 0 de
   simp only [e0]
   have hO := hG3.1
   clear HO
   have HO := hide hO
   clear hO hG3 hv3 mh
   try clear e0
   clear d1 g1
   go_upto_region 6 with fail
   refine Rg.di 1 15 (Rg.pick [ax [.z (x ^ k)]]) (az w _ V3) dz [] kr rfl (Rg.ek.pick ⟨bf _, trivial⟩) (az.begin (aa HO))
    (ah (jc oz me0 aF [] [.z (x ^ k)] [])
    Rg.bg) ?_
   intro v4 V4 hG4 hv4 tu
   simp only [Rg.puts, Act.put, tA]
   have hO := hG4.1
   refine oo hO 1 [] zZ [.z (x ^ k)] [] rfl Dq rfl (show ax [.z (x ^ k)] V4 (v4 0) from hv4 0 de) rfl rfl rfl ?_
   intro Gr jb hk0
   replace hO := jb
   clear jb
   clear HO
   have HO := hide hO
   clear hO hG4 hv4 tu hk0
   go_wp2_with fail
   exact Dy Tryz.results139 bbt rfl (aa HO) wz rfl rfl
theorem aqd {p q : Int} {K m : Nat} (sp : Wd.Sz dh K p) (sq : Wd.Sz dh K q) (hK : K * m + 1 ≤ 1000000) (hm : m ≤ 1000000) (w : World) (u0 : Value) (h0 : ax [.z p, .z q] w u0) :
  Calls Tryz.prog 68 #[u0, .int .i64 (m : Int)] w (ic (ax [.z (p ^ m), .z (q ^ m)]) w) := by
 have HS := hide (And.intro sp (And.intro sq (And.intro hK hm)))
 clear sp sq hK hm
 obtain ⟨Hu, Ia, Gb, c0a, Fv, Ke, Ki, Iz, c0b, Ic, rfl, f0a, Ik⟩ := Mx h0
 go_enter Tryz.func68, Tryz.ntmps68
 go_upto_region 1 with fail
 have hO := (Own.push (T := 79) (ls := zQ) (Own.push (T := 79) (ls := [.z p, .z q]) (Own.nil w) (fu.z f0a (fu.z Ik rfl)) (w.heap.size) rfl) (fu.below (by repeat (first | exact Below.refl _ _ | refine ig ?_ _)) (fu.vs w [.int .i64 0, .bool false, .slice none 0 0, .int .i64 0, .bool false, .slice none 0 0] rfl)) (w.heap.size + 1) (by simp only [World.size_alloc]))
 generalize (w.alloc (.cells #[.int .i64 Hu, .bool Ia, .slice Gb (List.length Fv) c0a, .int .i64 Ke, .bool Ki, .slice Iz (List.length Ic) c0b] 79)).alloc (.cells #[.int .i64 0, .bool false, .slice none 0 0, .int .i64 0, .bool false, .slice none 0 0] 79) = W0 at *
 have HO := hide hO
 clear hO
 have d1 : decide ((m : Int) < 0) = false := decide_eq_false om
 go_upto_region 1 with fail
 refine Rg.di 2 21 (Rg.pick [Rg.au (.int .i64 (m : Int)), Rg.au (.bool false)]) (az w _ W0) dz [] kr rfl (Rg.ek.pick ⟨Rg.ae _, Rg.ae _, trivial⟩) (az.begin (aa HO))
  (ah (df rfl aF)
  (ah (xq rfl (aT 0) (Rg.je _) rfl d1)
  Rg.bg)) ?_
 intro v1 V1 hG1 hv1 hne1
 simp only [Rg.puts, Act.put, tA]
 have e1 : v1 1 = .bool false := hv1 1 de
 simp only [e1]
 have hO := hG1.1
 clear HO
 have HO := hide hO
 clear hO hG1 hv1 hne1
 try clear e1
 clear d1
 go_upto_region 3 with fail
 refine Rg.region 9 21 (Rg.pick [Rg.au (.pointer (some ⟨w.heap.size, 0, none⟩)), ax [.z p], Rg.au (.int .i64 (m : Int)), ax [.z (p ^ m)], Rg.au (.pointer (some ⟨w.heap.size, 3, none⟩)), ax [.z q], Rg.au (.int .i64 (m : Int)), ax [.z (q ^ m)], ax [.z (p ^ m), .z (q ^ m)]]) (az w _ V1) dz [] kr kr rfl (Rg.ek.pick ⟨Rg.ae _, bf _, Rg.ae _, bf _, Rg.ae _, bf _, Rg.ae _, bf _, bf _, trivial⟩) (az.start (aa HO))
  (ah (Eh (b := w.heap.size) (off := 0) rfl aF rfl rfl)
  (ah (jc oz wz (aT 0) [] [.z p] [.z q])
  (ah (df rfl aF)
  (ah (sc2 Tryz.func139 (aT 1) (aT 2) (fun W v0 v1 hG h0 h1 => by cases h1; exact asl (aa HS).1 (aa HS).2.2.1 (aa HS).2.2.2 W _ h0))
  (ah (Ap (b := w.heap.size) (off := 0) rfl aF rfl rfl)
  (ah (jc oz wz (aT 4) [.z p] [.z q] [])
  (ah (df rfl aF)
  (ah (sc2 Tryz.func139 (aT 5) (aT 6) (fun W v0 v1 hG h0 h1 => by cases h1; exact asl (aa HS).2.1 (aa HS).2.2.1 (aa HS).2.2.2 W _ h0))
  (ah (Gm abq rfl (aT 3) (aT 7) rfl rfl rfl)
  Rg.bg))))))))) ?_
 intro v2 V2 hG2 hv2 hne2
 simp only [Rg.puts, Act.put, tA]
 have hO := hG2.1
 refine oo hO 0 [] zQ [.z (p ^ m), .z (q ^ m)] [] rfl Gx rfl (show ax [.z (p ^ m), .z (q ^ m)] V2 (v2 8) from hv2 8 de) rfl rfl rfl ?_
 intro Jo jb hk0
 replace hO := jb
 clear jb
 clear HO
 have HO := hide hO
 clear hO hG2 hv2 hne2 hk0
 go_wp2_with fail
 exact Dy Tryz.results68 Lu rfl (aa HO) me0 rfl rfl
theorem aze {x a : Rat} {K m : Nat} (e : a = x ^ m) (sx : Sm K x) (hK : K * m + 1 ≤ 1000000) (hm : m ≤ 1000000) (w : World) (u0 : Value) (h0 : ax [.q x] w u0) :
  Calls Tryz.prog 68 #[u0, .int .i64 (m : Int)] w (ic (ax [.q a]) w) := by
 subst e
 refine (aqd (m := m) sx.1.1 sx.1.2 hK hm w u0 (bnh h0)).mono fun e w' h => bde ?_
 rw [(Ji x m).1, (Ji x m).2]
 exact h
end Sb


namespace Sb
theorem auc {ρ : Operand → Value} {w : World} {d : Option Tmp} {x : Operand} {m : Nat} {tb : TypeId} {ty : TypeId} {pos : String} {af : Array Edge} {gd : Option (Nat × Bool)} (hm : m ≤ 1000000) (h : ρ x = .int .i64 (-(m : Int))) :
  (execOp ρ { dst := d, op := .unOp .neg 3 x, type := ty, pos := pos, after := af, guard := gd }).run Tryz.prog w = .ok (.value (.int .i64 (m : Int))) w := by
 have hw : wrap64 (-(-(m : Int))) = (m : Int) := by rw [Int.neg_neg]; exact IntWalk.wrap64_in _ om
 rw [Int.neg_neg] at hw
 simp only [execOp, h]
 have hw2 : IntKind.i64.wrap (m : Int) = (m : Int) := IntWalk.i64_in _ om
 simp [go_sem, Tryz.underlying3, hw, hw2]
theorem beb {Q : Exit → Act → World → Prop} {l : List Oper} {n : Nat} {T : Nat → World → Value → Prop} {G : World → Prop} {al : List Nat} {a0 : Act} {k d : Nat} {ty : TypeId} {pos : String} {af : Array Edge} {gd : Option (Nat × Bool)} {x : Operand} {m : Nat} (hm : m ≤ 1000000) (hal : al.contains k = false) (hx : Rg.ib l n T a0 k x (Rg.au (.int .i64 (-(m : Int))))) (hT : T k = Rg.au (.int .i64 (m : Int))) :
  Rg.Step Tryz.prog Q l n T G dz al a0 k { dst := some d, op := .unOp .neg 3 x, type := ty, pos := pos, after := af, guard := gd } := by
 intro a w hG hO hN
 exact iq (P := Tryz.prog) (auc (tb := 0) hm (hx a w hO hN)) ⟨_, rfl, hG, Below.refl _ _, by rw [hT]; rfl, fun h => by rw [hal] at h; cases h⟩
noncomputable def Hy (x : Rat) (k : Int) : Rat := if k < 0 then x⁻¹ ^ (-k).toNat else x ^ k.toNat
theorem Sm.Hy {K : Nat} {x : Rat} (h : Sm K x) (h0 : x.num ≠ 0) {k : Int} {b : Nat} (hk : -(b : Int) ≤ k ∧ k ≤ b) (hm : K * b + 1 ≤ 1000000) : Sm (K * b + 1) (Sb.Hy x k) := by
 have le : ∀ j : Nat, j ≤ b → K * j + 1 ≤ K * b + 1 := fun j hj => Nat.succ_le_succ (Nat.mul_le_mul_left K hj)
 unfold Sb.Hy
 split
 ·
  exact ((h.inv h0).pow _ (Nat.le_trans (le _ om) hm)).mono (le _ om) hm
 ·
  exact (h.pow _ (Nat.le_trans (le _ om) hm)).mono (le _ om) hm
theorem Bw.Hy {K : Nat} {x : Rat} (h : Bw K x) (h0 : x.num ≠ 0) {k : Int} {b : Nat} (hk : -(b : Int) ≤ k ∧ k ≤ b) (hm : K * b + 1 ≤ 1000000) : Bw (K * b + 1) (Sb.Hy x k) := by
 have le : ∀ j : Nat, j ≤ b → K * j + 1 ≤ K * b + 1 := fun j hj => Nat.succ_le_succ (Nat.mul_le_mul_left K hj)
 unfold Sb.Hy
 split
 ·
  exact Bw.mono ((h.inv h0).pow _ (Nat.le_trans (le _ om) hm)) (le _ om) hm
 ·
  exact Bw.mono (h.pow _ (Nat.le_trans (le _ om) hm)) (le _ om) hm
theorem ajj {x a : Rat} {K m : Nat} (sx : Sm K x) (h0n : x.num ≠ 0) (h1m : 0 < m) (hK : K * m + 1 ≤ 1000000) (hm : m ≤ 1000000) (e : a = x⁻¹ ^ m) (w : World) (u0 : Value) (h0 : ax [.q x] w u0) :
  Calls Tryz.prog 68 #[u0, .int .i64 (-(m : Int))] w (ic (ax [.q a]) w) := by
 have HS := hide (And.intro sx (And.intro h0n (And.intro h1m (And.intro hK (And.intro hm e)))))
 clear sx h0n h1m hK hm e
 obtain ⟨Hu, Ia, Gb, c0a, Fv, Ke, Ki, Iz, c0b, Ic, rfl, f0a, Ik⟩ := Gg h0
 go_enter Tryz.func68, Tryz.ntmps68
 go_upto_region 1 with fail
 have hO := (Own.push (T := 79) (ls := zQ) (Own.push (T := 79) (ls := [.q x]) (Own.nil w) (fu.q f0a Ik rfl) (w.heap.size) rfl) (fu.below (by repeat (first | exact Below.refl _ _ | refine ig ?_ _)) (fu.vs w [.int .i64 0, .bool false, .slice none 0 0, .int .i64 0, .bool false, .slice none 0 0] rfl)) (w.heap.size + 1) (by simp only [World.size_alloc]))
 generalize (w.alloc (.cells #[.int .i64 Hu, .bool Ia, .slice Gb (List.length Fv) c0a, .int .i64 Ke, .bool Ki, .slice Iz (List.length Ic) c0b] 79)).alloc (.cells #[.int .i64 0, .bool false, .slice none 0 0, .int .i64 0, .bool false, .slice none 0 0] 79) = W0 at *
 have HO := hide hO
 clear hO
 have d1 : decide (-(m : Int) < 0) = true := decide_eq_true (by have := (aa HS).2.2.1; omega)
 go_upto_region 1 with fail
 refine Rg.di 2 21 (Rg.pick [Rg.au (.int .i64 (-(m : Int))), Rg.au (.bool true)]) (az w _ W0) dz [] kr rfl (Rg.ek.pick ⟨Rg.ae _, Rg.ae _, trivial⟩) (az.begin (aa HO))
  (ah (df rfl aF)
  (ah (xq rfl (aT 0) (Rg.je _) rfl d1)
  Rg.bg)) ?_
 intro v1 V1 hG1 hv1 hne1
 simp only [Rg.puts, Act.put, tA]
 have e1 : v1 1 = .bool true := hv1 1 de
 simp only [e1]
 have hO := hG1.1
 clear HO
 have HO := hide hO
 clear hO hG1 hv1 hne1
 try clear e1
 clear d1
 go_upto_region 2 with fail
 refine Rg.di 5 21 (Rg.pick [ax [.q x], ax [.q (x⁻¹)], Rg.au (.int .i64 (-(m : Int))), Rg.au (.int .i64 (m : Int)), ax [.q a]]) (az w _ V1) dz [] kr rfl (Rg.ek.pick ⟨bf _, bf _, Rg.ae _, Rg.ae _, bf _, trivial⟩) (az.begin (aa HO))
  (ah (jc Fu wz aF [] [.q x] [])
  (ah (sc1 Tryz.func94 (aT 0) (fun W v0 hG h0 => bjw (aa HS).2.1 h0))
  (ah (df rfl aF)
  (ah (beb (aa HS).2.2.2.2.1 rfl (aT 2) rfl)
  (ah (sc2 Tryz.func68 (aT 1) (aT 3) (fun W v0 v1 hG h0 h1 => by cases h1; exact aze (aa HS).2.2.2.2.2 (Sm.inv (aa HS).1 (aa HS).2.1) (aa HS).2.2.2.1 (aa HS).2.2.2.2.1 W _ h0))
  Rg.bg))))) ?_
 intro v2 V2 hG2 hv2 hne2
 simp only [Rg.puts, Act.put, tA]
 have hO := hG2.1
 refine oo hO 0 [] zQ [.q a] [] rfl Gx rfl (show ax [.q a] V2 (v2 4) from hv2 4 de) rfl rfl rfl ?_
 intro Jo jb hk0
 replace hO := jb
 clear jb
 clear HO
 have HO := hide hO
 clear hO hG2 hv2 hne2 hk0
 go_wp2_with fail
 exact Dy Tryz.results68 Lu rfl (aa HO) me0 rfl rfl
theorem bht {x : Rat} {K b : Nat} {k : Int} (sx : Sm K x) (h0n : x.num ≠ 0) (hk : -(b : Int) ≤ k ∧ k ≤ b) (hK : K * b + 1 ≤ 1000000) (hb : b ≤ 1000000) (w : World) (u0 : Value) (h0 : ax [.q x] w u0) :
  Calls Tryz.prog 68 #[u0, .int .i64 k] w (ic (ax [.q (Hy x k)]) w) := by
 have le : ∀ j : Nat, j ≤ b → K * j + 1 ≤ 1000000 := fun j hj => Nat.le_trans (Nat.succ_le_succ (Nat.mul_le_mul_left K hj)) hK
 unfold Hy
 split
 ·
  rename_i h
  have e : k = -(((-k).toNat : Nat) : Int) := by omega
  generalize (-k).toNat = m at *
  subst e
  exact ajj sx h0n om (le _ om) om rfl w u0 h0
 ·
  rename_i h
  have e : k = ((k.toNat : Nat) : Int) := by omega
  generalize k.toNat = m at *
  subst e
  exact aze rfl sx (le _ om) om w u0 h0
end Sb

end Go.Proofs.YtfgeaakhlcaibaaGreatDoor
