/- Texts beneath a law of layer 1. -/
import Derived.Test.YtfgeaakhlcaibaaGreatDoorCy17
set_option maxRecDepth 100000
set_option maxHeartbeats 16000000
namespace Go.Proofs.YtfgeaakhlcaibaaGreatDoor
open Go.RowKit

namespace Sb
noncomputable def ko (f : Nat → Int) (l : List (Int × Int)) : Nat → Rat
 | 0 => Rat.divInt 1 1
 | k + 1 => ko f l k * xk (Wd.qR (rn l k) (rd l k)) (f k)
noncomputable instance (l : List (Int × Int)) : Decidable (∀ j, j < 7 → 1 ≤ rn l j) := Classical.propDecidable _
noncomputable def xz (f : Nat → Int) (n d : Int) (l : List (Int × Int)) : Wd.Told :=
 if Gg f n d ∧ Uj l then (if l.length = 7 then (if (∀ j, j < 7 → 1 ≤ rn l j) then Wd.told (ko f l 7) else ⟨0, 0, 1⟩) else ⟨0, 0, 8⟩) else ⟨0, 0, 1⟩
theorem awy {n d : Int} (ok : Wd.oo n d) (h : 1 ≤ n) : 0 < Wd.qR n d := bao (f := z7) ⟨fun j _ => by unfold z7; omega, ok, h⟩
theorem alq {n d : Int} (ok : Wd.oo n d) (h : 1 ≤ n) : (Wd.qR n d).num ≠ 0 := alr (awy ok h)
def sS : Nat → Nat
 | 0 => 20
 | k + 1 => sS k + sS k
theorem alb : ∀ k, 20 ≤ sS k
 | 0 => Nat.le_refl _
 | k + 1 => by have := alb k; show 20 ≤ sS k + sS k; omega
theorem acy {k : Nat} (h : k ≤ 7) : sS k ≤ 2560 := by
 have hc : k = 0 ∨ k = 1 ∨ k = 2 ∨ k = 3 ∨ k = 4 ∨ k = 5 ∨ k = 6 ∨ k = 7 := by omega
 rcases hc with rfl | rfl | rfl | rfl | rfl | rfl | rfl | rfl <;> decide
theorem awp {f : Nat → Int} {n d : Int} {k : Nat} (hf : Ad f) (hk : k < 7) (ok : Wd.oo n d) (h : 1 ≤ n) : Sm (sS k) (xk (Wd.qR n d) (f k)) :=
 (Sm.xk (K := 1) (b := 9) (Dg ok) (alq ok h) (hf k hk) om).mono (by have := alb k; omega) (by have := acy (k := k) om; omega)
theorem aea {f : Nat → Int} {l : List (Int × Int)} (hf : Ad f) {w : World} (hT : qm w) : ∀ k, k ≤ 7 → (∀ j, j < k → Wd.oo (rn l j) (rd l j) ∧ 1 ≤ rn l j) → Sm (sS k) (ko f l k)
 | 0, _, _ => (Dg Ik).mono de de
 | k + 1, hk, h => Sm.mul (aea hf hT k om (fun j hj => h j om)) (awp hf om (h k om).1 (h k om).2) (by have := acy (k := k) om; omega) w hT
theorem aoh {f : Nat → Int} {n d : Int} {k : Nat} (hf : Ad f) (hk : k < 7) (ok : Wd.oo n d) (h : 1 ≤ n) : uu (sS k) (xk (Wd.qR n d) (f k)) :=
 (uu.xk (K := 2) (b := 9) (Hr ok) (alq ok h) (hf k hk) om).mono (by have := alb k; omega) (by have := acy (k := k) om; omega)
theorem abe {f : Nat → Int} {l : List (Int × Int)} (hf : Ad f) : ∀ k, k ≤ 7 → (∀ j, j < k → Wd.oo (rn l j) (rd l j) ∧ 1 ≤ rn l j) → uu (sS k) (ko f l k)
 | 0, _, _ => (Hr Ik).mono de de
 | k + 1, hk, h => uu.mul (abe hf k om (fun j hj => h j om)) (aoh hf om (h k om).1 (h k om).2) (by have := acy (k := k) om; omega)
theorem bhi {n m : Nat} (h1 : n < m) (h2 : m ≤ 9223372036854775807) : Value.int .i64 (wrap64 ((n : Int) + 1)) = Value.int .i64 ((n + 1 : Nat) : Int) := by rw [(IntWalk.wrap64_in _ om).trans (by omega : ((n : Int) + 1) = ((n + 1 : Nat) : Int))]
theorem bbx {n m : Nat} (h1 : n < m) (h2 : m ≤ 9223372036854775807) : wrap64 ((n : Int) + 1) = ((n + 1 : Nat) : Int) := (IntWalk.wrap64_in _ om).trans om
theorem asn {n d : Int} (h : Wd.oo n d) : Oi n d = 0 := if_pos h
theorem aza {n d : Int} (h : ¬ Wd.oo n d) : Oi n d = 1 := if_neg h
theorem Ou {Q : Exit → Act → World → Prop} {l : List Oper} {n : Nat} {T : Nat → World → Value → Prop} {G : World → Prop} {al : List Nat} {a0 : Act} {k d : Nat} {ty : TypeId} {pos : String} {af : Array Edge} {gd : Option (Nat × Bool)} {x : Operand} {A : Option Addr} {m c : Nat} (hal : al.contains k = false) (hx : Rg.ig l n T a0 k x (Rg.au (.slice A m c))) (hT : T k = Rg.au (.int .i64 m)) :
  Rg.Step Tryz.prog Q l n T G eu al a0 k { dst := some d, op := .call { callee := .builtin .len, args := #[x], argTypes := #[55] }, type := ty, pos := pos, after := af, guard := gd } := by
 intro a w hG hO hN
 have h : a.eval x = .slice A m c := hx a w hO hN
 have hr : (execOp a.eval { dst := some d, op := .call { callee := .builtin .len, args := #[x], argTypes := #[55] }, type := ty, pos := pos, after := af, guard := gd }).run Tryz.prog w = .ok (.value (.int .i64 m)) w := by
  simp only [execOp, resolve, invoke, h, List.map_toArray, List.map_cons, List.map_nil]
  simp [go_sem, h, Builtin.len_]
 exact je (P := Tryz.prog) hr ⟨_, rfl, hG, Below.refl _ _, by rw [hT]; rfl, fun h => by rw [hal] at h; cases h⟩
theorem Tc {Q : Exit → Act → World → Prop} {l : List Oper} {n : Nat} {T : Nat → World → Value → Prop} {G : World → Prop} {al : List Nat} {a0 : Act} {k d : Nat} {ty : TypeId} {pos : String} {af : Array Edge} {gd : Option (Nat × Bool)} {b off i m c : Nat} {x y : Operand} (hal : al.contains k = false) (hx : Rg.ig l n T a0 k x (Rg.au (.slice (some ⟨b, off, none⟩) m c))) (hy : Rg.ig l n T a0 k y (Rg.au (.int .i64 (i : Int)))) (hi : i < m) (hT : T k = Rg.au (.pointer (some ⟨b, off + i * 2, none⟩))) :
  Rg.Step Tryz.prog Q l n T G eu al a0 k { dst := some d, op := .indexAddr 55 x y, type := ty, pos := pos, after := af, guard := gd } := by
 intro a w hG hO hN
 have h1 : a.eval x = .slice (some ⟨b, off, none⟩) m c := hx a w hO hN
 have h2 : a.eval y = .int .i64 (i : Int) := hy a w hO hN
 have hr : (execOp a.eval { dst := some d, op := .indexAddr 55 x y, type := ty, pos := pos, after := af, guard := gd }).run Tryz.prog w = .ok (.value (.pointer (some ⟨b, off + i * 2, none⟩))) w := by
  simp only [execOp, h1, h2]
  simp [go_sem, hi]
 exact je (P := Tryz.prog) hr ⟨_, rfl, hG, Below.refl _ _, by rw [hT]; rfl, fun h => by rw [hal] at h; cases h⟩
def Oe (W : World) (b o : Nat) (n d : Int) : Prop := W.cell? ⟨b, o, none⟩ = some (.int .i64 n) ∧ W.cell? ⟨b, o + 1, none⟩ = some (.int .i64 d)
theorem Oe.below {W W' : World} {b o : Nat} {n d : Int} {B : Nat} (h : Oe W b o n d) (hb : Below B W W') (hg : b < B) : Oe W' b o n d := by
 have e := hb.block b hg
 exact ⟨(World.cell?_of_block e).trans h.1, (World.cell?_of_block e).trans h.2⟩
theorem aef {Q : Exit → Act → World → Prop} {l : List Oper} {n : Nat} {T : Nat → World → Value → Prop} {G : World → Prop} {al : List Nat} {a0 : Act} {k d : Nat} {ty : TypeId} {pos : String} {af : Array Edge} {gd : Option (Nat × Bool)} {b o : Nat} {x : Operand} {p q : Int} (hb : ∀ W, G W → Oe W b o p q) (hal : al.contains k = false) (hx : Rg.ig l n T a0 k x (Rg.au (.pointer (some ⟨b, o, none⟩)))) (hT : T k = ax [iv p, iv q]) :
  Rg.Step Tryz.prog Q l n T G eu al a0 k { dst := some d, op := .load 23 x, type := ty, pos := pos, after := af, guard := gd } := by
 intro a w hG hO hN
 obtain ⟨h1, h2⟩ := hb w hG
 have hr := uf a.eval w (some d) x b o [.int .i64 p, .int .i64 q] ty pos af gd rfl (fun j hj => by
  have hc : j = 0 ∨ j = 1 := by omega
  rcases hc with rfl | rfl
  ·
   exact h1
  ·
   exact h2) (hx a w hO hN)
 exact je (P := Tryz.prog) hr ⟨_, rfl, hG, Below.refl _ _, by rw [hT]; exact ⟨_, rfl, fo.v (kg _) (fo.v (kg _) rfl)⟩, fun h => by rw [hal] at h; cases h⟩
theorem aoq {Q : Exit → Act → World → Prop} {l : List Oper} {n : Nat} {T : Nat → World → Value → Prop} {G : World → Prop} {al : List Nat} {a0 : Act} {k d : Nat} {ty : TypeId} {pos : String} {af : Array Edge} {gd : Option (Nat × Bool)} {b o : Nat} {x : Operand} {p q : Int} (hb : ∀ W, G W → Oe W b o p q) (hal : al.contains k = false) (hx : Rg.ig l n T a0 k x (Rg.au (.pointer (some ⟨b, o, none⟩)))) (hT : T k = Rg.au (.int .i64 p)) :
  Rg.Step Tryz.prog Q l n T G eu al a0 k { dst := some d, op := .load 3 x, type := ty, pos := pos, after := af, guard := gd } := by
 intro a w hG hO hN
 exact je (P := Tryz.prog) (Di a.eval w (some d) x b o _ ty pos af gd (hb w hG).1 (hx a w hO hN)) ⟨_, rfl, hG, Below.refl _ _, by rw [hT]; rfl, fun h => by rw [hal] at h; cases h⟩
theorem Ql {f : Nat → Int} {n d : Int} {A : Option Addr} {c m : Nat} {l : List (Int × Int)} (t : Wd.Told) (w : World) (hT : qm w) (hm : m = l.length) (hn : m ≤ 9223372036854775807) (hrs : Rs w w.heap.size A l) (ht : t = xz f n d l) (u0 : Value) (h0 : ax [.k (eK f), iv n, iv d] w u0) :
  Calls Tryz.prog 44 #[u0, .slice A m c] w (ib (ToT t) w) := by
 have HT := hide hT
 have HM := hide hm
 have HN := hide hn
 have Um := hide hrs
 have HR := hide ht
 clear hT hm hn hrs ht
 have hu0 := Ah h0
 subst hu0
 go_enter Tryz.func44, Tryz.ntmps44
 go_upto_region 1 with fail
 have hO := (Own.push (T := 23) (ls := zR) (Own.push (T := 44) (ls := [.k (eK f), iv n, iv d]) (Own.nil w) (fo.e (fo.v (kg _) (fo.v (kg _) rfl))) (w.heap.size) rfl) (fo.below (by repeat (first | exact Below.refl _ _ | refine gy ?_ _)) (fo.vs w [.int .i64 0, .int .i64 0] rfl)) (w.heap.size + 1) (by simp only [World.size_alloc]))
 generalize (w.alloc (.cells #[.int .i64 (f 0), .int .i64 (f 1), .int .i64 (f 2), .int .i64 (f 3), .int .i64 (f 4), .int .i64 (f 5), .int .i64 (f 6), .int .i64 n, .int .i64 d] 44)).alloc (.cells #[.int .i64 0, .int .i64 0] 23) = W0 at *
 have HO := hide hO
 clear hO
 by_cases g0 : Gg f n d
 ·
  have k1 : De f n d = 0 := if_pos g0
  have HU := hide g0
  go_upto_region 1 with fail
  refine Rg.dh 3 62 (Rg.pick [ax [.k (eK f), iv n, iv d], Rg.au (.int .i64 0), Rg.au (.int .i64 0)]) (ay w _ W0) eu [] kr rfl (Rg.dw.pick ⟨az _, Rg.ae _, Rg.ae _, trivial⟩) (ay.begin (aa HO))
   (ah (ic wy qg aF [] [.k (eK f), iv n, iv d] [])
   (ah (sc1 Tryz.func30 (aT 0) (fun W v0 hG h0 => k1 ▸ Uf W ((aa HT).below hG.bel) _ h0))
   (ah (jk rfl (aT 1))
   Rg.bf))) ?_
  intro v1 V1 hG1 hv1 hne1
  simp only [Rg.puts, Act.put, tA]
  have e1 : v1 1 = .int .i64 0 := hv1 1 de
  have e2 : v1 2 = .int .i64 0 := hv1 2 de
  simp only [e1, e2]
  have hO := hG1.1
  clear HO
  have HO := hide hO
  clear hO hG1 hv1 hne1
  try clear e1 e2
  clear k1 g0
  go_upto_region 2 with fail
  refine Rg.dh 2 62 (Rg.pick [Rg.au (.int .i64 0), Rg.au (.bool false)]) (ay w _ V1) eu [] kr rfl (Rg.dw.pick ⟨Rg.ae _, Rg.ae _, trivial⟩) (ay.begin (aa HO))
   (ah (di rfl aF)
   (ah (qy rfl (aT 0) (Rg.iy _) rfl rfl)
   Rg.bf)) ?_
  intro v2 V2 hG2 hv2 hne2
  simp only [Rg.puts, Act.put, tA]
  have e1 : v2 1 = .bool false := hv2 1 de
  simp only [e1]
  have hO := hG2.1
  clear HO
  have HO := hide hO
  clear hO hG2 hv2 hne2
  try clear e1
  go_upto_region 4 with fail
  refine Rg.dh 3 62 (Rg.pick [Rg.au (.slice A m c), Rg.au (.int .i64 (m : Int)), Rg.au (.int .i64 0)]) (ay w _ V2) eu [] kr rfl (Rg.dw.pick ⟨Rg.ae _, Rg.ae _, Rg.ae _, trivial⟩) (ay.begin (aa HO))
   (ah (di rfl aF)
   (ah (Ou rfl (aT 0) rfl)
   (ah (di rfl (Rg.iy _))
   Rg.bf))) ?_
  intro v3 V3 hG3 hv3 ma
  simp only [Rg.puts, Act.put, tA]
  have e0 : v3 0 = .slice A m c := hv3 0 de
  have e1 : v3 1 = .int .i64 (m : Int) := hv3 1 de
  have e2 : v3 2 = .int .i64 0 := hv3 2 de
  simp only [e0, e1, e2]
  have hO := hG3.1
  clear HO
  have HO := hide hO
  clear hO hG3 hv3 ma
  try clear e0 e1 e2
  go_wp2_with fail
  go_loopw [21] (fun vk wr => ∃ k : Nat, k ≤ m ∧ vk = .int .i64 ((k : Nat) : Int) ∧ Hid (Own w [(w.heap.size + 1, 23, zR), (w.heap.size, 44, [.k (eK f), iv n, iv d])] wr ∧ ∀ j, j < k → Wd.oo (rn l j) (rd l j))) (fun vk _ => m - (intOf vk).toNat)
  case atStart => exact ⟨0, by omega, rfl, hide ⟨aa HO, fun j hj => by omega⟩⟩
  case round =>
   clear HO
   obtain ⟨k, hk, rfl, Ur⟩ := hrel
   have HK := hide hk
   clear hk
   have HO := hide (aa Ur).1
   have Iw := hide (aa Ur).2
   clear Ur
   by_cases g1 : (k : Int) < (m : Int)
   ·
    have d1 : decide ((k : Int) < (m : Int)) = true := decide_eq_true g1
    have qb := hide (show k < m by omega)
    obtain ⟨b, off, rfl, hbb, hce⟩ := (aa Um) (by have := aa HM; have := aa qb; omega)
    have Sd := hide hbb
    have HRA := hide (show Oe w b (off + k * 2) (rn l k) (rd l k) from hce k (by have := aa HM; have := aa qb; omega))
    clear hbb hce
    go_upto_region 5 with fail
    refine Rg.dh 1 62 (Rg.pick [Rg.au (.bool true)]) (ay w _ wr) eu [] kr rfl (Rg.dw.pick ⟨Rg.ae _, trivial⟩) (ay.begin (aa HO))
     (ah (rz rfl aF aF rfl d1)
     Rg.bf) ?_
    intro v4 V4 hG4 hv4 sw
    simp only [Rg.puts, Act.put, tA]
    have e0 : v4 0 = .bool true := hv4 0 de
    simp only [e0]
    have hO := hG4.1
    clear HO
    have HO := hide hO
    clear hO hG4 hv4 sw
    try clear e0
    clear d1 g1
    go_upto_region 6 with fail
    refine Rg.dh 3 62 (Rg.pick [Rg.au (.pointer (some ⟨b, off + k * 2, none⟩)), ax [iv (rn l k), iv (rd l k)], nk 23 zR V4.heap.size]) (ay w _ V4) eu [2] kr rfl (Rg.dw.pick ⟨Rg.ae _, az _, ny _ _ _, trivial⟩) (ay.begin (aa HO))
     (ah (Tc (i := k) rfl aF aF (aa qb) rfl)
     (ah (aef (fun W h => (aa HRA).below h.1.bel (aa Sd)) rfl (aT 0) rfl)
     (ah (oq Gc rfl ay.step ay.size rfl (qp (by intro j hj; simp at hj; (repeat' (first | (rcases hj with rfl | hj))) <;> first | (subst hj; exact ⟨_, _, _, rfl⟩) | exact ⟨_, _, _, rfl⟩)))
     Rg.bf))) ?_
    intro v5 V5 uk hv5 hne5
    simp only [Rg.puts, Act.put, tA]
    obtain ⟨ahj, e2, Tz, hz2⟩ := (show nk 23 zR V4.heap.size V5 (v5 2) from hv5 2 de)
    simp only [e2]
    have hO := uk.1
    replace hO := Own.add (aa HO) uk.2 Tz hz2
    clear Tz hz2
    refine jq hO 0 [] zR [iv (rn l k), iv (rd l k)] [] rfl qz rfl (show ax [iv (rn l k), iv (rd l k)] V5 (v5 1) from hv5 1 de) rfl rfl rfl ?_
    intro Da gm hk0
    replace hO := gm
    clear gm
    clear HO
    have HO := hide hO
    clear hO uk hv5 hne5 hk0
    try clear e2
    by_cases g2 : Wd.oo (rn l k) (rd l k)
    ·
     have k1 : Oi (rn l k) (rd l k) = 0 := asn g2
     have HAN := hide (show ∀ j, j < k + 1 → Wd.oo (rn l j) (rd l j) from fun j hj => by
      by_cases e : j = k
      ·
       subst e; exact g2
      ·
       exact (aa Iw) j om)
     clear g2
     go_upto_region 7 with fail
     refine Rg.dh 3 62 (Rg.pick [ax [iv (rn l k), iv (rd l k)], Rg.au (.int .i64 0), Rg.au (.int .i64 0)]) (ay w _ Da) eu [] kr rfl (Rg.dw.pick ⟨az _, Rg.ae _, Rg.ae _, trivial⟩) (ay.begin (aa HO))
      (ah (ic uf me0 aF [] [iv (rn l k), iv (rd l k)] [])
      (ah (sc1 Tryz.func66 (aT 0) (fun W v0 hG h0 => k1 ▸ Na ((aa HT).below hG.bel) h0))
      (ah (jk rfl (aT 1))
      Rg.bf))) ?_
     intro v6 V6 Ap hv6 Dx
     simp only [Rg.puts, Act.put, tA]
     have e1 : v6 1 = .int .i64 0 := hv6 1 de
     have e2 : v6 2 = .int .i64 0 := hv6 2 de
     simp only [e1, e2]
     have hO := Ap.1
     clear HO
     have HO := hide hO
     clear hO Ap hv6 Dx
     try clear e1 e2
     clear k1
     go_upto_region 8 with fail
     refine Rg.dh 2 62 (Rg.pick [Rg.au (.int .i64 0), Rg.au (.bool false)]) (ay w _ V6) eu [] kr rfl (Rg.dw.pick ⟨Rg.ae _, Rg.ae _, trivial⟩) (ay.begin (aa HO))
      (ah (di rfl aF)
      (ah (qy rfl (aT 0) (Rg.iy _) rfl rfl)
      Rg.bf)) ?_
     intro v7 V7 yw hv7 Ag
     simp only [Rg.puts, Act.put, tA]
     have e1 : v7 1 = .bool false := hv7 1 de
     simp only [e1]
     have hO := yw.1
     clear HO
     have HO := hide hO
     clear hO yw hv7 Ag
     try clear e1
     go_wp2_with fail
     go_roundw
     case rel =>
      exact ⟨k + 1, by have := aa qb; omega, bhi (aa qb) (aa HN), hide ⟨(aa HO).tl, aa HAN⟩⟩
     case measure =>
      have h1 := aa qb
      have h2 := aa HN
      clear HO
      rw [bbx h1 h2]
      exact measS h1
    ·
     have k1 : Oi (rn l k) (rd l k) = 1 := aza g2
     have hr : t = ⟨0, 0, 1⟩ := by
      rw [aa HR]; unfold xz
      rw [if_neg (fun h => g2 (h.2 k (by have := aa HM; have := aa qb; omega)))]
     subst hr
     clear HR g2
     go_upto_region 7 with fail
     refine Rg.dh 3 62 (Rg.pick [ax [iv (rn l k), iv (rd l k)], Rg.au (.int .i64 1), Rg.au (.int .i64 1)]) (ay w _ Da) eu [] kr rfl (Rg.dw.pick ⟨az _, Rg.ae _, Rg.ae _, trivial⟩) (ay.begin (aa HO))
      (ah (ic uf me0 aF [] [iv (rn l k), iv (rd l k)] [])
      (ah (sc1 Tryz.func66 (aT 0) (fun W v0 hG h0 => k1 ▸ Na ((aa HT).below hG.bel) h0))
      (ah (jk rfl (aT 1))
      Rg.bf))) ?_
     intro v6 V6 Ap hv6 Dx
     simp only [Rg.puts, Act.put, tA]
     have e1 : v6 1 = .int .i64 1 := hv6 1 de
     have e2 : v6 2 = .int .i64 1 := hv6 2 de
     simp only [e1, e2]
     have hO := Ap.1
     clear HO
     have HO := hide hO
     clear hO Ap hv6 Dx
     try clear e1 e2
     clear k1
     go_upto_region 8 with fail
     refine Rg.dh 2 62 (Rg.pick [Rg.au (.int .i64 1), Rg.au (.bool true)]) (ay w _ V6) eu [] kr rfl (Rg.dw.pick ⟨Rg.ae _, Rg.ae _, trivial⟩) (ay.begin (aa HO))
      (ah (di rfl aF)
      (ah (qy rfl (aT 0) (Rg.iy _) rfl rfl)
      Rg.bf)) ?_
     intro v7 V7 yw hv7 Ag
     simp only [Rg.puts, Act.put, tA]
     have e1 : v7 1 = .bool true := hv7 1 de
     simp only [e1]
     have hO := yw.1
     clear HO
     have HO := hide hO
     clear hO yw hv7 Ag
     try clear e1
     go_upto_region 9 with fail
     refine Rg.dh 2 62 (Rg.pick [ax zR, Rg.au (.int .i64 1)]) (ay w _ V7) eu [] kr rfl (Rg.dw.pick ⟨az _, Rg.ae _, trivial⟩) (ay.begin (aa HO))
      (ah (Cy Dz rfl rfl rfl)
      (ah (di rfl aF)
      Rg.bf)) ?_
     intro v8 V8 zn wz Az
     simp only [Rg.puts, Act.put, tA]
     have e1 : v8 1 = .int .i64 1 := wz 1 de
     simp only [e1]
     have hO := zn.1
     refine jq hO 1 [] zR zR [] rfl qz rfl (show ax zR V8 (v8 0) from wz 0 de) rfl rfl rfl ?_
     intro bgf gm hk0
     replace hO := gm
     clear gm
     clear HO
     have HO := hide hO
     clear hO zn wz Az hk0
     try clear e1
     go_wp2_with fail
     exact uo Tryz.results44 Cj rfl rfl (aa HO) qg rfl rfl
   ·
    have d1 : decide ((k : Int) < (m : Int)) = false := decide_eq_false g1
    obtain rfl : k = m := by have := aa HK; omega
    have xx := hide (show Uj l from fun j hj => (aa Iw) j (by have := aa HM; omega))
    clear Iw
    go_upto_region 5 with fail
    refine Rg.dh 1 62 (Rg.pick [Rg.au (.bool false)]) (ay w _ wr) eu [] kr rfl (Rg.dw.pick ⟨Rg.ae _, trivial⟩) (ay.begin (aa HO))
     (ah (rz rfl aF aF rfl d1)
     Rg.bf) ?_
    intro v4 V4 hG4 hv4 sw
    simp only [Rg.puts, Act.put, tA]
    have e0 : v4 0 = .bool false := hv4 0 de
    simp only [e0]
    have hO := hG4.1
    clear HO
    have HO := hide hO
    clear hO hG4 hv4 sw
    try clear e0
    clear d1 g1
    by_cases g2 : k = 7
    ·
     subst g2
     have Ps := hide (show l.length = 7 from (aa HM).symm)
     go_upto_region 11 with fail
     refine Rg.dh 3 62 (Rg.pick [Rg.au (.slice A 7 c), Rg.au (.int .i64 ((7 : Nat) : Int)), Rg.au (.bool false)]) (ay w _ V4) eu [] kr rfl (Rg.dw.pick ⟨Rg.ae _, Rg.ae _, Rg.ae _, trivial⟩) (ay.begin (aa HO))
      (ah (di rfl aF)
      (ah (Ou rfl (aT 0) rfl)
      (ah (acw rfl (aT 1) (Rg.iy _) rfl rfl)
      Rg.bf))) ?_
     intro v5 V5 uk hv5 hne5
     simp only [Rg.puts, Act.put, tA]
     have e2 : v5 2 = .bool false := hv5 2 de
     simp only [e2]
     have hO := uk.1
     clear HO
     have HO := hide hO
     clear hO uk hv5 hne5
     try clear e2
     go_upto_region 13 with fail
     refine Rg.dh 2 62 (Rg.pick [ax [.q (ko f l 0)], nk 79 zQ V5.heap.size]) (ay w _ V5) eu [1] kr rfl (Rg.dw.pick ⟨az _, ny _ _ _, trivial⟩) (ay.begin (aa HO))
      (ah (sc1 Tryz.func92 (Rg.iy _) (fun W v0 hG h0 => by cases h0; exact bbc 1 om om W))
      (ah (oq bhx rfl ay.step ay.size rfl (qp (by intro j hj; simp at hj; (repeat' (first | (rcases hj with rfl | hj))) <;> first | (subst hj; exact ⟨_, _, _, rfl⟩) | exact ⟨_, _, _, rfl⟩)))
      Rg.bf)) ?_
     intro v6 V6 Ap hv6 Dx
     simp only [Rg.puts, Act.put, tA]
     obtain ⟨bnn, e1, Mr, hz1⟩ := (show nk 79 zQ V5.heap.size V6 (v6 1) from hv6 1 de)
     simp only [e1]
     have hO := Ap.1
     replace hO := Own.add (aa HO) Ap.2 Mr hz1
     clear Mr hz1
     refine jq hO 0 [] zQ [.q (ko f l 0)] [] rfl Es rfl (show ax [.q (ko f l 0)] V6 (v6 0) from hv6 0 de) rfl rfl rfl ?_
     intro Kv gm hk0
     replace hO := gm
     clear gm
     clear HO
     have HO := hide hO
     clear hO Ap hv6 Dx hk0
     try clear e1
     go_upto_region 14 with fail
     refine Rg.dh 3 62 (Rg.pick [Rg.au (.slice A 7 c), Rg.au (.int .i64 ((7 : Nat) : Int)), Rg.au (.int .i64 0)]) (ay w _ Kv) eu [] kr rfl (Rg.dw.pick ⟨Rg.ae _, Rg.ae _, Rg.ae _, trivial⟩) (ay.begin (aa HO))
      (ah (di rfl aF)
      (ah (Ou rfl (aT 0) rfl)
      (ah (di rfl (Rg.iy _))
      Rg.bf))) ?_
     intro v7 V7 yw hv7 Ag
     simp only [Rg.puts, Act.put, tA]
     have e0 : v7 0 = .slice A 7 c := hv7 0 de
     have e1 : v7 1 = .int .i64 ((7 : Nat) : Int) := hv7 1 de
     have e2 : v7 2 = .int .i64 0 := hv7 2 de
     simp only [e0, e1, e2]
     have hO := yw.1
     clear HO
     have HO := hide hO
     clear hO yw hv7 Ag
     try clear e0 e1 e2
     go_wp2_with fail
     go_loopw [39] (fun vk wr => ∃ k : Nat, k ≤ 7 ∧ vk = .int .i64 ((k : Nat) : Int) ∧ Hid (Own w [(bnn, 79, [.q (ko f l k)]), (w.heap.size + 1, 23, zR), (w.heap.size, 44, [.k (eK f), iv n, iv d])] wr ∧ ∀ j, j < k → 1 ≤ rn l j)) (fun vk _ => 7 - (intOf vk).toNat)
     case atStart => exact ⟨0, by omega, rfl, hide ⟨aa HO, fun j hj => by omega⟩⟩
     case round =>
      clear HO
      obtain ⟨k, hk, rfl, Ur⟩ := hrel
      have HK := hide hk
      clear hk
      have HO := hide (aa Ur).1
      have Iw := hide (aa Ur).2
      clear Ur
      by_cases g1 : k < 7
      ·
       have d1 : decide ((k : Int) < ((7 : Nat) : Int)) = true := decide_eq_true om
       have qb := hide g1
       clear g1
       obtain ⟨b, off, rfl, hbb, hce⟩ := (aa Um) (by have := aa Ps; omega)
       have Sd := hide hbb
       have HRA := hide (show Oe w b (off + k * 2) (rn l k) (rd l k) from hce k (by have := aa Ps; have := aa qb; omega))
       have HQ := hide (show Wd.oo (rn l k) (rd l k) from (aa xx) k (by have := aa Ps; have := aa qb; omega))
       clear hbb hce
       go_upto_region 15 with fail
       refine Rg.dh 1 62 (Rg.pick [Rg.au (.bool true)]) (ay w _ wr) eu [] kr rfl (Rg.dw.pick ⟨Rg.ae _, trivial⟩) (ay.begin (aa HO))
        (ah (rz rfl aF aF rfl d1)
        Rg.bf) ?_
       intro v8 V8 zn wz Az
       simp only [Rg.puts, Act.put, tA]
       have e0 : v8 0 = .bool true := wz 0 de
       simp only [e0]
       have hO := zn.1
       clear HO
       have HO := hide hO
       clear hO zn wz Az
       try clear e0
       clear d1
       go_upto_region 16 with fail
       refine Rg.dh 5 62 (Rg.pick [Rg.au (.int .i64 (k : Int)), Rg.au (.pointer (some ⟨b, off + k * 2, none⟩)), ax [iv (rn l k), iv (rd l k)], nk 23 zR V8.heap.size, Rg.au (.int .i64 (k : Int))]) (ay w _ V8) eu [3] kr rfl (Rg.dw.pick ⟨Rg.ae _, Rg.ae _, az _, ny _ _ _, Rg.ae _, trivial⟩) (ay.begin (aa HO))
        (ah (di rfl aF)
        (ah (Tc (i := k) rfl aF aF (aa qb) rfl)
        (ah (aef (fun W h => (aa HRA).below h.1.bel (aa Sd)) rfl (aT 1) rfl)
        (ah (oq Gc rfl ay.step ay.size rfl (qp (by intro j hj; simp at hj; (repeat' (first | (rcases hj with rfl | hj))) <;> first | (subst hj; exact ⟨_, _, _, rfl⟩) | exact ⟨_, _, _, rfl⟩)))
        (ah (jk rfl (aT 0))
        Rg.bf))))) ?_
       intro v9 V9 Mt Il Re
       simp only [Rg.puts, Act.put, tA]
       have e0 : v9 0 = .int .i64 (k : Int) := Il 0 de
       obtain ⟨ana, e3, agb, hz3⟩ := (show nk 23 zR V8.heap.size V9 (v9 3) from Il 3 de)
       have e4 : v9 4 = .int .i64 (k : Int) := Il 4 de
       simp only [e0, e3, e4]
       have hO := Mt.1
       replace hO := Own.add (aa HO) Mt.2 agb hz3
       clear agb hz3
       refine jq hO 0 [] zR [iv (rn l k), iv (rd l k)] [] rfl qz rfl (show ax [iv (rn l k), iv (rd l k)] V9 (v9 2) from Il 2 de) rfl rfl rfl ?_
       intro aav gm hk0
       replace hO := gm
       clear gm
       clear HO
       have HO := hide hO
       clear hO Mt Il Re hk0
       try clear e0 e3 e4
       by_cases g2 : rn l k < 1
       ·
        have d2 : decide (rn l k < 1) = true := decide_eq_true g2
        have hr : t = ⟨0, 0, 1⟩ := by
         rw [aa HR]; unfold xz
         rw [if_pos ⟨aa HU, aa xx⟩, if_pos (aa Ps), if_neg (fun h => by have := h k (aa qb); omega)]
        subst hr
        clear HR g2
        go_upto_region 17 with fail
        refine Rg.dh 3 62 (Rg.pick [Rg.au (.pointer (some ⟨ana, 0, none⟩)), Rg.au (.int .i64 (rn l k)), Rg.au (.bool true)]) (ay w _ aav) eu [] kr rfl (Rg.dw.pick ⟨Rg.ae _, Rg.ae _, Rg.ae _, trivial⟩) (ay.begin (aa HO))
         (ah (Co (b := ana) (off := 0) rfl aF rfl rfl)
         (ah (Lg Di me0 (aT 0) [] [iv (rd l k)] rfl)
         (ah (rz rfl (aT 1) (Rg.iy _) rfl d2)
         Rg.bf))) ?_
        intro v10 V10 agl afs amj
        simp only [Rg.puts, Act.put, tA]
        have e2 : v10 2 = .bool true := afs 2 de
        simp only [e2]
        have hO := agl.1
        clear HO
        have HO := hide hO
        clear hO agl afs amj
        try clear e2
        clear d2
        go_upto_region 18 with fail
        refine Rg.dh 1 62 (Rg.pick [ax zR]) (ay w _ V10) eu [] kr rfl (Rg.dw.pick ⟨az _, trivial⟩) (ay.begin (aa HO))
         (ah (Cy Dz rfl rfl rfl)
         Rg.bf) ?_
        intro v11 V11 agk afr ami
        simp only [Rg.puts, Act.put, tA]
        have hO := agk.1
        refine jq hO 2 [] zR zR [] rfl qz rfl (show ax zR V11 (v11 0) from afr 0 de) rfl rfl rfl ?_
        intro biv gm hk0
        replace hO := gm
        clear gm
        clear HO
        have HO := hide hO
        clear hO agk afr ami hk0
        go_wp2_with fail
        exact uo Tryz.results44 Cj rfl rfl (aa HO) Bv rfl rfl
       ·
        have d2 : decide (rn l k < 1) = false := decide_eq_false g2
        have Uq := hide (show 1 ≤ rn l k by omega)
        have HAN := hide (show ∀ j, j < k + 1 → 1 ≤ rn l j from fun j hj => by
         by_cases e : j = k
         ·
          subst e; omega
         ·
          exact (aa Iw) j om)
        have Du := hide (aea (l := l) (aa HU).1 (aa HT) k (by have := aa qb; omega) (fun j hj => ⟨(aa xx) j (by have := aa Ps; have := aa qb; omega), (aa Iw) j hj⟩))
        clear g2
        go_upto_region 17 with fail
        refine Rg.dh 3 62 (Rg.pick [Rg.au (.pointer (some ⟨ana, 0, none⟩)), Rg.au (.int .i64 (rn l k)), Rg.au (.bool false)]) (ay w _ aav) eu [] kr rfl (Rg.dw.pick ⟨Rg.ae _, Rg.ae _, Rg.ae _, trivial⟩) (ay.begin (aa HO))
         (ah (Co (b := ana) (off := 0) rfl aF rfl rfl)
         (ah (Lg Di me0 (aT 0) [] [iv (rd l k)] rfl)
         (ah (rz rfl (aT 1) (Rg.iy _) rfl d2)
         Rg.bf))) ?_
        intro v10 V10 agl afs amj
        simp only [Rg.puts, Act.put, tA]
        have e2 : v10 2 = .bool false := afs 2 de
        simp only [e2]
        have hO := agl.1
        clear HO
        have HO := hide hO
        clear hO agl afs amj
        try clear e2
        clear d2
        go_upto_region 19 with fail
        refine Rg.region 9 62 (Rg.pick [ax [.q (ko f l k)], ax [iv (rn l k), iv (rd l k)], ax [.q (Wd.qR (rn l k) (rd l k))], Rg.au (.int .i64 (k : Int)), Rg.au (.pointer (some ⟨w.heap.size, 0, none⟩)), Rg.au (.pointer (some ⟨w.heap.size, k, none⟩)), Rg.au (.int .i64 (f k)), ax [.q (xk (Wd.qR (rn l k) (rd l k)) (f k))], ax [.q (ko f l (k + 1))]]) (ay w _ V10) eu [] kr kr rfl (Rg.dw.pick ⟨az _, az _, az _, Rg.ae _, Rg.ae _, Rg.ae _, Rg.ae _, az _, az _, trivial⟩) (ay.start (aa HO))
         (ah (ic Eg qg aF [] [.q (ko f l k)] [])
         (ah (ic uf me0 aF [] [iv (rn l k), iv (rd l k)] [])
         (ah (sc1 Tryz.func67 (aT 1) (fun W v0 hG h0 => avs (aa HQ) h0))
         (ah (di rfl aF)
         (ah (zw (b := w.heap.size) (off := 0) rfl aF rfl rfl)
         (ah (Fe (b := w.heap.size) (k := k) rfl (aT 4) (aT 3) (aa qb) rfl)
         (ah (Lf (f := f) Nt rfl (aT 5) (aa qb) rfl rfl)
         (ah (sc2 Tryz.func68 (aT 2) (aT 6) (fun W v0 v1 hG h0 h1 => by cases h1; exact ahf (K := 1) (b := 9) (Dg (aa HQ)) (alq (aa HQ) (aa Uq)) ((aa HU).1 k (aa qb)) om om W _ h0))
         (ah (sc2 Tryz.func108 (aT 0) (aT 7) (fun W v0 v1 hG h0 h1 => Rm ((aa HT).below hG.bel) (aa Du) (awp (aa HU).1 (aa qb) (aa HQ) (aa Uq)) h0 h1))
         Rg.bf))))))))) ?_
        intro v11 V11 agk afr ami
        simp only [Rg.puts, Act.put, tA]
        have hO := agk.1
        refine jq hO 1 [] [.q (ko f l k)] [.q (ko f l (k + 1))] [] rfl Es rfl (show ax [.q (ko f l (k + 1))] V11 (v11 8) from afr 8 de) rfl rfl rfl ?_
        intro biv gm hk0
        replace hO := gm
        clear gm
        clear HO
        have HO := hide hO
        clear hO agk afr ami hk0
        go_wp2_with fail
        go_roundw
        case rel =>
         exact ⟨k + 1, by have := aa qb; omega, Ld (aa qb) om, hide ⟨(aa HO).tl, aa HAN⟩⟩
        case measure =>
         have h1 := aa qb
         clear HO
         rw [Jp h1 om]
         exact measS h1
      ·
       have d1 : decide ((k : Int) < ((7 : Nat) : Int)) = false := decide_eq_false om
       obtain rfl : k = 7 := by have := aa HK; omega
       have hr : t = Wd.told (ko f l 7) := by
        rw [aa HR]; unfold xz
        rw [if_pos ⟨aa HU, aa xx⟩, if_pos (aa Ps), if_pos (aa Iw)]
       subst hr
       clear HR g1
       go_upto_region 15 with fail
       refine Rg.dh 1 62 (Rg.pick [Rg.au (.bool false)]) (ay w _ wr) eu [] kr rfl (Rg.dw.pick ⟨Rg.ae _, trivial⟩) (ay.begin (aa HO))
        (ah (rz rfl aF aF rfl d1)
        Rg.bf) ?_
       intro v8 V8 zn wz Az
       simp only [Rg.puts, Act.put, tA]
       have e0 : v8 0 = .bool false := wz 0 de
       simp only [e0]
       have hO := zn.1
       clear HO
       have HO := hide hO
       clear hO zn wz Az
       try clear e0
       clear d1
       go_upto_region 21 with fail
       refine Rg.dh 4 62 (Rg.pick [ax [.q (ko f l 7)], kz [ax [iv (Wd.told (ko f l 7)).n, iv (Wd.told (ko f l 7)).d], Rg.au (.int .i64 (Wd.told (ko f l 7)).e)], ax [iv (Wd.told (ko f l 7)).n, iv (Wd.told (ko f l 7)).d], Rg.au (.int .i64 (Wd.told (ko f l 7)).e)]) (ay w _ V8) eu [] kr rfl (Rg.dw.pick ⟨az _, jf ⟨(az _), (Rg.ae _), trivial⟩, az _, Rg.ae _, trivial⟩) (ay.begin (aa HO))
        (ah (ic Eg me0 aF [] [.q (ko f l 7)] [])
        (ah (sc1 Tryz.func69 (aT 0) (fun W v0 hG h0 => ahe h0))
        (ah (ky (ts := [ax [iv (Wd.told (ko f l 7)).n, iv (Wd.told (ko f l 7)).d], Rg.au (.int .i64 (Wd.told (ko f l 7)).e)]) rfl (aT 1) (of_decide_eq_true rfl) rfl)
        (ah (ky (ts := [ax [iv (Wd.told (ko f l 7)).n, iv (Wd.told (ko f l 7)).d], Rg.au (.int .i64 (Wd.told (ko f l 7)).e)]) rfl (aT 1) (of_decide_eq_true rfl) rfl)
        Rg.bf)))) ?_
       intro v9 V9 Mt Il Re
       simp only [Rg.puts, Act.put, tA]
       have e3 : v9 3 = .int .i64 (Wd.told (ko f l 7)).e := Il 3 de
       simp only [e3]
       have hO := Mt.1
       refine jq hO 1 [] zR [iv (Wd.told (ko f l 7)).n, iv (Wd.told (ko f l 7)).d] [] rfl qz rfl (show ax [iv (Wd.told (ko f l 7)).n, iv (Wd.told (ko f l 7)).d] V9 (v9 2) from Il 2 de) rfl rfl rfl ?_
       intro aav gm hk0
       replace hO := gm
       clear gm
       clear HO
       have HO := hide hO
       clear hO Mt Il Re hk0
       try clear e3
       go_wp2_with fail
       exact uo Tryz.results44 Cj rfl rfl (aa HO) qg rfl rfl
    ·
     have k1 : ((k : Int) != 7) = true := by simp [bne, beq_eq_false_iff_ne]; omega
     have hr : t = ⟨0, 0, 8⟩ := by
      rw [aa HR]; unfold xz
      rw [if_pos ⟨aa HU, aa xx⟩, if_neg (by have := aa HM; omega)]
     subst hr
     clear HR g2
     go_upto_region 11 with fail
     refine Rg.dh 3 62 (Rg.pick [Rg.au (.slice A k c), Rg.au (.int .i64 (k : Int)), Rg.au (.bool true)]) (ay w _ V4) eu [] kr rfl (Rg.dw.pick ⟨Rg.ae _, Rg.ae _, Rg.ae _, trivial⟩) (ay.begin (aa HO))
      (ah (di rfl aF)
      (ah (Ou rfl (aT 0) rfl)
      (ah (acw rfl (aT 1) (Rg.iy _) rfl k1)
      Rg.bf))) ?_
     intro v5 V5 uk hv5 hne5
     simp only [Rg.puts, Act.put, tA]
     have e2 : v5 2 = .bool true := hv5 2 de
     simp only [e2]
     have hO := uk.1
     clear HO
     have HO := hide hO
     clear hO uk hv5 hne5
     try clear e2
     clear k1
     go_upto_region 12 with fail
     refine Rg.dh 1 62 (Rg.pick [ax zR]) (ay w _ V5) eu [] kr rfl (Rg.dw.pick ⟨az _, trivial⟩) (ay.begin (aa HO))
      (ah (Cy Dz rfl rfl rfl)
      Rg.bf) ?_
     intro v6 V6 Ap hv6 Dx
     simp only [Rg.puts, Act.put, tA]
     have hO := Ap.1
     refine jq hO 0 [] zR zR [] rfl qz rfl (show ax zR V6 (v6 0) from hv6 0 de) rfl rfl rfl ?_
     intro Kv gm hk0
     replace hO := gm
     clear gm
     clear HO
     have HO := hide hO
     clear hO Ap hv6 Dx hk0
     go_wp2_with fail
     exact uo Tryz.results44 Cj rfl rfl (aa HO) me0 rfl rfl
 ·
  have k1 : De f n d = 1 := if_neg g0
  have hr : t = ⟨0, 0, 1⟩ := by rw [aa HR]; unfold xz; rw [if_neg (fun h => g0 h.1)]
  subst hr
  clear HR
  go_upto_region 1 with fail
  refine Rg.dh 3 62 (Rg.pick [ax [.k (eK f), iv n, iv d], Rg.au (.int .i64 1), Rg.au (.int .i64 1)]) (ay w _ W0) eu [] kr rfl (Rg.dw.pick ⟨az _, Rg.ae _, Rg.ae _, trivial⟩) (ay.begin (aa HO))
   (ah (ic wy qg aF [] [.k (eK f), iv n, iv d] [])
   (ah (sc1 Tryz.func30 (aT 0) (fun W v0 hG h0 => k1 ▸ Uf W ((aa HT).below hG.bel) _ h0))
   (ah (jk rfl (aT 1))
   Rg.bf))) ?_
  intro v1 V1 hG1 hv1 hne1
  simp only [Rg.puts, Act.put, tA]
  have e1 : v1 1 = .int .i64 1 := hv1 1 de
  have e2 : v1 2 = .int .i64 1 := hv1 2 de
  simp only [e1, e2]
  have hO := hG1.1
  clear HO
  have HO := hide hO
  clear hO hG1 hv1 hne1
  try clear e1 e2
  go_upto_region 2 with fail
  refine Rg.dh 2 62 (Rg.pick [Rg.au (.int .i64 1), Rg.au (.bool true)]) (ay w _ V1) eu [] kr rfl (Rg.dw.pick ⟨Rg.ae _, Rg.ae _, trivial⟩) (ay.begin (aa HO))
   (ah (di rfl aF)
   (ah (qy rfl (aT 0) (Rg.iy _) rfl rfl)
   Rg.bf)) ?_
  intro v2 V2 hG2 hv2 hne2
  simp only [Rg.puts, Act.put, tA]
  have e1 : v2 1 = .bool true := hv2 1 de
  simp only [e1]
  have hO := hG2.1
  clear HO
  have HO := hide hO
  clear hO hG2 hv2 hne2
  try clear e1
  go_upto_region 3 with fail
  refine Rg.dh 2 62 (Rg.pick [ax zR, Rg.au (.int .i64 1)]) (ay w _ V2) eu [] kr rfl (Rg.dw.pick ⟨az _, Rg.ae _, trivial⟩) (ay.begin (aa HO))
   (ah (Cy Dz rfl rfl rfl)
   (ah (di rfl aF)
   Rg.bf)) ?_
  intro v3 V3 hG3 hv3 ma
  simp only [Rg.puts, Act.put, tA]
  have e1 : v3 1 = .int .i64 1 := hv3 1 de
  simp only [e1]
  have hO := hG3.1
  refine jq hO 0 [] zR zR [] rfl qz rfl (show ax zR V3 (v3 0) from hv3 0 de) rfl rfl rfl ?_
  intro Gl gm hk0
  replace hO := gm
  clear gm
  clear HO
  have HO := hide hO
  clear hO hG3 hv3 ma hk0
  try clear e1
  go_wp2_with fail
  exact uo Tryz.results44 Cj rfl rfl (aa HO) me0 rfl rfl
end Sb


namespace Sb
theorem ayh {A : Option Addr} {c m : Nat} {l : List (Int × Int)} {W : World} (hm : m = l.length) (h : Rs W W.heap.size A l) (hc : m ≤ c) (hcm : c ≤ 9223372036854775807) : Calls Tryz.prog 111 #[.slice A m c] W (ib (Rg.au (.bool (decide (Uj l)))) W) := by
 subst hm
 refine (aod A c l W h hc hcm).mono ?_
 rintro e w' ⟨rfl, hb⟩
 exact ⟨_, rfl, hb, rfl⟩
theorem aie {f : Nat → Int} {n d : Int} {A : Option Addr} {c m : Nat} {l : List (Int × Int)} (t : Wd.Told) (w : World) (hm : m = l.length) (hc : m ≤ c ∧ c ≤ 9223372036854775807) (hrs : Rs w w.heap.size A l) (ht : t = xz f n d l) (u0 : Value) (h0 : ax [.k (eK f), iv n, iv d] w u0) :
  Calls Tryz.prog 45 #[u0, .slice A m c] w (ib (ToT t) w) := by
 have HM := hide hm
 have HN := hide hc
 have Um := hide hrs
 have HR := hide ht
 clear hm hc hrs ht
 have hu0 := Ah h0
 subst hu0
 go_enter Tryz.func45, Tryz.ntmps45
 go_upto_region 1 with fail
 have hO := (Own.push (T := 23) (ls := zR) (Own.push (T := 44) (ls := [.k (eK f), iv n, iv d]) (Own.nil w) (fo.e (fo.v (kg _) (fo.v (kg _) rfl))) (w.heap.size) rfl) (fo.below (by repeat (first | exact Below.refl _ _ | refine gy ?_ _)) (fo.vs w [.int .i64 0, .int .i64 0] rfl)) (w.heap.size + 1) (by simp only [World.size_alloc]))
 generalize (w.alloc (.cells #[.int .i64 (f 0), .int .i64 (f 1), .int .i64 (f 2), .int .i64 (f 3), .int .i64 (f 4), .int .i64 (f 5), .int .i64 (f 6), .int .i64 n, .int .i64 d] 44)).alloc (.cells #[.int .i64 0, .int .i64 0] 23) = W0 at *
 have HO := hide hO
 clear hO
 by_cases g0 : Gg f n d
 ·
  have k1 : De f n d = 0 := if_pos g0
  have HU := hide g0
  go_upto_region 1 with fail
  refine Rg.dh 3 51 (Rg.pick [ax [.k (eK f), iv n, iv d], Rg.au (.int .i64 0), Rg.au (.int .i64 0)]) (ay w _ W0) eu [] kr rfl (Rg.dw.pick ⟨az _, Rg.ae _, Rg.ae _, trivial⟩) (ay.begin (aa HO))
   (ah (ic wy qg aF [] [.k (eK f), iv n, iv d] [])
   (ah (sc1 Tryz.func31 (aT 0) (fun W v0 hG h0 => k1 ▸ ajx W _ h0))
   (ah (jk rfl (aT 1))
   Rg.bf))) ?_
  intro v1 V1 hG1 hv1 hne1
  simp only [Rg.puts, Act.put, tA]
  have e1 : v1 1 = .int .i64 0 := hv1 1 de
  have e2 : v1 2 = .int .i64 0 := hv1 2 de
  simp only [e1, e2]
  have hO := hG1.1
  clear HO
  have HO := hide hO
  clear hO hG1 hv1 hne1
  try clear e1 e2
  clear k1 g0
  go_upto_region 2 with fail
  refine Rg.dh 2 51 (Rg.pick [Rg.au (.int .i64 0), Rg.au (.bool false)]) (ay w _ V1) eu [] kr rfl (Rg.dw.pick ⟨Rg.ae _, Rg.ae _, trivial⟩) (ay.begin (aa HO))
   (ah (di rfl aF)
   (ah (qy rfl (aT 0) (Rg.iy _) rfl rfl)
   Rg.bf)) ?_
  intro v2 V2 hG2 hv2 hne2
  simp only [Rg.puts, Act.put, tA]
  have e1 : v2 1 = .bool false := hv2 1 de
  simp only [e1]
  have hO := hG2.1
  clear HO
  have HO := hide hO
  clear hO hG2 hv2 hne2
  try clear e1
  by_cases g1 : Uj l
  ·
   have k1 : decide (Uj l) = true := decide_eq_true g1
   have xx := hide g1
   clear g1
   go_upto_region 4 with fail
   refine Rg.dh 3 51 (Rg.pick [Rg.au (.slice A m c), Rg.au (.bool true), Rg.au (.bool false)]) (ay w _ V2) eu [] kr rfl (Rg.dw.pick ⟨Rg.ae _, Rg.ae _, Rg.ae _, trivial⟩) (ay.begin (aa HO))
    (ah (di rfl aF)
    (ah (sc1 Tryz.func111 (aT 0) (fun W v0 hG h0 => by cases h0; exact k1 ▸ ayh (aa HM) ((aa Um).below hG.bel |>.up hG.bel.size) (aa HN).1 (aa HN).2))
    (ah (zb rfl (aT 1) rfl rfl)
    Rg.bf))) ?_
   intro v3 V3 hG3 hv3 ma
   simp only [Rg.puts, Act.put, tA]
   have e2 : v3 2 = .bool false := hv3 2 de
   simp only [e2]
   have hO := hG3.1
   clear HO
   have HO := hide hO
   clear hO hG3 hv3 ma
   try clear e2
   clear k1
   by_cases g2 : m = 7
   ·
    subst g2
    have Ps := hide (show l.length = 7 from (aa HM).symm)
    go_upto_region 6 with fail
    refine Rg.dh 3 51 (Rg.pick [Rg.au (.slice A 7 c), Rg.au (.int .i64 ((7 : Nat) : Int)), Rg.au (.bool false)]) (ay w _ V3) eu [] kr rfl (Rg.dw.pick ⟨Rg.ae _, Rg.ae _, Rg.ae _, trivial⟩) (ay.begin (aa HO))
     (ah (di rfl aF)
     (ah (Ou rfl (aT 0) rfl)
     (ah (acw rfl (aT 1) (Rg.iy _) rfl rfl)
     Rg.bf))) ?_
    intro v4 V4 hG4 hv4 sw
    simp only [Rg.puts, Act.put, tA]
    have e2 : v4 2 = .bool false := hv4 2 de
    simp only [e2]
    have hO := hG4.1
    clear HO
    have HO := hide hO
    clear hO hG4 hv4 sw
    try clear e2
    go_upto_region 8 with fail
    refine Rg.dh 2 51 (Rg.pick [ax [.r (ko f l 0)], nk 68 zX V4.heap.size]) (ay w _ V4) eu [1] kr rfl (Rg.dw.pick ⟨az _, ny _ _ _, trivial⟩) (ay.begin (aa HO))
     (ah (sc1 Tryz.func95 (Rg.iy _) (fun W v0 hG h0 => by cases h0; exact awv 1 om om W))
     (ah (oq axd rfl ay.step ay.size rfl (qp (by intro j hj; simp at hj; (repeat' (first | (rcases hj with rfl | hj))) <;> first | (subst hj; exact ⟨_, _, _, rfl⟩) | exact ⟨_, _, _, rfl⟩)))
     Rg.bf)) ?_
    intro v5 V5 uk hv5 hne5
    simp only [Rg.puts, Act.put, tA]
    obtain ⟨bnp, e1, Mr, hz1⟩ := (show nk 68 zX V4.heap.size V5 (v5 1) from hv5 1 de)
    simp only [e1]
    have hO := uk.1
    replace hO := Own.add (aa HO) uk.2 Mr hz1
    clear Mr hz1
    refine jq hO 0 [] zX [.r (ko f l 0)] [] rfl Er rfl (show ax [.r (ko f l 0)] V5 (v5 0) from hv5 0 de) rfl rfl rfl ?_
    intro Da gm hk0
    replace hO := gm
    clear gm
    clear HO
    have HO := hide hO
    clear hO uk hv5 hne5 hk0
    try clear e1
    go_upto_region 9 with fail
    refine Rg.dh 1 51 (Rg.pick [Rg.au (.int .i64 0)]) (ay w _ Da) eu [] kr rfl (Rg.dw.pick ⟨Rg.ae _, trivial⟩) (ay.begin (aa HO))
     (ah (jk rfl (Rg.iy _))
     Rg.bf) ?_
    intro v6 V6 Ap hv6 Dx
    simp only [Rg.puts, Act.put, tA]
    have e0 : v6 0 = .int .i64 0 := hv6 0 de
    simp only [e0]
    have hO := Ap.1
    clear HO
    have HO := hide hO
    clear hO Ap hv6 Dx
    try clear e0
    go_wp2_with fail
    go_loopw [8] (fun vk wr => ∃ k : Nat, k ≤ 7 ∧ vk = .int .i64 ((k : Nat) : Int) ∧ Hid (Own w [(bnp, 68, [.r (ko f l k)]), (w.heap.size + 1, 23, zR), (w.heap.size, 44, [.k (eK f), iv n, iv d])] wr ∧ ∀ j, j < k → 1 ≤ rn l j)) (fun vk _ => 7 - (intOf vk).toNat)
    case atStart => exact ⟨0, by omega, rfl, hide ⟨aa HO, fun j hj => by omega⟩⟩
    case round =>
     clear HO
     obtain ⟨k, hk, rfl, Ur⟩ := hrel
     have HK := hide hk
     clear hk
     have HO := hide (aa Ur).1
     have Iw := hide (aa Ur).2
     clear Ur
     by_cases g1 : k < 7
     ·
      have d1 : decide ((k : Int) < 7) = true := decide_eq_true om
      have qb := hide g1
      clear g1
      obtain ⟨b, off, rfl, hbb, hce⟩ := (aa Um) (by have := aa Ps; omega)
      have Sd := hide hbb
      have HRA := hide (show Oe w b (off + k * 2) (rn l k) (rd l k) from hce k (by have := aa Ps; have := aa qb; omega))
      have HQ := hide (show Wd.oo (rn l k) (rd l k) from (aa xx) k (by have := aa Ps; have := aa qb; omega))
      clear hbb hce
      go_upto_region 10 with fail
      refine Rg.dh 2 51 (Rg.pick [Rg.au (.int .i64 (k : Int)), Rg.au (.bool true)]) (ay w _ wr) eu [] kr rfl (Rg.dw.pick ⟨Rg.ae _, Rg.ae _, trivial⟩) (ay.begin (aa HO))
       (ah (di rfl aF)
       (ah (rz rfl (aT 0) (Rg.iy _) rfl d1)
       Rg.bf)) ?_
      intro v7 V7 yw hv7 Ag
      simp only [Rg.puts, Act.put, tA]
      have e1 : v7 1 = .bool true := hv7 1 de
      simp only [e1]
      have hO := yw.1
      clear HO
      have HO := hide hO
      clear hO yw hv7 Ag
      try clear e1
      clear d1
      by_cases g2 : rn l k < 1
      ·
       have d2 : decide (rn l k ≤ 0) = true := decide_eq_true om
       have hr : t = ⟨0, 0, 1⟩ := by
        rw [aa HR]; unfold xz
        rw [if_pos ⟨aa HU, aa xx⟩, if_pos (aa Ps), if_neg (fun h => by have := h k (aa qb); omega)]
       subst hr
       clear HR g2
       go_upto_region 12 with fail
       refine Rg.dh 6 51 (Rg.pick [Rg.au (.slice (some ⟨b, off, none⟩) 7 c), Rg.au (.int .i64 (k : Int)), Rg.au (.pointer (some ⟨b, off + k * 2, none⟩)), Rg.au (.pointer (some ⟨b, off + k * 2, none⟩)), Rg.au (.int .i64 (rn l k)), Rg.au (.bool true)]) (ay w _ V7) eu [] kr rfl (Rg.dw.pick ⟨Rg.ae _, Rg.ae _, Rg.ae _, Rg.ae _, Rg.ae _, Rg.ae _, trivial⟩) (ay.begin (aa HO))
        (ah (di rfl aF)
        (ah (di rfl aF)
        (ah (Tc (i := k) rfl (aT 0) (aT 1) (aa qb) rfl)
        (ah (Co (b := b) (off := off + k * 2) rfl (aT 2) rfl rfl)
        (ah (aoq (fun W h => (aa HRA).below h.1.bel (aa Sd)) rfl (aT 3) rfl)
        (ah (acx rfl (aT 4) (Rg.iy _) rfl d2)
        Rg.bf)))))) ?_
       intro v8 V8 zn wz Az
       simp only [Rg.puts, Act.put, tA]
       have e5 : v8 5 = .bool true := wz 5 de
       simp only [e5]
       have hO := zn.1
       clear HO
       have HO := hide hO
       clear hO zn wz Az
       try clear e5
       clear d2
       go_upto_region 13 with fail
       refine Rg.dh 1 51 (Rg.pick [ax zR]) (ay w _ V8) eu [] kr rfl (Rg.dw.pick ⟨az _, trivial⟩) (ay.begin (aa HO))
        (ah (Cy Dz rfl rfl rfl)
        Rg.bf) ?_
       intro v9 V9 Mt Il Re
       simp only [Rg.puts, Act.put, tA]
       have hO := Mt.1
       refine jq hO 1 [] zR zR [] rfl qz rfl (show ax zR V9 (v9 0) from Il 0 de) rfl rfl rfl ?_
       intro aav gm hk0
       replace hO := gm
       clear gm
       clear HO
       have HO := hide hO
       clear hO Mt Il Re hk0
       go_wp2_with fail
       exact uo Tryz.results45 Cj rfl rfl (aa HO) qg rfl rfl
      ·
       have d2 : decide (rn l k ≤ 0) = false := decide_eq_false om
       have Uq := hide (show 1 ≤ rn l k by omega)
       have HAN := hide (show ∀ j, j < k + 1 → 1 ≤ rn l j from fun j hj => by
        by_cases e : j = k
        ·
         subst e; omega
        ·
         exact (aa Iw) j om)
       have Du := hide (abe (l := l) (aa HU).1 k (by have := aa qb; omega) (fun j hj => ⟨(aa xx) j (by have := aa Ps; have := aa qb; omega), (aa Iw) j hj⟩))
       clear g2
       go_upto_region 12 with fail
       refine Rg.dh 6 51 (Rg.pick [Rg.au (.slice (some ⟨b, off, none⟩) 7 c), Rg.au (.int .i64 (k : Int)), Rg.au (.pointer (some ⟨b, off + k * 2, none⟩)), Rg.au (.pointer (some ⟨b, off + k * 2, none⟩)), Rg.au (.int .i64 (rn l k)), Rg.au (.bool false)]) (ay w _ V7) eu [] kr rfl (Rg.dw.pick ⟨Rg.ae _, Rg.ae _, Rg.ae _, Rg.ae _, Rg.ae _, Rg.ae _, trivial⟩) (ay.begin (aa HO))
        (ah (di rfl aF)
        (ah (di rfl aF)
        (ah (Tc (i := k) rfl (aT 0) (aT 1) (aa qb) rfl)
        (ah (Co (b := b) (off := off + k * 2) rfl (aT 2) rfl rfl)
        (ah (aoq (fun W h => (aa HRA).below h.1.bel (aa Sd)) rfl (aT 3) rfl)
        (ah (acx rfl (aT 4) (Rg.iy _) rfl d2)
        Rg.bf)))))) ?_
       intro v8 V8 zn wz Az
       simp only [Rg.puts, Act.put, tA]
       have e5 : v8 5 = .bool false := wz 5 de
       simp only [e5]
       have hO := zn.1
       clear HO
       have HO := hide hO
       clear hO zn wz Az
       try clear e5
       clear d2
       go_upto_region 14 with fail
       refine Rg.region 12 51 (Rg.pick [ax [.r (ko f l k)], Rg.au (.slice (some ⟨b, off, none⟩) 7 c), Rg.au (.int .i64 (k : Int)), Rg.au (.pointer (some ⟨b, off + k * 2, none⟩)), ax [iv (rn l k), iv (rd l k)], ax [.r (Wd.qR (rn l k) (rd l k))], Rg.au (.int .i64 (k : Int)), Rg.au (.pointer (some ⟨w.heap.size, 0, none⟩)), Rg.au (.pointer (some ⟨w.heap.size, k, none⟩)), Rg.au (.int .i64 (f k)), ax [.r (xk (Wd.qR (rn l k) (rd l k)) (f k))], ax [.r (ko f l (k + 1))]]) (ay w _ V8) eu [] kr kr rfl (Rg.dw.pick ⟨az _, Rg.ae _, Rg.ae _, Rg.ae _, az _, az _, Rg.ae _, Rg.ae _, Rg.ae _, Rg.ae _, az _, az _, trivial⟩) (ay.start (aa HO))
        (ah (ic Ef me0 aF [] [.r (ko f l k)] [])
        (ah (di rfl aF)
        (ah (di rfl aF)
        (ah (Tc (i := k) rfl (aT 1) (aT 2) (aa qb) rfl)
        (ah (aef (fun W h => (aa HRA).below h.1.bel (aa Sd)) rfl (aT 3) rfl)
        (ah (sc1 Tryz.func58 (aT 4) (fun W v0 hG h0 => alh (aa HQ) h0))
        (ah (di rfl aF)
        (ah (zw (b := w.heap.size) (off := 0) rfl aF rfl rfl)
        (ah (Fe (b := w.heap.size) (k := k) rfl (aT 7) (aT 6) (aa qb) rfl)
        (ah (Lf (f := f) Bv rfl (aT 8) (aa qb) rfl rfl)
        (ah (sc2 Tryz.func71 (aT 5) (aT 9) (fun W v0 v1 hG h0 h1 => by cases h1; exact bdb (K := 1) (b := 9) (Hr (aa HQ)) (alq (aa HQ) (aa Uq)) ((aa HU).1 k (aa qb)) om om W _ h0))
        (ah (sc2 Tryz.func62 (aT 0) (aT 10) (fun W v0 v1 hG h0 h1 => ali (aa Du) (aoh (aa HU).1 (aa qb) (aa HQ) (aa Uq)) h0 h1))
        Rg.bf)))))))))))) ?_
       intro v9 V9 Mt Il Re
       simp only [Rg.puts, Act.put, tA]
       have hO := Mt.1
       refine jq hO 0 [] [.r (ko f l k)] [.r (ko f l (k + 1))] [] rfl Er rfl (show ax [.r (ko f l (k + 1))] V9 (v9 11) from Il 11 de) rfl rfl rfl ?_
       intro aav gm hk0
       replace hO := gm
       clear gm
       clear HO
       have HO := hide hO
       clear hO Mt Il Re hk0
       go_wp2_with fail
       go_roundw
       case rel =>
        exact ⟨k + 1, by have := aa qb; omega, Ld (aa qb) om, hide ⟨aa HO, aa HAN⟩⟩
       case measure =>
        have h1 := aa qb
        clear HO
        rw [Jp h1 om]
        exact measS h1
     ·
      have d1 : decide ((k : Int) < 7) = false := decide_eq_false om
      obtain rfl : k = 7 := by have := aa HK; omega
      have hr : t = Wd.told (ko f l 7) := by
       rw [aa HR]; unfold xz
       rw [if_pos ⟨aa HU, aa xx⟩, if_pos (aa Ps), if_pos (aa Iw)]
      subst hr
      clear HR g1
      go_upto_region 10 with fail
      refine Rg.dh 2 51 (Rg.pick [Rg.au (.int .i64 ((7 : Nat) : Int)), Rg.au (.bool false)]) (ay w _ wr) eu [] kr rfl (Rg.dw.pick ⟨Rg.ae _, Rg.ae _, trivial⟩) (ay.begin (aa HO))
       (ah (di rfl aF)
       (ah (rz rfl (aT 0) (Rg.iy _) rfl d1)
       Rg.bf)) ?_
      intro v7 V7 yw hv7 Ag
      simp only [Rg.puts, Act.put, tA]
      have e1 : v7 1 = .bool false := hv7 1 de
      simp only [e1]
      have hO := yw.1
      clear HO
      have HO := hide hO
      clear hO yw hv7 Ag
      try clear e1
      clear d1
      go_upto_region 15 with fail
      refine Rg.dh 4 51 (Rg.pick [ax [.r (ko f l 7)], kz [ax [iv (Wd.told (ko f l 7)).n, iv (Wd.told (ko f l 7)).d], Rg.au (.int .i64 (Wd.told (ko f l 7)).e)], ax [iv (Wd.told (ko f l 7)).n, iv (Wd.told (ko f l 7)).d], Rg.au (.int .i64 (Wd.told (ko f l 7)).e)]) (ay w _ V7) eu [] kr rfl (Rg.dw.pick ⟨az _, jf ⟨(az _), (Rg.ae _), trivial⟩, az _, Rg.ae _, trivial⟩) (ay.begin (aa HO))
       (ah (ic Ef me0 aF [] [.r (ko f l 7)] [])
       (ah (sc1 Tryz.func110 (aT 0) (fun W v0 hG h0 => avt W _ h0))
       (ah (ky (ts := [ax [iv (Wd.told (ko f l 7)).n, iv (Wd.told (ko f l 7)).d], Rg.au (.int .i64 (Wd.told (ko f l 7)).e)]) rfl (aT 1) (of_decide_eq_true rfl) rfl)
       (ah (ky (ts := [ax [iv (Wd.told (ko f l 7)).n, iv (Wd.told (ko f l 7)).d], Rg.au (.int .i64 (Wd.told (ko f l 7)).e)]) rfl (aT 1) (of_decide_eq_true rfl) rfl)
       Rg.bf)))) ?_
      intro v8 V8 zn wz Az
      simp only [Rg.puts, Act.put, tA]
      have e3 : v8 3 = .int .i64 (Wd.told (ko f l 7)).e := wz 3 de
      simp only [e3]
      have hO := zn.1
      refine jq hO 1 [] zR [iv (Wd.told (ko f l 7)).n, iv (Wd.told (ko f l 7)).d] [] rfl qz rfl (show ax [iv (Wd.told (ko f l 7)).n, iv (Wd.told (ko f l 7)).d] V8 (v8 2) from wz 2 de) rfl rfl rfl ?_
      intro bgf gm hk0
      replace hO := gm
      clear gm
      clear HO
      have HO := hide hO
      clear hO zn wz Az hk0
      try clear e3
      go_wp2_with fail
      exact uo Tryz.results45 Cj rfl rfl (aa HO) qg rfl rfl
   ·
    have k1 : ((m : Int) != 7) = true := by simp [bne, beq_eq_false_iff_ne]; omega
    have hr : t = ⟨0, 0, 8⟩ := by
     rw [aa HR]; unfold xz
     rw [if_pos ⟨aa HU, aa xx⟩, if_neg (by have := aa HM; omega)]
    subst hr
    clear HR g2
    go_upto_region 6 with fail
    refine Rg.dh 3 51 (Rg.pick [Rg.au (.slice A m c), Rg.au (.int .i64 (m : Int)), Rg.au (.bool true)]) (ay w _ V3) eu [] kr rfl (Rg.dw.pick ⟨Rg.ae _, Rg.ae _, Rg.ae _, trivial⟩) (ay.begin (aa HO))
     (ah (di rfl aF)
     (ah (Ou rfl (aT 0) rfl)
     (ah (acw rfl (aT 1) (Rg.iy _) rfl k1)
     Rg.bf))) ?_
    intro v4 V4 hG4 hv4 sw
    simp only [Rg.puts, Act.put, tA]
    have e2 : v4 2 = .bool true := hv4 2 de
    simp only [e2]
    have hO := hG4.1
    clear HO
    have HO := hide hO
    clear hO hG4 hv4 sw
    try clear e2
    clear k1
    go_upto_region 7 with fail
    refine Rg.dh 1 51 (Rg.pick [ax zR]) (ay w _ V4) eu [] kr rfl (Rg.dw.pick ⟨az _, trivial⟩) (ay.begin (aa HO))
     (ah (Cy Dz rfl rfl rfl)
     Rg.bf) ?_
    intro v5 V5 uk hv5 hne5
    simp only [Rg.puts, Act.put, tA]
    have hO := uk.1
    refine jq hO 0 [] zR zR [] rfl qz rfl (show ax zR V5 (v5 0) from hv5 0 de) rfl rfl rfl ?_
    intro Da gm hk0
    replace hO := gm
    clear gm
    clear HO
    have HO := hide hO
    clear hO uk hv5 hne5 hk0
    go_wp2_with fail
    exact uo Tryz.results45 Cj rfl rfl (aa HO) me0 rfl rfl
  ·
   have k1 : decide (Uj l) = false := decide_eq_false g1
   have hr : t = ⟨0, 0, 1⟩ := by rw [aa HR]; unfold xz; rw [if_neg (fun h => g1 h.2)]
   subst hr
   clear HR g1
   go_upto_region 4 with fail
   refine Rg.dh 3 51 (Rg.pick [Rg.au (.slice A m c), Rg.au (.bool false), Rg.au (.bool true)]) (ay w _ V2) eu [] kr rfl (Rg.dw.pick ⟨Rg.ae _, Rg.ae _, Rg.ae _, trivial⟩) (ay.begin (aa HO))
    (ah (di rfl aF)
    (ah (sc1 Tryz.func111 (aT 0) (fun W v0 hG h0 => by cases h0; exact k1 ▸ ayh (aa HM) ((aa Um).below hG.bel |>.up hG.bel.size) (aa HN).1 (aa HN).2))
    (ah (zb rfl (aT 1) rfl rfl)
    Rg.bf))) ?_
   intro v3 V3 hG3 hv3 ma
   simp only [Rg.puts, Act.put, tA]
   have e2 : v3 2 = .bool true := hv3 2 de
   simp only [e2]
   have hO := hG3.1
   clear HO
   have HO := hide hO
   clear hO hG3 hv3 ma
   try clear e2
   clear k1
   go_upto_region 5 with fail
   refine Rg.dh 1 51 (Rg.pick [ax zR]) (ay w _ V3) eu [] kr rfl (Rg.dw.pick ⟨az _, trivial⟩) (ay.begin (aa HO))
    (ah (Cy Dz rfl rfl rfl)
    Rg.bf) ?_
   intro v4 V4 hG4 hv4 sw
   simp only [Rg.puts, Act.put, tA]
   have hO := hG4.1
   refine jq hO 0 [] zR zR [] rfl qz rfl (show ax zR V4 (v4 0) from hv4 0 de) rfl rfl rfl ?_
   intro Dk gm hk0
   replace hO := gm
   clear gm
   clear HO
   have HO := hide hO
   clear hO hG4 hv4 sw hk0
   go_wp2_with fail
   exact uo Tryz.results45 Cj rfl rfl (aa HO) me0 rfl rfl
 ·
  have k1 : De f n d = 1 := if_neg g0
  have hr : t = ⟨0, 0, 1⟩ := by rw [aa HR]; unfold xz; rw [if_neg (fun h => g0 h.1)]
  subst hr
  clear HR
  go_upto_region 1 with fail
  refine Rg.dh 3 51 (Rg.pick [ax [.k (eK f), iv n, iv d], Rg.au (.int .i64 1), Rg.au (.int .i64 1)]) (ay w _ W0) eu [] kr rfl (Rg.dw.pick ⟨az _, Rg.ae _, Rg.ae _, trivial⟩) (ay.begin (aa HO))
   (ah (ic wy qg aF [] [.k (eK f), iv n, iv d] [])
   (ah (sc1 Tryz.func31 (aT 0) (fun W v0 hG h0 => k1 ▸ ajx W _ h0))
   (ah (jk rfl (aT 1))
   Rg.bf))) ?_
  intro v1 V1 hG1 hv1 hne1
  simp only [Rg.puts, Act.put, tA]
  have e1 : v1 1 = .int .i64 1 := hv1 1 de
  have e2 : v1 2 = .int .i64 1 := hv1 2 de
  simp only [e1, e2]
  have hO := hG1.1
  clear HO
  have HO := hide hO
  clear hO hG1 hv1 hne1
  try clear e1 e2
  go_upto_region 2 with fail
  refine Rg.dh 2 51 (Rg.pick [Rg.au (.int .i64 1), Rg.au (.bool true)]) (ay w _ V1) eu [] kr rfl (Rg.dw.pick ⟨Rg.ae _, Rg.ae _, trivial⟩) (ay.begin (aa HO))
   (ah (di rfl aF)
   (ah (qy rfl (aT 0) (Rg.iy _) rfl rfl)
   Rg.bf)) ?_
  intro v2 V2 hG2 hv2 hne2
  simp only [Rg.puts, Act.put, tA]
  have e1 : v2 1 = .bool true := hv2 1 de
  simp only [e1]
  have hO := hG2.1
  clear HO
  have HO := hide hO
  clear hO hG2 hv2 hne2
  try clear e1
  go_upto_region 3 with fail
  refine Rg.dh 2 51 (Rg.pick [ax zR, Rg.au (.int .i64 1)]) (ay w _ V2) eu [] kr rfl (Rg.dw.pick ⟨az _, Rg.ae _, trivial⟩) (ay.begin (aa HO))
   (ah (Cy Dz rfl rfl rfl)
   (ah (di rfl aF)
   Rg.bf)) ?_
  intro v3 V3 hG3 hv3 ma
  simp only [Rg.puts, Act.put, tA]
  have e1 : v3 1 = .int .i64 1 := hv3 1 de
  simp only [e1]
  have hO := hG3.1
  refine jq hO 0 [] zR zR [] rfl qz rfl (show ax zR V3 (v3 0) from hv3 0 de) rfl rfl rfl ?_
  intro Gl gm hk0
  replace hO := gm
  clear gm
  clear HO
  have HO := hide hO
  clear hO hG3 hv3 ma hk0
  try clear e1
  go_wp2_with fail
  exact uo Tryz.results45 Cj rfl rfl (aa HO) me0 rfl rfl
theorem bij {F : Nat} {vs : Array Value} {W : World} {x y : Rat} (e : x = y) (h : Calls Tryz.prog F vs W (ib (Rg.au (.int .i64 (lh (x.num * y.den - y.num * x.den)))) W)) : Calls Tryz.prog F vs W (ib (Rg.au (.int .i64 0)) W) := by
 subst e
 rw [Int.sub_self] at h
 exact h
theorem aem {a0 c0 a1 c1 a2 c2 : Int} (w : World) (ok : Wd.oo a0 c0 ∧ Wd.oo a1 c1 ∧ Wd.oo a2 c2) (he : Wd.qR a0 c0 * Wd.qR a1 c1 = Wd.qR a2 c2) (u0 : Value) (h0 : ax [iv a0, iv c0] w u0) (u1 : Value) (h1 : ax [iv a1, iv c1] w u1) (u2 : Value) (h2 : ax [iv a2, iv c2] w u2) :
  Calls Tryz.prog 46 #[u0, u1, u2] w (ib (Rg.au (.bool true)) w) := by
 have xx := hide ok
 have HE := hide he
 clear ok he
 have hu0 := Fs h0
 subst hu0
 have hu1 := Fs h1
 subst hu1
 have hu2 := Fs h2
 subst hu2
 go_enter Tryz.func46, Tryz.ntmps46
 go_upto_region 1 with fail
 have hO := (Own.push (T := 23) (ls := [iv a2, iv c2]) (Own.push (T := 23) (ls := [iv a1, iv c1]) (Own.push (T := 23) (ls := [iv a0, iv c0]) (Own.nil w) (fo.v (kg _) (fo.v (kg _) rfl)) (w.heap.size) rfl) (fo.below (by repeat (first | exact Below.refl _ _ | refine gy ?_ _)) (fo.v (kg _) (fo.v (kg _) rfl))) (w.heap.size + 1) (by simp only [World.size_alloc])) (fo.below (by repeat (first | exact Below.refl _ _ | refine gy ?_ _)) (fo.v (kg _) (fo.v (kg _) rfl))) (w.heap.size + 2) (by simp only [World.size_alloc]))
 generalize ((w.alloc (.cells #[.int .i64 a0, .int .i64 c0] 23)).alloc (.cells #[.int .i64 a1, .int .i64 c1] 23)).alloc (.cells #[.int .i64 a2, .int .i64 c2] 23) = W0 at *
 have HO := hide hO
 clear hO
 go_upto_region 1 with fail
 refine Rg.region 10 16 (Rg.pick [ax [iv a0, iv c0], ax [.r (Wd.qR a0 c0)], ax [iv a1, iv c1], ax [.r (Wd.qR a1 c1)], ax [.r (Wd.qR a0 c0 * Wd.qR a1 c1)], ax [iv a2, iv c2], ax [.r (Wd.qR a2 c2)], Rg.au (.int .i64 0), Rg.au (.bool true), Rg.au (.bool true)]) (ay w _ W0) eu [] kr kr rfl (Rg.dw.pick ⟨az _, az _, az _, az _, az _, az _, az _, Rg.ae _, Rg.ae _, Rg.ae _, trivial⟩) (ay.start (aa HO))
  (ah (ic uf Bv aF [] [iv a0, iv c0] [])
  (ah (sc1 Tryz.func58 (aT 0) (fun W v0 hG h0 => alh (aa xx).1 h0))
  (ah (ic uf qg aF [] [iv a1, iv c1] [])
  (ah (sc1 Tryz.func58 (aT 2) (fun W v0 hG h0 => alh (aa xx).2.1 h0))
  (ah (sc2 Tryz.func62 (aT 1) (aT 3) (fun W v0 v1 hG h0 h1 => ali (Hr (aa xx).1) (Hr (aa xx).2.1) h0 h1))
  (ah (ic uf me0 aF [] [iv a2, iv c2] [])
  (ah (sc1 Tryz.func58 (aT 5) (fun W v0 hG h0 => alh (aa xx).2.2 h0))
  (ah (sc2 Tryz.func81 (aT 4) (aT 6) (fun W v0 v1 hG h0 h1 => bij (aa HE) (bhp (K := 2 + 2) (uu.mul (Hr (aa xx).1) (Hr (aa xx).2.1) om) ((Hr (aa xx).2.2).mono om om) h0 h1)))
  (ah (bho rfl (aT 7) (Rg.iy _) rfl rfl)
  (ah (jk rfl (aT 8))
  Rg.bf)))))))))) ?_
 intro v1 V1 hG1 hv1 hne1
 simp only [Rg.puts, Act.put, tA]
 have e8 : v1 8 = .bool true := hv1 8 de
 have e9 : v1 9 = .bool true := hv1 9 de
 simp only [e8, e9]
 have hO := hG1.1
 clear HO
 have HO := hide hO
 clear hO hG1 hv1 hne1
 try clear e8 e9
 go_wp2_with fail
 exact xw Tryz.results46 rfl (aa HO).bel rfl
end Sb

end Go.Proofs.YtfgeaakhlcaibaaGreatDoor
