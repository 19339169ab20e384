/- Texts beneath a law of layer 1. -/
import Derived.Test.YtfgeaakhlcaibaaGreatDoorCw15
set_option maxRecDepth 100000
set_option maxHeartbeats 16000000
namespace Go.Proofs.YtfgeaakhlcaibaaGreatDoor
open Go.RowKit

namespace Sb
theorem Yx {Q : Exit → Act → World → Prop} {l : List Oper} {n : Nat} {T : Nat → World → Value → Prop} {G : World → Prop} {al : List Nat} {a0 : Act} {k d : Nat} {ty : TypeId} {pos : String} {af : Array Edge} {gd : Option (Nat × Bool)} {b i m : Nat} {x y : Operand} (hal : al.contains k = false) (hx : Rg.iq l n T a0 k x (Rg.ai (.slice (some ⟨b, 0, none⟩) m m))) (hy : Rg.iq l n T a0 k y (Rg.ai (.int .i64 (i : Int)))) (hi : i < m) (hT : T k = Rg.ai (.pointer (some ⟨b, 9 * i, none⟩))) :
  Rg.Step Tryz.prog Q l n T G dm al a0 k { dst := some d, op := .indexAddr 174 x y, type := ty, pos := pos, after := af, guard := gd } := by
 intro a w hG hO hN
 have h1 := hx a w hO hN
 have h2 := hy a w hO hN
 have hr : (execOp a.eval { dst := some d, op := .indexAddr 174 x y, type := ty, pos := pos, after := af, guard := gd }).run Tryz.prog w = .ok (.value (.pointer (some ⟨b, 9 * i, none⟩))) w := by
  have h1' : a.eval x = .slice (some ⟨b, 0, none⟩) m m := h1
  have h2' : a.eval y = .int .i64 (i : Int) := h2
  simp only [execOp, h1', h2']
  simp [go_sem, hi, Nat.mul_comm]
 exact jm (P := Tryz.prog) hr ⟨_, rfl, hG, Below.refl _ _, by rw [hT]; rfl, fun h => by rw [hal] at h; cases h⟩
theorem Bh : aks Tryz.prog 174 44 2 9 := by
 intro ρ w d ps cs ty pos af gd hm h
 match ps, hm with
 | [(i0, x0), (i1, x1)], _ =>
 obtain ⟨us0, r0, rfl, l0, e0, g0, h⟩ := h
 obtain ⟨us1, r1, rfl, l1, e1, g1, h⟩ := h
 cases h
 match us0, l0 with
 | [bul, buk, buj, bui, buh, bug, bue, bud, buc], _ =>
 match us1, l1 with
 | [bub, bua, btz, bty, btx, btw, btv, btu, btt], _ =>
 dsimp only at e0 e1 g0 g1
 subst e0 e1
 simp only [execOp]
 simp [go_sem, g0, g1]
 try rfl
theorem atg {ρ : Operand → Value} {w : World} {d : Option Tmp} {x : Operand} {A : Option Addr} {m c : Nat} {ty : TypeId} {pos : String} {af : Array Edge} {gd : Option (Nat × Bool)} (h : ρ x = .slice A m c) :
  (execOp ρ { dst := d, op := .call { callee := .builtin .len, args := #[x], argTypes := #[174] }, type := ty, pos := pos, after := af, guard := gd }).run Tryz.prog w = .ok (.value (.int .i64 m)) w := by
 simp only [execOp, resolve, invoke, h, List.map_toArray, List.map_cons, List.map_nil]
 simp [go_sem, h, Builtin.len_]
theorem aes {Q : Exit → Act → World → Prop} {l : List Oper} {n : Nat} {T : Nat → World → Value → Prop} {G : World → Prop} {al : List Nat} {a0 : Act} {k d : Nat} {ty : TypeId} {pos : String} {af : Array Edge} {gd : Option (Nat × Bool)} {x : Operand} {A : Option Addr} {m c : Nat} (hal : al.contains k = false) (hx : Rg.iq l n T a0 k x (Rg.ai (.slice A m c))) (hT : T k = Rg.ai (.int .i64 m)) :
  Rg.Step Tryz.prog Q l n T G dm al a0 k { dst := some d, op := .call { callee := .builtin .len, args := #[x], argTypes := #[174] }, type := ty, pos := pos, after := af, guard := gd } := by
 intro a w hG hO hN
 exact jm (P := Tryz.prog) (atg (hx a w hO hN)) ⟨_, rfl, hG, Below.refl _ _, by rw [hT]; rfl, fun h => by rw [hal] at h; cases h⟩
theorem aip {f g : Nat → Int} {n d p q : Int} {b0 : Nat} (v : Int) (w : World) (hb : uo w b0 44 [.k (eK f), iv n, iv d, .k (eK g), iv p, iv q]) (hv : v = oq f n d g p q) :
  Calls Tryz.prog 99 #[.slice (some ⟨b0, 0, none⟩) 2 2] w (ik (Rg.ai (.int .i64 v)) w) := by
 have HB := hide hb
 have HV := hide hv
 clear hb hv
 go_enter Tryz.func99, Tryz.ntmps99
 go_upto_region 1 with fail
 have hO := (Own.nil w)
 have HO := hide hO
 clear hO
 go_wp2_with fail
 go_loopw [3] (fun vk wr => ∃ k : Nat, k ≤ 2 ∧ vk = .int .i64 ((k : Nat) : Int) ∧ (0 < k → qf f n d) ∧ (1 < k → qf g p q) ∧ Hid (Own w [] wr)) (fun vk _ => 2 - (intOf vk).toNat)
 case atStart => exact ⟨0, by omega, rfl, fun h => absurd h om, fun h => absurd h om, HO⟩
 case round =>
  obtain ⟨k, hk, rfl, ho1, ho2, HO⟩ := hrel
  have hc : k = 0 ∨ k = 1 ∨ k = 2 := by omega
  clear hk
  rcases hc with rfl | rfl | rfl
  ·
   have Lj := hide ho1
   clear ho1 ho2
   go_upto_region 2 with fail
   refine Rg.bg 4 19 (Rg.pick [Rg.ai (.int .i64 ((0 : Nat) : Int)), Rg.ai (.slice (some ⟨b0, 0, none⟩) 2 2), Rg.ai (.int .i64 2), Rg.ai (.bool true)]) (az w _ wr) dm [] kr rfl (Rg.df.pick ⟨Rg.ae _, Rg.ae _, Rg.ae _, Rg.ae _, trivial⟩) (az.begin (aa HO))
    (ag (cz rfl aF)
    (ag (cz rfl aF)
    (ag (aes (m := 2) rfl (aT 1) rfl)
    (ag (ry rfl (aT 0) (aT 2) rfl rfl)
    Rg.bf)))) ?_
   intro v1 V1 hG1 hv1 hne1
   simp only [Rg.puts, Act.put, tA]
   have e3 : v1 3 = .bool true := hv1 3 de
   simp only [e3]
   have hO := hG1.1
   clear HO
   have HO := hide hO
   clear hO hG1 hv1 hne1
   try clear e3
   by_cases g1 : qf f n d
   ·
    have k1 : xy f n d = 0 := if_pos g1
    go_upto_region 4 with fail
    refine Rg.bg 6 19 (Rg.pick [Rg.ai (.slice (some ⟨b0, 0, none⟩) 2 2), Rg.ai (.int .i64 ((0 : Nat) : Int)), Rg.ai (.pointer (some ⟨b0, 9 * 0, none⟩)), au [.k (eK f), iv n, iv d], Rg.ai (.int .i64 0), Rg.ai (.int .i64 0)]) (az w _ V1) dm [] kr rfl (Rg.df.pick ⟨Rg.ae _, Rg.ae _, Rg.ae _, ay _, Rg.ae _, Rg.ae _, trivial⟩) (az.begin (aa HO))
     (ag (cz rfl aF)
     (ag (cz rfl aF)
     (ag (Yx (i := 0) (m := 2) rfl (aT 0) (aT 1) om rfl)
     (ag (Pj (b := b0) (off := 9 * 0) (TB := 44) (pre := []) (mid := [.k (eK f), iv n, iv d]) (post := [.k (eK g), iv p, iv q]) jb rfl (aT 2) (fun W h => (aa HB).below h.1.bel) rfl rfl rfl)
     (ag (sc1 Tryz.func31 (aT 3) (fun W v0 hG h0 => k1 ▸ Dg W _ h0))
     (ag (ib rfl (aT 4))
     Rg.bf)))))) ?_
    intro v2 V2 hG2 hv2 hne2
    simp only [Rg.puts, Act.put, tA]
    have e4 : v2 4 = .int .i64 0 := hv2 4 de
    have e5 : v2 5 = .int .i64 0 := hv2 5 de
    simp only [e4, e5]
    have hO := hG2.1
    clear HO
    have HO := hide hO
    clear hO hG2 hv2 hne2
    try clear e4 e5
    clear k1
    go_upto_region 5 with fail
    refine Rg.bg 2 19 (Rg.pick [Rg.ai (.int .i64 0), Rg.ai (.bool false)]) (az w _ V2) dm [] kr rfl (Rg.df.pick ⟨Rg.ae _, Rg.ae _, trivial⟩) (az.begin (aa HO))
     (ag (cz rfl aF)
     (ag (mq rfl (aT 0) (Rg.jc _) rfl rfl)
     Rg.bf)) ?_
    intro v3 V3 hG3 hv3 ja
    simp only [Rg.puts, Act.put, tA]
    have e1 : v3 1 = .bool false := hv3 1 de
    simp only [e1]
    have hO := hG3.1
    clear HO
    have HO := hide hO
    clear hO hG3 hv3 ja
    try clear e1
    have HG := hide g1
    clear g1
    go_wp2_with fail
    go_roundw
    case rel =>
     exact ⟨0 + 1, by omega, rfl, fun _ => aa HG, fun h => absurd h om, HO⟩
    case measure =>
     clear HO
     decide
   ·
    have k1 : xy f n d = 1 := if_neg g1
    have hv : v = 1 := by rw [aa HV]; unfold oq; rw [k1]; rfl
    subst hv
    clear HV
    go_upto_region 4 with fail
    refine Rg.bg 6 19 (Rg.pick [Rg.ai (.slice (some ⟨b0, 0, none⟩) 2 2), Rg.ai (.int .i64 ((0 : Nat) : Int)), Rg.ai (.pointer (some ⟨b0, 9 * 0, none⟩)), au [.k (eK f), iv n, iv d], Rg.ai (.int .i64 1), Rg.ai (.int .i64 1)]) (az w _ V1) dm [] kr rfl (Rg.df.pick ⟨Rg.ae _, Rg.ae _, Rg.ae _, ay _, Rg.ae _, Rg.ae _, trivial⟩) (az.begin (aa HO))
     (ag (cz rfl aF)
     (ag (cz rfl aF)
     (ag (Yx (i := 0) (m := 2) rfl (aT 0) (aT 1) om rfl)
     (ag (Pj (b := b0) (off := 9 * 0) (TB := 44) (pre := []) (mid := [.k (eK f), iv n, iv d]) (post := [.k (eK g), iv p, iv q]) jb rfl (aT 2) (fun W h => (aa HB).below h.1.bel) rfl rfl rfl)
     (ag (sc1 Tryz.func31 (aT 3) (fun W v0 hG h0 => k1 ▸ Dg W _ h0))
     (ag (ib rfl (aT 4))
     Rg.bf)))))) ?_
    intro v2 V2 hG2 hv2 hne2
    simp only [Rg.puts, Act.put, tA]
    have e4 : v2 4 = .int .i64 1 := hv2 4 de
    have e5 : v2 5 = .int .i64 1 := hv2 5 de
    simp only [e4, e5]
    have hO := hG2.1
    clear HO
    have HO := hide hO
    clear hO hG2 hv2 hne2
    try clear e4 e5
    clear k1
    go_upto_region 5 with fail
    refine Rg.bg 2 19 (Rg.pick [Rg.ai (.int .i64 1), Rg.ai (.bool true)]) (az w _ V2) dm [] kr rfl (Rg.df.pick ⟨Rg.ae _, Rg.ae _, trivial⟩) (az.begin (aa HO))
     (ag (cz rfl aF)
     (ag (mq rfl (aT 0) (Rg.jc _) rfl rfl)
     Rg.bf)) ?_
    intro v3 V3 hG3 hv3 ja
    simp only [Rg.puts, Act.put, tA]
    have e1 : v3 1 = .bool true := hv3 1 de
    simp only [e1]
    have hO := hG3.1
    clear HO
    have HO := hide hO
    clear hO hG3 hv3 ja
    try clear e1
    go_upto_region 6 with fail
    refine Rg.bg 2 19 (Rg.pick [Rg.ai (.int .i64 1), Rg.ai (.int .i64 1)]) (az w _ V3) dm [] kr rfl (Rg.df.pick ⟨Rg.ae _, Rg.ae _, trivial⟩) (az.begin (aa HO))
     (ag (cz rfl aF)
     (ag (ib rfl (aT 0))
     Rg.bf)) ?_
    intro v4 V4 hG4 hv4 mo
    simp only [Rg.puts, Act.put, tA]
    have e0 : v4 0 = .int .i64 1 := hv4 0 de
    have e1 : v4 1 = .int .i64 1 := hv4 1 de
    simp only [e0, e1]
    have hO := hG4.1
    clear HO
    have HO := hide hO
    clear hO hG4 hv4 mo
    try clear e0 e1
    go_wp2_with fail
    exact yu Tryz.results99 rfl (aa HO).bel rfl
  ·
   have Lj := hide ho1
   clear ho1 ho2
   go_upto_region 2 with fail
   refine Rg.bg 4 19 (Rg.pick [Rg.ai (.int .i64 ((1 : Nat) : Int)), Rg.ai (.slice (some ⟨b0, 0, none⟩) 2 2), Rg.ai (.int .i64 2), Rg.ai (.bool true)]) (az w _ wr) dm [] kr rfl (Rg.df.pick ⟨Rg.ae _, Rg.ae _, Rg.ae _, Rg.ae _, trivial⟩) (az.begin (aa HO))
    (ag (cz rfl aF)
    (ag (cz rfl aF)
    (ag (aes (m := 2) rfl (aT 1) rfl)
    (ag (ry rfl (aT 0) (aT 2) rfl rfl)
    Rg.bf)))) ?_
   intro v1 V1 hG1 hv1 hne1
   simp only [Rg.puts, Act.put, tA]
   have e3 : v1 3 = .bool true := hv1 3 de
   simp only [e3]
   have hO := hG1.1
   clear HO
   have HO := hide hO
   clear hO hG1 hv1 hne1
   try clear e3
   by_cases g1 : qf g p q
   ·
    have k1 : xy g p q = 0 := if_pos g1
    go_upto_region 4 with fail
    refine Rg.bg 6 19 (Rg.pick [Rg.ai (.slice (some ⟨b0, 0, none⟩) 2 2), Rg.ai (.int .i64 ((1 : Nat) : Int)), Rg.ai (.pointer (some ⟨b0, 9 * 1, none⟩)), au [.k (eK g), iv p, iv q], Rg.ai (.int .i64 0), Rg.ai (.int .i64 0)]) (az w _ V1) dm [] kr rfl (Rg.df.pick ⟨Rg.ae _, Rg.ae _, Rg.ae _, ay _, Rg.ae _, Rg.ae _, trivial⟩) (az.begin (aa HO))
     (ag (cz rfl aF)
     (ag (cz rfl aF)
     (ag (Yx (i := 1) (m := 2) rfl (aT 0) (aT 1) om rfl)
     (ag (Pj (b := b0) (off := 9 * 1) (TB := 44) (pre := [.k (eK f), iv n, iv d]) (mid := [.k (eK g), iv p, iv q]) (post := []) jb rfl (aT 2) (fun W h => (aa HB).below h.1.bel) rfl rfl rfl)
     (ag (sc1 Tryz.func31 (aT 3) (fun W v0 hG h0 => k1 ▸ Dg W _ h0))
     (ag (ib rfl (aT 4))
     Rg.bf)))))) ?_
    intro v2 V2 hG2 hv2 hne2
    simp only [Rg.puts, Act.put, tA]
    have e4 : v2 4 = .int .i64 0 := hv2 4 de
    have e5 : v2 5 = .int .i64 0 := hv2 5 de
    simp only [e4, e5]
    have hO := hG2.1
    clear HO
    have HO := hide hO
    clear hO hG2 hv2 hne2
    try clear e4 e5
    clear k1
    go_upto_region 5 with fail
    refine Rg.bg 2 19 (Rg.pick [Rg.ai (.int .i64 0), Rg.ai (.bool false)]) (az w _ V2) dm [] kr rfl (Rg.df.pick ⟨Rg.ae _, Rg.ae _, trivial⟩) (az.begin (aa HO))
     (ag (cz rfl aF)
     (ag (mq rfl (aT 0) (Rg.jc _) rfl rfl)
     Rg.bf)) ?_
    intro v3 V3 hG3 hv3 ja
    simp only [Rg.puts, Act.put, tA]
    have e1 : v3 1 = .bool false := hv3 1 de
    simp only [e1]
    have hO := hG3.1
    clear HO
    have HO := hide hO
    clear hO hG3 hv3 ja
    try clear e1
    have HG := hide g1
    clear g1
    go_wp2_with fail
    go_roundw
    case rel =>
     exact ⟨1 + 1, by omega, rfl, fun _ => (aa Lj) om, fun _ => aa HG, HO⟩
    case measure =>
     clear HO
     decide
   ·
    have k1 : xy g p q = 1 := if_neg g1
    have hv : v = 1 := by rw [aa HV]; unfold oq; rw [show xy f n d = 0 from if_pos ((aa Lj) om), if_pos rfl, k1]
    subst hv
    clear HV
    go_upto_region 4 with fail
    refine Rg.bg 6 19 (Rg.pick [Rg.ai (.slice (some ⟨b0, 0, none⟩) 2 2), Rg.ai (.int .i64 ((1 : Nat) : Int)), Rg.ai (.pointer (some ⟨b0, 9 * 1, none⟩)), au [.k (eK g), iv p, iv q], Rg.ai (.int .i64 1), Rg.ai (.int .i64 1)]) (az w _ V1) dm [] kr rfl (Rg.df.pick ⟨Rg.ae _, Rg.ae _, Rg.ae _, ay _, Rg.ae _, Rg.ae _, trivial⟩) (az.begin (aa HO))
     (ag (cz rfl aF)
     (ag (cz rfl aF)
     (ag (Yx (i := 1) (m := 2) rfl (aT 0) (aT 1) om rfl)
     (ag (Pj (b := b0) (off := 9 * 1) (TB := 44) (pre := [.k (eK f), iv n, iv d]) (mid := [.k (eK g), iv p, iv q]) (post := []) jb rfl (aT 2) (fun W h => (aa HB).below h.1.bel) rfl rfl rfl)
     (ag (sc1 Tryz.func31 (aT 3) (fun W v0 hG h0 => k1 ▸ Dg W _ h0))
     (ag (ib rfl (aT 4))
     Rg.bf)))))) ?_
    intro v2 V2 hG2 hv2 hne2
    simp only [Rg.puts, Act.put, tA]
    have e4 : v2 4 = .int .i64 1 := hv2 4 de
    have e5 : v2 5 = .int .i64 1 := hv2 5 de
    simp only [e4, e5]
    have hO := hG2.1
    clear HO
    have HO := hide hO
    clear hO hG2 hv2 hne2
    try clear e4 e5
    clear k1
    go_upto_region 5 with fail
    refine Rg.bg 2 19 (Rg.pick [Rg.ai (.int .i64 1), Rg.ai (.bool true)]) (az w _ V2) dm [] kr rfl (Rg.df.pick ⟨Rg.ae _, Rg.ae _, trivial⟩) (az.begin (aa HO))
     (ag (cz rfl aF)
     (ag (mq rfl (aT 0) (Rg.jc _) rfl rfl)
     Rg.bf)) ?_
    intro v3 V3 hG3 hv3 ja
    simp only [Rg.puts, Act.put, tA]
    have e1 : v3 1 = .bool true := hv3 1 de
    simp only [e1]
    have hO := hG3.1
    clear HO
    have HO := hide hO
    clear hO hG3 hv3 ja
    try clear e1
    go_upto_region 6 with fail
    refine Rg.bg 2 19 (Rg.pick [Rg.ai (.int .i64 1), Rg.ai (.int .i64 1)]) (az w _ V3) dm [] kr rfl (Rg.df.pick ⟨Rg.ae _, Rg.ae _, trivial⟩) (az.begin (aa HO))
     (ag (cz rfl aF)
     (ag (ib rfl (aT 0))
     Rg.bf)) ?_
    intro v4 V4 hG4 hv4 mo
    simp only [Rg.puts, Act.put, tA]
    have e0 : v4 0 = .int .i64 1 := hv4 0 de
    have e1 : v4 1 = .int .i64 1 := hv4 1 de
    simp only [e0, e1]
    have hO := hG4.1
    clear HO
    have HO := hide hO
    clear hO hG4 hv4 mo
    try clear e0 e1
    go_wp2_with fail
    exact yu Tryz.results99 rfl (aa HO).bel rfl
  ·
   have hv : v = 0 := by rw [aa HV]; exact Cb ⟨ho1 om, ho2 om⟩
   subst hv
   clear HV ho1 ho2
   go_upto_region 2 with fail
   refine Rg.bg 4 19 (Rg.pick [Rg.ai (.int .i64 ((2 : Nat) : Int)), Rg.ai (.slice (some ⟨b0, 0, none⟩) 2 2), Rg.ai (.int .i64 2), Rg.ai (.bool false)]) (az w _ wr) dm [] kr rfl (Rg.df.pick ⟨Rg.ae _, Rg.ae _, Rg.ae _, Rg.ae _, trivial⟩) (az.begin (aa HO))
    (ag (cz rfl aF)
    (ag (cz rfl aF)
    (ag (aes (m := 2) rfl (aT 1) rfl)
    (ag (ry rfl (aT 0) (aT 2) rfl rfl)
    Rg.bf)))) ?_
   intro v1 V1 hG1 hv1 hne1
   simp only [Rg.puts, Act.put, tA]
   have e3 : v1 3 = .bool false := hv1 3 de
   simp only [e3]
   have hO := hG1.1
   clear HO
   have HO := hide hO
   clear hO hG1 hv1 hne1
   try clear e3
   go_upto_region 7 with fail
   refine Rg.bg 1 19 (Rg.pick [Rg.ai (.int .i64 0)]) (az w _ V1) dm [] kr rfl (Rg.df.pick ⟨Rg.ae _, trivial⟩) (az.begin (aa HO))
    (ag (ib rfl (Rg.jc _))
    Rg.bf) ?_
   intro v2 V2 hG2 hv2 hne2
   simp only [Rg.puts, Act.put, tA]
   have e0 : v2 0 = .int .i64 0 := hv2 0 de
   simp only [e0]
   have hO := hG2.1
   clear HO
   have HO := hide hO
   clear hO hG2 hv2 hne2
   try clear e0
   go_wp2_with fail
   exact yu Tryz.results99 rfl (aa HO).bel rfl
theorem Ea {f g : Nat → Int} {n d p q : Int} {W : World} {v0 : Value} (h : Sn 44 2 [.k (eK f), iv n, iv d, .k (eK g), iv p, iv q] W v0) :
  Calls Tryz.prog 99 #[v0] W (ik (Rg.ai (.int .i64 (oq f n d g p q))) W) := by
 obtain ⟨b, rfl, hb⟩ := h
 exact aip _ W hb rfl
theorem aqv {f : Nat → Int} {x : Rat} (hx : 0 < x) : (¬ Wd.fits x → gp f x = ⟨z7, 0, 0, 3⟩) ∧ (Wd.fits x → qf f x.num (x.den : Int) → gp f x = ⟨f, x.num, x.den, 0⟩) ∧ (Wd.fits x → ¬ qf f x.num (x.den : Int) → gp f x = ⟨z7, 0, 0, 3⟩) := by
 have hn : 1 ≤ x.num := by
  have h1 : 0 ≤ x.num := Rat.num_nonneg.2 (Rat.le_of_lt hx)
  have h2 := aly hx
  omega
 refine ⟨fun h => ?_, fun h ho => ?_, fun h ho => ?_⟩
 ·
  have e : Wd.told x = ⟨0, 0, 3⟩ := if_neg h
  unfold gp
  rw [e]
  split
  ·
   rfl
  ·
   rfl
 ·
  have e : Wd.told x = ⟨x.num, x.den, 0⟩ := if_pos h
  unfold gp
  rw [e, if_pos ho.1, if_pos rfl]
 ·
  unfold gp
  rw [if_neg (fun k => ho ⟨k, Wd.baf h, hn⟩)]
theorem ahu {f : Nat → Int} {x : Rat} (hx : 0 < x) (w : World) (u0 : Value) (h0 : au [.k (eK f), .r x] w u0) : Calls Tryz.prog 102 #[u0] w (ik (Kv (gp f x)) w) := aqu _ w u0 h0 (aqv hx)
theorem ban {f g : Nat → Int} {n d p q : Int} (w : World) (u0 : Value) (h0 : au [.k (eK f), iv n, iv d] w u0) (u1 : Value) (h1 : au [.k (eK g), iv p, iv q] w u1) :
  Calls Tryz.prog 34 #[u0, u1] w (ik (Kv (Fg f n d g p q 1)) w) := by
 obtain ⟨t, ht⟩ : ∃ t, t = Fg f n d g p q 1 := ⟨_, rfl⟩
 rw [← ht]
 have HR := hide ht
 clear ht
 have hu0 := pg h0
 subst hu0
 have hu1 := pg h1
 subst hu1
 go_enter Tryz.func34, Tryz.ntmps34
 go_upto_region 1 with fail
 have hO := (Own.push (T := 44) (ls := zU) (Own.push (T := 44) (ls := [.k (eK g), iv p, iv q]) (Own.push (T := 44) (ls := [.k (eK f), iv n, iv d]) (Own.nil w) (eu.e (eu.v (iw _) (eu.v (iw _) rfl))) (w.heap.size) rfl) (eu.below (by repeat (first | exact Below.refl _ _ | refine gm ?_ _)) (eu.e (eu.v (iw _) (eu.v (iw _) rfl)))) (w.heap.size + 1) (by simp only [World.size_alloc])) (eu.below (by repeat (first | exact Below.refl _ _ | refine gm ?_ _)) (eu.vs w [.int .i64 0, .int .i64 0, .int .i64 0, .int .i64 0, .int .i64 0, .int .i64 0, .int .i64 0, .int .i64 0, .int .i64 0] rfl)) (w.heap.size + 2) (by simp only [World.size_alloc]))
 generalize ((w.alloc (.cells #[.int .i64 (f 0), .int .i64 (f 1), .int .i64 (f 2), .int .i64 (f 3), .int .i64 (f 4), .int .i64 (f 5), .int .i64 (f 6), .int .i64 n, .int .i64 d] 44)).alloc (.cells #[.int .i64 (g 0), .int .i64 (g 1), .int .i64 (g 2), .int .i64 (g 3), .int .i64 (g 4), .int .i64 (g 5), .int .i64 (g 6), .int .i64 p, .int .i64 q] 44)).alloc (.cells #[.int .i64 0, .int .i64 0, .int .i64 0, .int .i64 0, .int .i64 0, .int .i64 0, .int .i64 0, .int .i64 0, .int .i64 0] 44) = W0 at *
 have HO := hide hO
 clear hO
 by_cases g0 : qf f n d ∧ qf g p q
 ·
  have k0 : (oq f n d g p q) = 0 := Cb g0
  obtain ⟨y, hy⟩ : ∃ y, y = Ae (Wd.qR p q) 1 := ⟨_, rfl⟩
  have HY := hide hy
  obtain ⟨a, ha⟩ : ∃ a, a = (Wd.qR n d) * y := ⟨_, rfl⟩
  obtain ⟨h, hh⟩ : ∃ h : Nat → Int, h = fun j => f j + g j * 1 := ⟨_, rfl⟩
  have hr : t = gp h a := by rw [aa HR, ha, hy, hh]; unfold Fg; exact if_pos k0
  subst hr
  clear HR
  have HX := hide ha
  have Dk := hide (show 0 < a by rw [ha, hy]; exact Rat.mul_pos (Ps g0.1) (Xk (Ps g0.2) _))
  have HW := hide (show (∀ j, j < 7 → wrap64 (1 * g j) = g j * 1) ∧ (∀ j, j < 7 → wrap64 (f j + g j * 1) = h j) by
   rw [hh]
   have k := Nb (m := 1) g0.1.1 g0.2.1 om
   exact ⟨fun j hj => by rw [Int.mul_comm]; exact k.1 j hj, k.2⟩)
  have rf := hide g0
  clear hy ha hh g0
  go_upto_region 1 with fail
  refine Rg.bg 5 23 (Rg.pick [au [.k (eK f), iv n, iv d], au [.k (eK g), iv p, iv q], Sn 44 2 [.k (eK f), iv n, iv d, .k (eK g), iv p, iv q], Rg.ai (.int .i64 0), Rg.ai (.int .i64 0)]) (az w _ W0) dm [] kr rfl (Rg.df.pick ⟨ay _, ay _, Gf _ _ _, Rg.ae _, Rg.ae _, trivial⟩) (az.begin (aa HO))
   (ag (fw jb ru aF [] [.k (eK f), iv n, iv d] [])
   (ag (fw jb mf aF [] [.k (eK g), iv p, iv q] [])
   (ag (Cn (ps := [(0, .tmp 7), (1, .tmp 8)]) (gs := [[.k (eK f), iv n, iv d], [.k (eK g), iv p, iv q]]) Bh rfl az.step rfl (qj.cons (aT 0) rfl (qj.cons (aT 1) rfl qj.nil)) rfl)
   (ag (sc1 Tryz.func99 (aT 2) (fun W v0 hG h0 => k0 ▸ Ea h0))
   (ag (ib rfl (aT 3))
   Rg.bf))))) ?_
  intro v1 V1 hG1 hv1 hne1
  simp only [Rg.puts, Act.put, tA]
  have e3 : v1 3 = .int .i64 0 := hv1 3 de
  have e4 : v1 4 = .int .i64 0 := hv1 4 de
  simp only [e3, e4]
  have hO := hG1.1
  clear HO
  have HO := hide hO
  clear hO hG1 hv1 hne1
  try clear e3 e4
  go_upto_region 2 with fail
  refine Rg.bg 2 23 (Rg.pick [Rg.ai (.int .i64 0), Rg.ai (.bool false)]) (az w _ V1) dm [] kr rfl (Rg.df.pick ⟨Rg.ae _, Rg.ae _, trivial⟩) (az.begin (aa HO))
   (ag (cz rfl aF)
   (ag (mq rfl (aT 0) (Rg.jc _) rfl rfl)
   Rg.bf)) ?_
  intro v2 V2 hG2 hv2 hne2
  simp only [Rg.puts, Act.put, tA]
  have e1 : v2 1 = .bool false := hv2 1 de
  simp only [e1]
  have hO := hG2.1
  clear HO
  have HO := hide hO
  clear hO hG2 hv2 hne2
  try clear e1
  clear k0
  go_upto_region 4 with fail
  refine Rg.region 8 23 (Rg.pick [au [.k (eK f), iv n, iv d], au [.k (eK f), .r (Wd.qR n d)], au [.k (eK g), iv p, iv q], au [.k (eK g), .r (Wd.qR p q)], au [.k (eK h), .r a], jk [au [.k (eK (gp h a).f), iv (gp h a).n, iv (gp h a).d], Rg.ai (.int .i64 (gp h a).e)], au [.k (eK (gp h a).f), iv (gp h a).n, iv (gp h a).d], Rg.ai (.int .i64 (gp h a).e)]) (az w _ V2) dm [] kr kr rfl (Rg.df.pick ⟨ay _, ay _, ay _, ay _, ay _, il ⟨(ay _), (Rg.ae _), trivial⟩, ay _, Rg.ae _, trivial⟩) (az.start (aa HO))
   (ag (fw jb ru aF [] [.k (eK f), iv n, iv d] [])
   (ag (sc1 Tryz.func100 (aT 0) (fun W v0 hG h0 => Ut (aa rf).1.2.1 W _ h0))
   (ag (fw jb mf aF [] [.k (eK g), iv p, iv q] [])
   (ag (sc1 Tryz.func100 (aT 2) (fun W v0 hG h0 => Ut (aa rf).2.2.1 W _ h0))
   (ag (sc3 Tryz.func101 (aT 1) (aT 3) (Rg.jc _) (fun W v0 v1 v2 hG h0 h1 h2 => by cases h2; exact Rc (pp := fun j => g j * 1) (y2 := y) W _ h0 _ h1 (aa HW) (fun W v0 hb h0 => (aa HY) ▸ aez (K := 1) (b := 9) (Br (aa rf).2.2.1) (Da (aa rf).2) om om om W v0 h0) (fun W v0 v1 hb h0 h1 => (aa HX) ▸ Yy (K := (1 + 1) * 9 + 1) (uw.mono (Br (aa rf).1.2.1) om om) ((aa HY) ▸ uw.Ae (K := 1 + 1) (b := 9) (Br (aa rf).2.2.1) (Da (aa rf).2) om om) h0 h1)))
   (ag (sc1 Tryz.func102 (aT 4) (fun W v0 hG h0 => ahu (aa Dk) W _ h0))
   (ag (iy (ts := [au [.k (eK (gp h a).f), iv (gp h a).n, iv (gp h a).d], Rg.ai (.int .i64 (gp h a).e)]) rfl (aT 5) (of_decide_eq_true rfl) rfl)
   (ag (iy (ts := [au [.k (eK (gp h a).f), iv (gp h a).n, iv (gp h a).d], Rg.ai (.int .i64 (gp h a).e)]) rfl (aT 5) (of_decide_eq_true rfl) rfl)
   Rg.bf)))))))) ?_
  intro v3 V3 hG3 hv3 ja
  simp only [Rg.puts, Act.put, tA]
  have e7 : v3 7 = .int .i64 (gp h a).e := hv3 7 de
  simp only [e7]
  have hO := hG3.1
  refine ji hO 0 [] zU [.k (eK (gp h a).f), iv (gp h a).n, iv (gp h a).d] [] rfl oo rfl (show au [.k (eK (gp h a).f), iv (gp h a).n, iv (gp h a).d] V3 (v3 6) from hv3 6 de) rfl rfl rfl ?_
  intro Bi fu hk0
  replace hO := fu
  clear fu
  clear HO
  have HO := hide hO
  clear hO hG3 hv3 ja hk0
  try clear e7
  go_wp2_with fail
  exact oz Tryz.results34 uh rfl rfl (aa HO) me0 rfl rfl
 ·
  have k0 : (oq f n d g p q) = 1 := Jq g0
  have hr : t = ⟨z7, 0, 0, 1⟩ := by rw [aa HR]; unfold Fg; rw [k0]; exact if_neg de
  subst hr
  clear HR
  go_upto_region 1 with fail
  refine Rg.bg 5 23 (Rg.pick [au [.k (eK f), iv n, iv d], au [.k (eK g), iv p, iv q], Sn 44 2 [.k (eK f), iv n, iv d, .k (eK g), iv p, iv q], Rg.ai (.int .i64 1), Rg.ai (.int .i64 1)]) (az w _ W0) dm [] kr rfl (Rg.df.pick ⟨ay _, ay _, Gf _ _ _, Rg.ae _, Rg.ae _, trivial⟩) (az.begin (aa HO))
   (ag (fw jb ru aF [] [.k (eK f), iv n, iv d] [])
   (ag (fw jb mf aF [] [.k (eK g), iv p, iv q] [])
   (ag (Cn (ps := [(0, .tmp 7), (1, .tmp 8)]) (gs := [[.k (eK f), iv n, iv d], [.k (eK g), iv p, iv q]]) Bh rfl az.step rfl (qj.cons (aT 0) rfl (qj.cons (aT 1) rfl qj.nil)) rfl)
   (ag (sc1 Tryz.func99 (aT 2) (fun W v0 hG h0 => k0 ▸ Ea h0))
   (ag (ib rfl (aT 3))
   Rg.bf))))) ?_
  intro v1 V1 hG1 hv1 hne1
  simp only [Rg.puts, Act.put, tA]
  have e3 : v1 3 = .int .i64 1 := hv1 3 de
  have e4 : v1 4 = .int .i64 1 := hv1 4 de
  simp only [e3, e4]
  have hO := hG1.1
  clear HO
  have HO := hide hO
  clear hO hG1 hv1 hne1
  try clear e3 e4
  go_upto_region 2 with fail
  refine Rg.bg 2 23 (Rg.pick [Rg.ai (.int .i64 1), Rg.ai (.bool true)]) (az w _ V1) dm [] kr rfl (Rg.df.pick ⟨Rg.ae _, Rg.ae _, trivial⟩) (az.begin (aa HO))
   (ag (cz rfl aF)
   (ag (mq rfl (aT 0) (Rg.jc _) rfl rfl)
   Rg.bf)) ?_
  intro v2 V2 hG2 hv2 hne2
  simp only [Rg.puts, Act.put, tA]
  have e1 : v2 1 = .bool true := hv2 1 de
  simp only [e1]
  have hO := hG2.1
  clear HO
  have HO := hide hO
  clear hO hG2 hv2 hne2
  try clear e1
  go_upto_region 3 with fail
  refine Rg.bg 2 23 (Rg.pick [au [.k (eK z7), iv 0, iv 0], Rg.ai (.int .i64 1)]) (az w _ V2) dm [] kr rfl (Rg.df.pick ⟨ay _, Rg.ae _, trivial⟩) (az.begin (aa HO))
   (ag (Ik rfl rfl)
   (ag (cz rfl aF)
   Rg.bf)) ?_
  intro v3 V3 hG3 hv3 ja
  simp only [Rg.puts, Act.put, tA]
  have e1 : v3 1 = .int .i64 1 := hv3 1 de
  simp only [e1]
  have hO := hG3.1
  refine ji hO 0 [] zU [.k (eK z7), iv 0, iv 0] [] rfl oo rfl (show au [.k (eK z7), iv 0, iv 0] V3 (v3 0) from hv3 0 de) rfl rfl rfl ?_
  intro Bi fu hk0
  replace hO := fu
  clear fu
  clear HO
  have HO := hide hO
  clear hO hG3 hv3 ja hk0
  try clear e1
  go_wp2_with fail
  exact oz Tryz.results34 uh rfl rfl (aa HO) me0 rfl rfl
theorem bap {f g : Nat → Int} {n d p q : Int} (w : World) (u0 : Value) (h0 : au [.k (eK f), iv n, iv d] w u0) (u1 : Value) (h1 : au [.k (eK g), iv p, iv q] w u1) :
  Calls Tryz.prog 36 #[u0, u1] w (ik (Kv (Fg f n d g p q (-1))) w) := by
 obtain ⟨t, ht⟩ : ∃ t, t = Fg f n d g p q (-1) := ⟨_, rfl⟩
 rw [← ht]
 have HR := hide ht
 clear ht
 have hu0 := pg h0
 subst hu0
 have hu1 := pg h1
 subst hu1
 go_enter Tryz.func36, Tryz.ntmps36
 go_upto_region 1 with fail
 have hO := (Own.push (T := 44) (ls := zU) (Own.push (T := 44) (ls := [.k (eK g), iv p, iv q]) (Own.push (T := 44) (ls := [.k (eK f), iv n, iv d]) (Own.nil w) (eu.e (eu.v (iw _) (eu.v (iw _) rfl))) (w.heap.size) rfl) (eu.below (by repeat (first | exact Below.refl _ _ | refine gm ?_ _)) (eu.e (eu.v (iw _) (eu.v (iw _) rfl)))) (w.heap.size + 1) (by simp only [World.size_alloc])) (eu.below (by repeat (first | exact Below.refl _ _ | refine gm ?_ _)) (eu.vs w [.int .i64 0, .int .i64 0, .int .i64 0, .int .i64 0, .int .i64 0, .int .i64 0, .int .i64 0, .int .i64 0, .int .i64 0] rfl)) (w.heap.size + 2) (by simp only [World.size_alloc]))
 generalize ((w.alloc (.cells #[.int .i64 (f 0), .int .i64 (f 1), .int .i64 (f 2), .int .i64 (f 3), .int .i64 (f 4), .int .i64 (f 5), .int .i64 (f 6), .int .i64 n, .int .i64 d] 44)).alloc (.cells #[.int .i64 (g 0), .int .i64 (g 1), .int .i64 (g 2), .int .i64 (g 3), .int .i64 (g 4), .int .i64 (g 5), .int .i64 (g 6), .int .i64 p, .int .i64 q] 44)).alloc (.cells #[.int .i64 0, .int .i64 0, .int .i64 0, .int .i64 0, .int .i64 0, .int .i64 0, .int .i64 0, .int .i64 0, .int .i64 0] 44) = W0 at *
 have HO := hide hO
 clear hO
 by_cases g0 : qf f n d ∧ qf g p q
 ·
  have k0 : (oq f n d g p q) = 0 := Cb g0
  obtain ⟨y, hy⟩ : ∃ y, y = Ae (Wd.qR p q) (-1) := ⟨_, rfl⟩
  have HY := hide hy
  obtain ⟨a, ha⟩ : ∃ a, a = (Wd.qR n d) * y := ⟨_, rfl⟩
  obtain ⟨h, hh⟩ : ∃ h : Nat → Int, h = fun j => f j + g j * (-1) := ⟨_, rfl⟩
  have hr : t = gp h a := by rw [aa HR, ha, hy, hh]; unfold Fg; exact if_pos k0
  subst hr
  clear HR
  have HX := hide ha
  have Dk := hide (show 0 < a by rw [ha, hy]; exact Rat.mul_pos (Ps g0.1) (Xk (Ps g0.2) _))
  have HW := hide (show (∀ j, j < 7 → wrap64 ((-1) * g j) = g j * (-1)) ∧ (∀ j, j < 7 → wrap64 (f j + g j * (-1)) = h j) by
   rw [hh]
   have k := Nb (m := (-1)) g0.1.1 g0.2.1 om
   exact ⟨fun j hj => by rw [Int.mul_comm]; exact k.1 j hj, k.2⟩)
  have rf := hide g0
  clear hy ha hh g0
  go_upto_region 1 with fail
  refine Rg.bg 5 23 (Rg.pick [au [.k (eK f), iv n, iv d], au [.k (eK g), iv p, iv q], Sn 44 2 [.k (eK f), iv n, iv d, .k (eK g), iv p, iv q], Rg.ai (.int .i64 0), Rg.ai (.int .i64 0)]) (az w _ W0) dm [] kr rfl (Rg.df.pick ⟨ay _, ay _, Gf _ _ _, Rg.ae _, Rg.ae _, trivial⟩) (az.begin (aa HO))
   (ag (fw jb ru aF [] [.k (eK f), iv n, iv d] [])
   (ag (fw jb mf aF [] [.k (eK g), iv p, iv q] [])
   (ag (Cn (ps := [(0, .tmp 7), (1, .tmp 8)]) (gs := [[.k (eK f), iv n, iv d], [.k (eK g), iv p, iv q]]) Bh rfl az.step rfl (qj.cons (aT 0) rfl (qj.cons (aT 1) rfl qj.nil)) rfl)
   (ag (sc1 Tryz.func99 (aT 2) (fun W v0 hG h0 => k0 ▸ Ea h0))
   (ag (ib rfl (aT 3))
   Rg.bf))))) ?_
  intro v1 V1 hG1 hv1 hne1
  simp only [Rg.puts, Act.put, tA]
  have e3 : v1 3 = .int .i64 0 := hv1 3 de
  have e4 : v1 4 = .int .i64 0 := hv1 4 de
  simp only [e3, e4]
  have hO := hG1.1
  clear HO
  have HO := hide hO
  clear hO hG1 hv1 hne1
  try clear e3 e4
  go_upto_region 2 with fail
  refine Rg.bg 2 23 (Rg.pick [Rg.ai (.int .i64 0), Rg.ai (.bool false)]) (az w _ V1) dm [] kr rfl (Rg.df.pick ⟨Rg.ae _, Rg.ae _, trivial⟩) (az.begin (aa HO))
   (ag (cz rfl aF)
   (ag (mq rfl (aT 0) (Rg.jc _) rfl rfl)
   Rg.bf)) ?_
  intro v2 V2 hG2 hv2 hne2
  simp only [Rg.puts, Act.put, tA]
  have e1 : v2 1 = .bool false := hv2 1 de
  simp only [e1]
  have hO := hG2.1
  clear HO
  have HO := hide hO
  clear hO hG2 hv2 hne2
  try clear e1
  clear k0
  go_upto_region 4 with fail
  refine Rg.region 8 23 (Rg.pick [au [.k (eK f), iv n, iv d], au [.k (eK f), .r (Wd.qR n d)], au [.k (eK g), iv p, iv q], au [.k (eK g), .r (Wd.qR p q)], au [.k (eK h), .r a], jk [au [.k (eK (gp h a).f), iv (gp h a).n, iv (gp h a).d], Rg.ai (.int .i64 (gp h a).e)], au [.k (eK (gp h a).f), iv (gp h a).n, iv (gp h a).d], Rg.ai (.int .i64 (gp h a).e)]) (az w _ V2) dm [] kr kr rfl (Rg.df.pick ⟨ay _, ay _, ay _, ay _, ay _, il ⟨(ay _), (Rg.ae _), trivial⟩, ay _, Rg.ae _, trivial⟩) (az.start (aa HO))
   (ag (fw jb ru aF [] [.k (eK f), iv n, iv d] [])
   (ag (sc1 Tryz.func100 (aT 0) (fun W v0 hG h0 => Ut (aa rf).1.2.1 W _ h0))
   (ag (fw jb mf aF [] [.k (eK g), iv p, iv q] [])
   (ag (sc1 Tryz.func100 (aT 2) (fun W v0 hG h0 => Ut (aa rf).2.2.1 W _ h0))
   (ag (sc3 Tryz.func101 (aT 1) (aT 3) (Rg.jc _) (fun W v0 v1 v2 hG h0 h1 h2 => by cases h2; exact Rc (pp := fun j => g j * (-1)) (y2 := y) W _ h0 _ h1 (aa HW) (fun W v0 hb h0 => (aa HY) ▸ aez (K := 1) (b := 9) (Br (aa rf).2.2.1) (Da (aa rf).2) om om om W v0 h0) (fun W v0 v1 hb h0 h1 => (aa HX) ▸ Yy (K := (1 + 1) * 9 + 1) (uw.mono (Br (aa rf).1.2.1) om om) ((aa HY) ▸ uw.Ae (K := 1 + 1) (b := 9) (Br (aa rf).2.2.1) (Da (aa rf).2) om om) h0 h1)))
   (ag (sc1 Tryz.func102 (aT 4) (fun W v0 hG h0 => ahu (aa Dk) W _ h0))
   (ag (iy (ts := [au [.k (eK (gp h a).f), iv (gp h a).n, iv (gp h a).d], Rg.ai (.int .i64 (gp h a).e)]) rfl (aT 5) (of_decide_eq_true rfl) rfl)
   (ag (iy (ts := [au [.k (eK (gp h a).f), iv (gp h a).n, iv (gp h a).d], Rg.ai (.int .i64 (gp h a).e)]) rfl (aT 5) (of_decide_eq_true rfl) rfl)
   Rg.bf)))))))) ?_
  intro v3 V3 hG3 hv3 ja
  simp only [Rg.puts, Act.put, tA]
  have e7 : v3 7 = .int .i64 (gp h a).e := hv3 7 de
  simp only [e7]
  have hO := hG3.1
  refine ji hO 0 [] zU [.k (eK (gp h a).f), iv (gp h a).n, iv (gp h a).d] [] rfl oo rfl (show au [.k (eK (gp h a).f), iv (gp h a).n, iv (gp h a).d] V3 (v3 6) from hv3 6 de) rfl rfl rfl ?_
  intro Bi fu hk0
  replace hO := fu
  clear fu
  clear HO
  have HO := hide hO
  clear hO hG3 hv3 ja hk0
  try clear e7
  go_wp2_with fail
  exact oz Tryz.results36 uh rfl rfl (aa HO) me0 rfl rfl
 ·
  have k0 : (oq f n d g p q) = 1 := Jq g0
  have hr : t = ⟨z7, 0, 0, 1⟩ := by rw [aa HR]; unfold Fg; rw [k0]; exact if_neg de
  subst hr
  clear HR
  go_upto_region 1 with fail
  refine Rg.bg 5 23 (Rg.pick [au [.k (eK f), iv n, iv d], au [.k (eK g), iv p, iv q], Sn 44 2 [.k (eK f), iv n, iv d, .k (eK g), iv p, iv q], Rg.ai (.int .i64 1), Rg.ai (.int .i64 1)]) (az w _ W0) dm [] kr rfl (Rg.df.pick ⟨ay _, ay _, Gf _ _ _, Rg.ae _, Rg.ae _, trivial⟩) (az.begin (aa HO))
   (ag (fw jb ru aF [] [.k (eK f), iv n, iv d] [])
   (ag (fw jb mf aF [] [.k (eK g), iv p, iv q] [])
   (ag (Cn (ps := [(0, .tmp 7), (1, .tmp 8)]) (gs := [[.k (eK f), iv n, iv d], [.k (eK g), iv p, iv q]]) Bh rfl az.step rfl (qj.cons (aT 0) rfl (qj.cons (aT 1) rfl qj.nil)) rfl)
   (ag (sc1 Tryz.func99 (aT 2) (fun W v0 hG h0 => k0 ▸ Ea h0))
   (ag (ib rfl (aT 3))
   Rg.bf))))) ?_
  intro v1 V1 hG1 hv1 hne1
  simp only [Rg.puts, Act.put, tA]
  have e3 : v1 3 = .int .i64 1 := hv1 3 de
  have e4 : v1 4 = .int .i64 1 := hv1 4 de
  simp only [e3, e4]
  have hO := hG1.1
  clear HO
  have HO := hide hO
  clear hO hG1 hv1 hne1
  try clear e3 e4
  go_upto_region 2 with fail
  refine Rg.bg 2 23 (Rg.pick [Rg.ai (.int .i64 1), Rg.ai (.bool true)]) (az w _ V1) dm [] kr rfl (Rg.df.pick ⟨Rg.ae _, Rg.ae _, trivial⟩) (az.begin (aa HO))
   (ag (cz rfl aF)
   (ag (mq rfl (aT 0) (Rg.jc _) rfl rfl)
   Rg.bf)) ?_
  intro v2 V2 hG2 hv2 hne2
  simp only [Rg.puts, Act.put, tA]
  have e1 : v2 1 = .bool true := hv2 1 de
  simp only [e1]
  have hO := hG2.1
  clear HO
  have HO := hide hO
  clear hO hG2 hv2 hne2
  try clear e1
  go_upto_region 3 with fail
  refine Rg.bg 2 23 (Rg.pick [au [.k (eK z7), iv 0, iv 0], Rg.ai (.int .i64 1)]) (az w _ V2) dm [] kr rfl (Rg.df.pick ⟨ay _, Rg.ae _, trivial⟩) (az.begin (aa HO))
   (ag (Ik rfl rfl)
   (ag (cz rfl aF)
   Rg.bf)) ?_
  intro v3 V3 hG3 hv3 ja
  simp only [Rg.puts, Act.put, tA]
  have e1 : v3 1 = .int .i64 1 := hv3 1 de
  simp only [e1]
  have hO := hG3.1
  refine ji hO 0 [] zU [.k (eK z7), iv 0, iv 0] [] rfl oo rfl (show au [.k (eK z7), iv 0, iv 0] V3 (v3 0) from hv3 0 de) rfl rfl rfl ?_
  intro Bi fu hk0
  replace hO := fu
  clear fu
  clear HO
  have HO := hide hO
  clear hO hG3 hv3 ja hk0
  try clear e1
  go_wp2_with fail
  exact oz Tryz.results36 uh rfl rfl (aa HO) me0 rfl rfl
theorem bgx : uw ((1 + 1) * 9 + 1) (Rat.divInt 1 1) := bgw (K := (1 + 1) * 9) (Wd.Sz.of_le (by rw [fq]; omega) La om) om
theorem ari {f : Nat → Int} {n d m : Int} (w : World) (u0 : Value) (h0 : au [.k (eK f), iv n, iv d] w u0) :
  Calls Tryz.prog 38 #[u0, .int .i64 m] w (ik (Kv (Im f n d m)) w) := by
 obtain ⟨t, ht⟩ : ∃ t, t = Im f n d m := ⟨_, rfl⟩
 rw [← ht]
 have HR := hide ht
 clear ht
 have hu0 := pg h0
 subst hu0
 go_enter Tryz.func38, Tryz.ntmps38
 go_upto_region 1 with fail
 have hO := (Own.push (T := 44) (ls := zU) (Own.push (T := 44) (ls := [.k (eK f), iv n, iv d]) (Own.nil w) (eu.e (eu.v (iw _) (eu.v (iw _) rfl))) (w.heap.size) rfl) (eu.below (by repeat (first | exact Below.refl _ _ | refine gm ?_ _)) (eu.vs w [.int .i64 0, .int .i64 0, .int .i64 0, .int .i64 0, .int .i64 0, .int .i64 0, .int .i64 0, .int .i64 0, .int .i64 0] rfl)) (w.heap.size + 1) (by simp only [World.size_alloc]))
 generalize (w.alloc (.cells #[.int .i64 (f 0), .int .i64 (f 1), .int .i64 (f 2), .int .i64 (f 3), .int .i64 (f 4), .int .i64 (f 5), .int .i64 (f 6), .int .i64 n, .int .i64 d] 44)).alloc (.cells #[.int .i64 0, .int .i64 0, .int .i64 0, .int .i64 0, .int .i64 0, .int .i64 0, .int .i64 0, .int .i64 0, .int .i64 0] 44) = W0 at *
 have HO := hide hO
 clear hO
 by_cases g0 : qf f n d
 ·
  by_cases g1 : m < -9
  ·
   have k0 : xy f n d = 0 := if_pos g0
   have k1 : decide (m < -9) = true := decide_eq_true g1
   have hr : t = ⟨z7, 0, 0, 1⟩ := by rw [aa HR]; unfold Im; rw [if_pos g0, if_neg om]
   subst hr
   clear HR
   go_upto_region 1 with fail
   refine Rg.bg 3 28 (Rg.pick [au [.k (eK f), iv n, iv d], Rg.ai (.int .i64 0), Rg.ai (.int .i64 0)]) (az w _ W0) dm [] kr rfl (Rg.df.pick ⟨ay _, Rg.ae _, Rg.ae _, trivial⟩) (az.begin (aa HO))
    (ag (fw jb mf aF [] [.k (eK f), iv n, iv d] [])
    (ag (sc1 Tryz.func31 (aT 0) (fun W v0 hG h0 => k0 ▸ Dg W _ h0))
    (ag (ib rfl (aT 1))
    Rg.bf))) ?_
   intro v1 V1 hG1 hv1 hne1
   simp only [Rg.puts, Act.put, tA]
   have e1 : v1 1 = .int .i64 0 := hv1 1 de
   have e2 : v1 2 = .int .i64 0 := hv1 2 de
   simp only [e1, e2]
   have hO := hG1.1
   clear HO
   have HO := hide hO
   clear hO hG1 hv1 hne1
   try clear e1 e2
   go_upto_region 2 with fail
   refine Rg.bg 2 28 (Rg.pick [Rg.ai (.int .i64 0), Rg.ai (.bool false)]) (az w _ V1) dm [] kr rfl (Rg.df.pick ⟨Rg.ae _, Rg.ae _, trivial⟩) (az.begin (aa HO))
    (ag (cz rfl aF)
    (ag (mq rfl (aT 0) (Rg.jc _) rfl rfl)
    Rg.bf)) ?_
   intro v2 V2 hG2 hv2 hne2
   simp only [Rg.puts, Act.put, tA]
   have e1 : v2 1 = .bool false := hv2 1 de
   simp only [e1]
   have hO := hG2.1
   clear HO
   have HO := hide hO
   clear hO hG2 hv2 hne2
   try clear e1
   go_upto_region 4 with fail
   refine Rg.bg 6 28 (Rg.pick [Rg.ai (.int .i64 m), Rg.ai (.bool true), Rg.ai (.bool true), Rg.ai undef, Rg.ai undef, Rg.ai (.bool true)]) (az w _ V2) dm [] kr rfl (Rg.df.pick ⟨Rg.ae _, Rg.ae _, Rg.ae _, Rg.ae _, Rg.ae _, Rg.ae _, trivial⟩) (az.begin (aa HO))
    (ag (cz rfl aF)
    (ag (ry rfl (aT 0) (Rg.jc _) rfl k1)
    (ag (cz rfl (aT 1))
    (Rg.cu (Rg.ny (d := 15) rfl kr rfl rfl nz rfl rfl)
    (Rg.cu (Rg.ny (d := 15) rfl kr rfl rfl nz rfl rfl)
    (ag (xz rfl (aT 2) (Rg.jc _))
    Rg.bf)))))) ?_
   intro v3 V3 hG3 hv3 ja
   simp only [Rg.puts, Act.put, tA]
   have e5 : v3 5 = .bool true := hv3 5 de
   simp only [e5]
   have hO := hG3.1
   clear HO
   have HO := hide hO
   clear hO hG3 hv3 ja
   try clear e5
   go_upto_region 5 with fail
   refine Rg.bg 1 28 (Rg.pick [au [.k (eK z7), iv 0, iv 0]]) (az w _ V3) dm [] kr rfl (Rg.df.pick ⟨ay _, trivial⟩) (az.begin (aa HO))
    (ag (Ik rfl rfl)
    Rg.bf) ?_
   intro v4 V4 hG4 hv4 mo
   simp only [Rg.puts, Act.put, tA]
   have hO := hG4.1
   refine ji hO 0 [] zU [.k (eK z7), iv 0, iv 0] [] rfl oo rfl (show au [.k (eK z7), iv 0, iv 0] V4 (v4 0) from hv4 0 de) rfl rfl rfl ?_
   intro Ai fu hk0
   replace hO := fu
   clear fu
   clear HO
   have HO := hide hO
   clear hO hG4 hv4 mo hk0
   go_wp2_with fail
   exact oz Tryz.results38 uh rfl rfl (aa HO) me0 rfl rfl
  ·
   by_cases g2 : 9 < m
   ·
    have k0 : xy f n d = 0 := if_pos g0
    have k1 : decide (m < -9) = false := decide_eq_false g1
    have k2 : decide (9 < m) = true := decide_eq_true g2
    have hr : t = ⟨z7, 0, 0, 1⟩ := by rw [aa HR]; unfold Im; rw [if_pos g0, if_neg om]
    subst hr
    clear HR
    go_upto_region 1 with fail
    refine Rg.bg 3 28 (Rg.pick [au [.k (eK f), iv n, iv d], Rg.ai (.int .i64 0), Rg.ai (.int .i64 0)]) (az w _ W0) dm [] kr rfl (Rg.df.pick ⟨ay _, Rg.ae _, Rg.ae _, trivial⟩) (az.begin (aa HO))
     (ag (fw jb mf aF [] [.k (eK f), iv n, iv d] [])
     (ag (sc1 Tryz.func31 (aT 0) (fun W v0 hG h0 => k0 ▸ Dg W _ h0))
     (ag (ib rfl (aT 1))
     Rg.bf))) ?_
    intro v1 V1 hG1 hv1 hne1
    simp only [Rg.puts, Act.put, tA]
    have e1 : v1 1 = .int .i64 0 := hv1 1 de
    have e2 : v1 2 = .int .i64 0 := hv1 2 de
    simp only [e1, e2]
    have hO := hG1.1
    clear HO
    have HO := hide hO
    clear hO hG1 hv1 hne1
    try clear e1 e2
    go_upto_region 2 with fail
    refine Rg.bg 2 28 (Rg.pick [Rg.ai (.int .i64 0), Rg.ai (.bool false)]) (az w _ V1) dm [] kr rfl (Rg.df.pick ⟨Rg.ae _, Rg.ae _, trivial⟩) (az.begin (aa HO))
     (ag (cz rfl aF)
     (ag (mq rfl (aT 0) (Rg.jc _) rfl rfl)
     Rg.bf)) ?_
    intro v2 V2 hG2 hv2 hne2
    simp only [Rg.puts, Act.put, tA]
    have e1 : v2 1 = .bool false := hv2 1 de
    simp only [e1]
    have hO := hG2.1
    clear HO
    have HO := hide hO
    clear hO hG2 hv2 hne2
    try clear e1
    go_upto_region 4 with fail
    refine Rg.bg 6 28 (Rg.pick [Rg.ai (.int .i64 m), Rg.ai (.bool false), Rg.ai (.bool false), Rg.ai (.int .i64 m), Rg.ai (.bool true), Rg.ai (.bool true)]) (az w _ V2) dm [] kr rfl (Rg.df.pick ⟨Rg.ae _, Rg.ae _, Rg.ae _, Rg.ae _, Rg.ae _, Rg.ae _, trivial⟩) (az.begin (aa HO))
     (ag (cz rfl aF)
     (ag (ry rfl (aT 0) (Rg.jc _) rfl k1)
     (ag (cz rfl (aT 1))
     (Rg.cu (Rg.ek (d := 15) rfl kr rfl (cz rfl aF))
     (Rg.cu (Rg.ek (d := 15) rfl kr rfl (Jv rfl (aT 3) (Rg.jc _) rfl k2))
     (ag (qb rfl (aT 2) (aT 4))
     Rg.bf)))))) ?_
    intro v3 V3 hG3 hv3 ja
    simp only [Rg.puts, Act.put, tA]
    have e5 : v3 5 = .bool true := hv3 5 de
    simp only [e5]
    have hO := hG3.1
    clear HO
    have HO := hide hO
    clear hO hG3 hv3 ja
    try clear e5
    go_upto_region 5 with fail
    refine Rg.bg 1 28 (Rg.pick [au [.k (eK z7), iv 0, iv 0]]) (az w _ V3) dm [] kr rfl (Rg.df.pick ⟨ay _, trivial⟩) (az.begin (aa HO))
     (ag (Ik rfl rfl)
     Rg.bf) ?_
    intro v4 V4 hG4 hv4 mo
    simp only [Rg.puts, Act.put, tA]
    have hO := hG4.1
    refine ji hO 0 [] zU [.k (eK z7), iv 0, iv 0] [] rfl oo rfl (show au [.k (eK z7), iv 0, iv 0] V4 (v4 0) from hv4 0 de) rfl rfl rfl ?_
    intro Ai fu hk0
    replace hO := fu
    clear fu
    clear HO
    have HO := hide hO
    clear hO hG4 hv4 mo hk0
    go_wp2_with fail
    exact oz Tryz.results38 uh rfl rfl (aa HO) me0 rfl rfl
   ·
    have k0 : xy f n d = 0 := if_pos g0
    have k1 : decide (m < -9) = false := decide_eq_false g1
    have k2 : decide (9 < m) = false := decide_eq_false g2
    obtain ⟨y, hy⟩ : ∃ y, y = Ae (Wd.qR n d) m := ⟨_, rfl⟩
    obtain ⟨h, hh⟩ : ∃ h : Nat → Int, h = fun j => f j * m := ⟨_, rfl⟩
    have hr : t = gp h y := by rw [aa HR, hy, hh]; unfold Im; rw [if_pos g0, if_pos om]
    subst hr
    clear HR
    have HY := hide hy
    have Dk := hide (show 0 < y by rw [hy]; exact Xk (Ps g0) _)
    have HM := hide (show -((9 : Nat) : Int) ≤ m ∧ m ≤ (9 : Nat) by omega)
    have HW := hide (show (∀ j, j < 7 → wrap64 (m * f j) = f j * m) ∧ (∀ j, j < 7 → wrap64 (z7 j + f j * m) = h j) by
     rw [hh]
     have k := Nb (m := m) g0.1 g0.1 om
     exact ⟨fun j hj => by rw [Int.mul_comm]; exact k.1 j hj, fun j hj => by rw [show z7 j + f j * m = f j * m from Int.zero_add _]; exact k.1 j hj⟩)
    have rf := hide g0
    clear hy hh g0
    go_upto_region 1 with fail
    refine Rg.bg 3 28 (Rg.pick [au [.k (eK f), iv n, iv d], Rg.ai (.int .i64 0), Rg.ai (.int .i64 0)]) (az w _ W0) dm [] kr rfl (Rg.df.pick ⟨ay _, Rg.ae _, Rg.ae _, trivial⟩) (az.begin (aa HO))
     (ag (fw jb mf aF [] [.k (eK f), iv n, iv d] [])
     (ag (sc1 Tryz.func31 (aT 0) (fun W v0 hG h0 => k0 ▸ Dg W _ h0))
     (ag (ib rfl (aT 1))
     Rg.bf))) ?_
    intro v1 V1 hG1 hv1 hne1
    simp only [Rg.puts, Act.put, tA]
    have e1 : v1 1 = .int .i64 0 := hv1 1 de
    have e2 : v1 2 = .int .i64 0 := hv1 2 de
    simp only [e1, e2]
    have hO := hG1.1
    clear HO
    have HO := hide hO
    clear hO hG1 hv1 hne1
    try clear e1 e2
    go_upto_region 2 with fail
    refine Rg.bg 2 28 (Rg.pick [Rg.ai (.int .i64 0), Rg.ai (.bool false)]) (az w _ V1) dm [] kr rfl (Rg.df.pick ⟨Rg.ae _, Rg.ae _, trivial⟩) (az.begin (aa HO))
     (ag (cz rfl aF)
     (ag (mq rfl (aT 0) (Rg.jc _) rfl rfl)
     Rg.bf)) ?_
    intro v2 V2 hG2 hv2 hne2
    simp only [Rg.puts, Act.put, tA]
    have e1 : v2 1 = .bool false := hv2 1 de
    simp only [e1]
    have hO := hG2.1
    clear HO
    have HO := hide hO
    clear hO hG2 hv2 hne2
    try clear e1
    go_upto_region 4 with fail
    refine Rg.bg 6 28 (Rg.pick [Rg.ai (.int .i64 m), Rg.ai (.bool false), Rg.ai (.bool false), Rg.ai (.int .i64 m), Rg.ai (.bool false), Rg.ai (.bool false)]) (az w _ V2) dm [] kr rfl (Rg.df.pick ⟨Rg.ae _, Rg.ae _, Rg.ae _, Rg.ae _, Rg.ae _, Rg.ae _, trivial⟩) (az.begin (aa HO))
     (ag (cz rfl aF)
     (ag (ry rfl (aT 0) (Rg.jc _) rfl k1)
     (ag (cz rfl (aT 1))
     (Rg.cu (Rg.ek (d := 15) rfl kr rfl (cz rfl aF))
     (Rg.cu (Rg.ek (d := 15) rfl kr rfl (Jv rfl (aT 3) (Rg.jc _) rfl k2))
     (ag (qb rfl (aT 2) (aT 4))
     Rg.bf)))))) ?_
    intro v3 V3 hG3 hv3 ja
    simp only [Rg.puts, Act.put, tA]
    have e5 : v3 5 = .bool false := hv3 5 de
    simp only [e5]
    have hO := hG3.1
    clear HO
    have HO := hide hO
    clear hO hG3 hv3 ja
    try clear e5
    clear k0 k1 k2 g1 g2
    go_upto_region 6 with fail
    refine Rg.region 8 28 (Rg.pick [au [.k (eK z7), .r (Rat.divInt 1 1)], au [.k (eK f), iv n, iv d], au [.k (eK f), .r (Wd.qR n d)], Rg.ai (.int .i64 m), au [.k (eK h), .r y], jk [au [.k (eK (gp h y).f), iv (gp h y).n, iv (gp h y).d], Rg.ai (.int .i64 (gp h y).e)], au [.k (eK (gp h y).f), iv (gp h y).n, iv (gp h y).d], Rg.ai (.int .i64 (gp h y).e)]) (az w _ V3) dm [] kr kr rfl (Rg.df.pick ⟨ay _, ay _, ay _, Rg.ae _, ay _, il ⟨(ay _), (Rg.ae _), trivial⟩, ay _, Rg.ae _, trivial⟩) (az.start (aa HO))
     (ag (Pk Tryz.func106 kr rfl az.step  (fun W  hG  => bfj W))
     (ag (fw jb mf aF [] [.k (eK f), iv n, iv d] [])
     (ag (sc1 Tryz.func100 (aT 1) (fun W v0 hG h0 => Ut (aa rf).2.1 W _ h0))
     (ag (cz rfl aF)
     (ag (sc3 Tryz.func101 (aT 0) (aT 2) (aT 3) (fun W v0 v1 v2 hG h0 h1 h2 => by cases h2; exact Rc (pp := fun j => f j * m) (y2 := y) W _ h0 _ h1 (aa HW) (fun W v0 hb h0 => (aa HY) ▸ aez (K := 1) (b := 9) (Br (aa rf).2.1) (Da (aa rf)) (aa HM) om om W v0 h0) (fun W v0 v1 hb h0 h1 => atr (Rat.one_mul y) (Yy (K := (1 + 1) * 9 + 1) bgx ((aa HY) ▸ uw.Ae (K := 1 + 1) (b := 9) (Br (aa rf).2.1) (Da (aa rf)) (aa HM) om) h0 h1))))
     (ag (sc1 Tryz.func102 (aT 4) (fun W v0 hG h0 => ahu (aa Dk) W _ h0))
     (ag (iy (ts := [au [.k (eK (gp h y).f), iv (gp h y).n, iv (gp h y).d], Rg.ai (.int .i64 (gp h y).e)]) rfl (aT 5) (of_decide_eq_true rfl) rfl)
     (ag (iy (ts := [au [.k (eK (gp h y).f), iv (gp h y).n, iv (gp h y).d], Rg.ai (.int .i64 (gp h y).e)]) rfl (aT 5) (of_decide_eq_true rfl) rfl)
     Rg.bf)))))))) ?_
    intro v4 V4 hG4 hv4 mo
    simp only [Rg.puts, Act.put, tA]
    have e7 : v4 7 = .int .i64 (gp h y).e := hv4 7 de
    simp only [e7]
    have hO := hG4.1
    refine ji hO 0 [] zU [.k (eK (gp h y).f), iv (gp h y).n, iv (gp h y).d] [] rfl oo rfl (show au [.k (eK (gp h y).f), iv (gp h y).n, iv (gp h y).d] V4 (v4 6) from hv4 6 de) rfl rfl rfl ?_
    intro Ai fu hk0
    replace hO := fu
    clear fu
    clear HO
    have HO := hide hO
    clear hO hG4 hv4 mo hk0
    try clear e7
    go_wp2_with fail
    exact oz Tryz.results38 uh rfl rfl (aa HO) me0 rfl rfl
 ·
  have k0 : xy f n d = 1 := if_neg g0
  have hr : t = ⟨z7, 0, 0, 1⟩ := by rw [aa HR]; exact if_neg g0
  subst hr
  clear HR
  go_upto_region 1 with fail
  refine Rg.bg 3 28 (Rg.pick [au [.k (eK f), iv n, iv d], Rg.ai (.int .i64 1), Rg.ai (.int .i64 1)]) (az w _ W0) dm [] kr rfl (Rg.df.pick ⟨ay _, Rg.ae _, Rg.ae _, trivial⟩) (az.begin (aa HO))
   (ag (fw jb mf aF [] [.k (eK f), iv n, iv d] [])
   (ag (sc1 Tryz.func31 (aT 0) (fun W v0 hG h0 => k0 ▸ Dg W _ h0))
   (ag (ib rfl (aT 1))
   Rg.bf))) ?_
  intro v1 V1 hG1 hv1 hne1
  simp only [Rg.puts, Act.put, tA]
  have e1 : v1 1 = .int .i64 1 := hv1 1 de
  have e2 : v1 2 = .int .i64 1 := hv1 2 de
  simp only [e1, e2]
  have hO := hG1.1
  clear HO
  have HO := hide hO
  clear hO hG1 hv1 hne1
  try clear e1 e2
  go_upto_region 2 with fail
  refine Rg.bg 2 28 (Rg.pick [Rg.ai (.int .i64 1), Rg.ai (.bool true)]) (az w _ V1) dm [] kr rfl (Rg.df.pick ⟨Rg.ae _, Rg.ae _, trivial⟩) (az.begin (aa HO))
   (ag (cz rfl aF)
   (ag (mq rfl (aT 0) (Rg.jc _) rfl rfl)
   Rg.bf)) ?_
  intro v2 V2 hG2 hv2 hne2
  simp only [Rg.puts, Act.put, tA]
  have e1 : v2 1 = .bool true := hv2 1 de
  simp only [e1]
  have hO := hG2.1
  clear HO
  have HO := hide hO
  clear hO hG2 hv2 hne2
  try clear e1
  go_upto_region 3 with fail
  refine Rg.bg 2 28 (Rg.pick [au [.k (eK z7), iv 0, iv 0], Rg.ai (.int .i64 1)]) (az w _ V2) dm [] kr rfl (Rg.df.pick ⟨ay _, Rg.ae _, trivial⟩) (az.begin (aa HO))
   (ag (Ik rfl rfl)
   (ag (cz rfl aF)
   Rg.bf)) ?_
  intro v3 V3 hG3 hv3 ja
  simp only [Rg.puts, Act.put, tA]
  have e1 : v3 1 = .int .i64 1 := hv3 1 de
  simp only [e1]
  have hO := hG3.1
  refine ji hO 0 [] zU [.k (eK z7), iv 0, iv 0] [] rfl oo rfl (show au [.k (eK z7), iv 0, iv 0] V3 (v3 0) from hv3 0 de) rfl rfl rfl ?_
  intro Bi fu hk0
  replace hO := fu
  clear fu
  clear HO
  have HO := hide hO
  clear hO hG3 hv3 ja hk0
  try clear e1
  go_wp2_with fail
  exact oz Tryz.results38 uh rfl rfl (aa HO) me0 rfl rfl
theorem alm {f g : Nat → Int} {n d p q : Int} (b : Bool) (e : Int) (w : World) (u0 : Value) (h0 : au [.k (eK f), iv n, iv d] w u0) (u1 : Value) (h1 : au [.k (eK g), iv p, iv q] w u1)
  (hr : (¬ (qf f n d ∧ qf g p q) → false = b ∧ 1 = e) ∧ ((qf f n d ∧ qf g p q) → decide (uy f g) = b ∧ 0 = e)) :
  Calls Tryz.prog 40 #[u0, u1] w (ik (jk [Rg.ai (.bool b), Rg.ai (.int .i64 e)]) w) := by
 have HR := hide hr
 clear hr
 have hu0 := pg h0
 subst hu0
 have hu1 := pg h1
 subst hu1
 go_enter Tryz.func40, Tryz.ntmps40
 go_upto_region 1 with fail
 have hO := (Own.push (T := 44) (ls := [.k (eK g), iv p, iv q]) (Own.push (T := 44) (ls := [.k (eK f), iv n, iv d]) (Own.nil w) (eu.e (eu.v (iw _) (eu.v (iw _) rfl))) (w.heap.size) rfl) (eu.below (by repeat (first | exact Below.refl _ _ | refine gm ?_ _)) (eu.e (eu.v (iw _) (eu.v (iw _) rfl)))) (w.heap.size + 1) (by simp only [World.size_alloc]))
 generalize (w.alloc (.cells #[.int .i64 (f 0), .int .i64 (f 1), .int .i64 (f 2), .int .i64 (f 3), .int .i64 (f 4), .int .i64 (f 5), .int .i64 (f 6), .int .i64 n, .int .i64 d] 44)).alloc (.cells #[.int .i64 (g 0), .int .i64 (g 1), .int .i64 (g 2), .int .i64 (g 3), .int .i64 (g 4), .int .i64 (g 5), .int .i64 (g 6), .int .i64 p, .int .i64 q] 44) = W0 at *
 have HO := hide hO
 clear hO
 by_cases g0 : qf f n d ∧ qf g p q
 ·
  have k0 : (oq f n d g p q) = 0 := Cb g0
  obtain ⟨hb, rfl⟩ := (aa HR).2 g0
  go_upto_region 1 with fail
  refine Rg.bg 5 19 (Rg.pick [au [.k (eK f), iv n, iv d], au [.k (eK g), iv p, iv q], Sn 44 2 [.k (eK f), iv n, iv d, .k (eK g), iv p, iv q], Rg.ai (.int .i64 0), Rg.ai (.int .i64 0)]) (az w _ W0) dm [] kr rfl (Rg.df.pick ⟨ay _, ay _, Gf _ _ _, Rg.ae _, Rg.ae _, trivial⟩) (az.begin (aa HO))
   (ag (fw jb mf aF [] [.k (eK f), iv n, iv d] [])
   (ag (fw jb me0 aF [] [.k (eK g), iv p, iv q] [])
   (ag (Cn (ps := [(0, .tmp 7), (1, .tmp 8)]) (gs := [[.k (eK f), iv n, iv d], [.k (eK g), iv p, iv q]]) Bh rfl az.step rfl (qj.cons (aT 0) rfl (qj.cons (aT 1) rfl qj.nil)) rfl)
   (ag (sc1 Tryz.func99 (aT 2) (fun W v0 hG h0 => k0 ▸ Ea h0))
   (ag (ib rfl (aT 3))
   Rg.bf))))) ?_
  intro v1 V1 hG1 hv1 hne1
  simp only [Rg.puts, Act.put, tA]
  have e3 : v1 3 = .int .i64 0 := hv1 3 de
  have e4 : v1 4 = .int .i64 0 := hv1 4 de
  simp only [e3, e4]
  have hO := hG1.1
  clear HO
  have HO := hide hO
  clear hO hG1 hv1 hne1
  try clear e3 e4
  go_upto_region 2 with fail
  refine Rg.bg 2 19 (Rg.pick [Rg.ai (.int .i64 0), Rg.ai (.bool false)]) (az w _ V1) dm [] kr rfl (Rg.df.pick ⟨Rg.ae _, Rg.ae _, trivial⟩) (az.begin (aa HO))
   (ag (cz rfl aF)
   (ag (mq rfl (aT 0) (Rg.jc _) rfl rfl)
   Rg.bf)) ?_
  intro v2 V2 hG2 hv2 hne2
  simp only [Rg.puts, Act.put, tA]
  have e1 : v2 1 = .bool false := hv2 1 de
  simp only [e1]
  have hO := hG2.1
  clear HO
  have HO := hide hO
  clear hO hG2 hv2 hne2
  try clear e1
  go_upto_region 4 with fail
  refine Rg.bg 7 19 (Rg.pick [Rg.ai (.pointer (some ⟨w.heap.size, 0, none⟩)), Rg.ai (aV f), Rg.ai (.pointer (some ⟨w.heap.size + 1, 0, none⟩)), Rg.ai (aV g), Rg.ai (.bool b), Rg.ai (.bool b), Rg.ai (.int .i64 0)]) (az w _ V2) dm [] kr rfl (Rg.df.pick ⟨Rg.ae _, Rg.ae _, Rg.ae _, Rg.ae _, Rg.ae _, Rg.ae _, Rg.ae _, trivial⟩) (az.begin (aa HO))
   (ag (sw (b := w.heap.size) (off := 0) rfl aF rfl rfl)
   (ag (Ls (f := f) xw mf rfl (aT 0) rfl)
   (ag (sw (b := w.heap.size + 1) (off := 0) rfl aF rfl rfl)
   (ag (Ls (f := g) xw me0 rfl (aT 2) rfl)
   (ag (aos rfl (aT 1) (aT 3) rfl hb)
   (ag (ib rfl (aT 4))
   (ag (ib rfl (Rg.jc _))
   Rg.bf))))))) ?_
  intro v3 V3 hG3 hv3 ja
  simp only [Rg.puts, Act.put, tA]
  have e4 : v3 4 = .bool b := hv3 4 de
  have e5 : v3 5 = .bool b := hv3 5 de
  have e6 : v3 6 = .int .i64 0 := hv3 6 de
  simp only [e4, e5, e6]
  have hO := hG3.1
  clear HO
  have HO := hide hO
  clear hO hG3 hv3 ja
  try clear e4 e5 e6
  go_wp2_with fail
  exact Zv Tryz.results40 rfl rfl (aa HO).bel rfl
 ·
  have k0 : (oq f n d g p q) = 1 := Jq g0
  obtain ⟨rfl, rfl⟩ := (aa HR).1 g0
  go_upto_region 1 with fail
  refine Rg.bg 5 19 (Rg.pick [au [.k (eK f), iv n, iv d], au [.k (eK g), iv p, iv q], Sn 44 2 [.k (eK f), iv n, iv d, .k (eK g), iv p, iv q], Rg.ai (.int .i64 1), Rg.ai (.int .i64 1)]) (az w _ W0) dm [] kr rfl (Rg.df.pick ⟨ay _, ay _, Gf _ _ _, Rg.ae _, Rg.ae _, trivial⟩) (az.begin (aa HO))
   (ag (fw jb mf aF [] [.k (eK f), iv n, iv d] [])
   (ag (fw jb me0 aF [] [.k (eK g), iv p, iv q] [])
   (ag (Cn (ps := [(0, .tmp 7), (1, .tmp 8)]) (gs := [[.k (eK f), iv n, iv d], [.k (eK g), iv p, iv q]]) Bh rfl az.step rfl (qj.cons (aT 0) rfl (qj.cons (aT 1) rfl qj.nil)) rfl)
   (ag (sc1 Tryz.func99 (aT 2) (fun W v0 hG h0 => k0 ▸ Ea h0))
   (ag (ib rfl (aT 3))
   Rg.bf))))) ?_
  intro v1 V1 hG1 hv1 hne1
  simp only [Rg.puts, Act.put, tA]
  have e3 : v1 3 = .int .i64 1 := hv1 3 de
  have e4 : v1 4 = .int .i64 1 := hv1 4 de
  simp only [e3, e4]
  have hO := hG1.1
  clear HO
  have HO := hide hO
  clear hO hG1 hv1 hne1
  try clear e3 e4
  go_upto_region 2 with fail
  refine Rg.bg 2 19 (Rg.pick [Rg.ai (.int .i64 1), Rg.ai (.bool true)]) (az w _ V1) dm [] kr rfl (Rg.df.pick ⟨Rg.ae _, Rg.ae _, trivial⟩) (az.begin (aa HO))
   (ag (cz rfl aF)
   (ag (mq rfl (aT 0) (Rg.jc _) rfl rfl)
   Rg.bf)) ?_
  intro v2 V2 hG2 hv2 hne2
  simp only [Rg.puts, Act.put, tA]
  have e1 : v2 1 = .bool true := hv2 1 de
  simp only [e1]
  have hO := hG2.1
  clear HO
  have HO := hide hO
  clear hO hG2 hv2 hne2
  try clear e1
  go_upto_region 3 with fail
  refine Rg.bg 3 19 (Rg.pick [Rg.ai (.int .i64 1), Rg.ai (.bool false), Rg.ai (.int .i64 1)]) (az w _ V2) dm [] kr rfl (Rg.df.pick ⟨Rg.ae _, Rg.ae _, Rg.ae _, trivial⟩) (az.begin (aa HO))
   (ag (cz rfl aF)
   (ag (ib rfl (Rg.jc _))
   (ag (ib rfl (aT 0))
   Rg.bf))) ?_
  intro v3 V3 hG3 hv3 ja
  simp only [Rg.puts, Act.put, tA]
  have e0 : v3 0 = .int .i64 1 := hv3 0 de
  have e1 : v3 1 = .bool false := hv3 1 de
  have e2 : v3 2 = .int .i64 1 := hv3 2 de
  simp only [e0, e1, e2]
  have hO := hG3.1
  clear HO
  have HO := hide hO
  clear hO hG3 hv3 ja
  try clear e0 e1 e2
  go_wp2_with fail
  exact Zv Tryz.results40 rfl rfl (aa HO).bel rfl
theorem bao {f g : Nat → Int} {n d p q : Int} (w : World) (u0 : Value) (h0 : au [.k (eK f), iv n, iv d] w u0) (u1 : Value) (h1 : au [.k (eK g), iv p, iv q] w u1) : Calls Tryz.prog 40 #[u0, u1] w (ik (jk [Rg.ai (.bool (Oe f n d g p q)), Rg.ai (.int .i64 (oq f n d g p q))]) w) :=
 alm _ _ w u0 h0 u1 h1 Ic
end Sb

end Go.Proofs.YtfgeaakhlcaibaaGreatDoor
