/- Texts beneath a law of layer 1. -/
import Derived.Test.YtfgeaakhlcaibaaGreatDoorDa16
import Derived.Deep.QuietTactic
import Derived.BigQuiet
set_option maxRecDepth 100000
set_option maxHeartbeats 16000000
namespace Go.Proofs.YtfgeaakhlcaibaaGreatDoor
open Go.RowKit

namespace Sb
def Qc : World → Value → Prop := fun W v => ∃ b, v = .slice (some ⟨b, 0, none⟩) 7 7 ∧ b < W.heap.size ∧ ∀ j, j < 7 → W.cell? ⟨b, j, none⟩ = some (.string (tx (bn j)))
theorem Yr : Rg.Da dz Qc := by
 rintro w w' v hb ⟨b, rfl, h1, h2⟩
 exact ⟨b, rfl, Nat.lt_of_lt_of_le h1 hb.size, fun j hj => (hb.cell (p := ⟨b, j, none⟩) h1).trans (h2 j hj)⟩
theorem apu {ρ : Operand → Value} {w : World} {d : Option Tmp} {ty : TypeId} {pos : String} {af : Array Edge} {gd : Option (Nat × Bool)} (hc : ∀ v, ρ (.const v) = v) :
  (execOp ρ { dst := d, op := .buildSlice 175 7 #[(0, .const (.string ⟨#[109]⟩)), (1, .const (.string ⟨#[107, 103]⟩)), (2, .const (.string ⟨#[115]⟩)), (3, .const (.string ⟨#[65]⟩)), (4, .const (.string ⟨#[75]⟩)), (5, .const (.string ⟨#[109, 111, 108]⟩)), (6, .const (.string ⟨#[99, 100]⟩))], type := ty, pos := pos, after := af, guard := gd }).run Tryz.prog w = .ok (.value (.slice (some ⟨w.heap.size, 0, none⟩) 7 7)) (w.alloc (.cells #[.string ⟨#[109]⟩, .string ⟨#[107, 103]⟩, .string ⟨#[115]⟩, .string ⟨#[65]⟩, .string ⟨#[75]⟩, .string ⟨#[109, 111, 108]⟩, .string ⟨#[99, 100]⟩] 9)) := by
 simp only [execOp]
 simp [go_sem, hc]
 try rfl
theorem ban {Q : Exit → Act → World → Prop} {l : List Oper} {n : Nat} {T : Nat → World → Value → Prop} {G : World → Prop} {al : List Nat} {a0 : Act} {k d : Nat} {ty : TypeId} {pos : String} {af : Array Edge} {gd : Option (Nat × Bool)} (hal : al.contains k = false) (Fx : ∀ W W', G W → dz W W' → G W') (hT : T k = Qc) :
  Rg.Step Tryz.prog Q l n T G dz al a0 k { dst := some d, op := .buildSlice 175 7 #[(0, .const (.string ⟨#[109]⟩)), (1, .const (.string ⟨#[107, 103]⟩)), (2, .const (.string ⟨#[115]⟩)), (3, .const (.string ⟨#[65]⟩)), (4, .const (.string ⟨#[75]⟩)), (5, .const (.string ⟨#[109, 111, 108]⟩)), (6, .const (.string ⟨#[99, 100]⟩))], type := ty, pos := pos, after := af, guard := gd } := by
 intro a w hG hO hN
 have hb : dz w (w.alloc (.cells #[.string ⟨#[109]⟩, .string ⟨#[107, 103]⟩, .string ⟨#[115]⟩, .string ⟨#[65]⟩, .string ⟨#[75]⟩, .string ⟨#[109, 111, 108]⟩, .string ⟨#[99, 100]⟩] 9)) := ig (Below.refl _ _) _
 have hN : Qc (w.alloc (.cells #[.string ⟨#[109]⟩, .string ⟨#[107, 103]⟩, .string ⟨#[115]⟩, .string ⟨#[65]⟩, .string ⟨#[75]⟩, .string ⟨#[109, 111, 108]⟩, .string ⟨#[99, 100]⟩] 9)) (.slice (some ⟨w.heap.size, 0, none⟩) 7 7) := ⟨w.heap.size, rfl, lt_of_block (heap_alloc_new w _), fun j hj => by
  have h1 := ag (heap_alloc_new w (.cells #[.string ⟨#[109]⟩, .string ⟨#[107, 103]⟩, .string ⟨#[115]⟩, .string ⟨#[65]⟩, .string ⟨#[75]⟩, .string ⟨#[109, 111, 108]⟩, .string ⟨#[99, 100]⟩] 9)) j
  rw [h1]
  have hc : j = 0 ∨ j = 1 ∨ j = 2 ∨ j = 3 ∨ j = 4 ∨ j = 5 ∨ j = 6 := by omega
  rcases hc with rfl | rfl | rfl | rfl | rfl | rfl | rfl <;> rfl⟩
 exact iq (P := Tryz.prog) (apu (fun _ => rfl)) ⟨_, rfl, Fx _ _ hG hb, hb, by rw [hT]; exact hN, fun h => by rw [hal] at h; cases h⟩
theorem ajz {Q : Exit → Act → World → Prop} {l : List Oper} {n : Nat} {T : Nat → World → Value → Prop} {G : World → Prop} {al : List Nat} {a0 : Act} {k d : Nat} {ty : TypeId} {pos : String} {af : Array Edge} {gd : Option (Nat × Bool)} {b i : Nat} {x y : Operand} (hal : al.contains k = false) (hx : Rg.ib l n T a0 k x (Rg.au (.slice (some ⟨b, 0, none⟩) 7 7))) (hy : Rg.ib l n T a0 k y (Rg.au (.int .i64 (i : Int)))) (hi : i < 7) (hT : T k = Rg.au (.pointer (some ⟨b, i, none⟩))) :
  Rg.Step Tryz.prog Q l n T G dz al a0 k { dst := some d, op := .indexAddr 175 x y, type := ty, pos := pos, after := af, guard := gd } := by
 intro a w hG hO hN
 have h1 : a.eval x = .slice (some ⟨b, 0, none⟩) 7 7 := hx a w hO hN
 have h2 : a.eval y = .int .i64 (i : Int) := hy a w hO hN
 have hr : (execOp a.eval { dst := some d, op := .indexAddr 175 x y, type := ty, pos := pos, after := af, guard := gd }).run Tryz.prog w = .ok (.value (.pointer (some ⟨b, i, none⟩))) w := by
  simp only [execOp, h1, h2]
  simp [go_sem, hi]
  try (intro h; exfalso; omega)
 exact iq (P := Tryz.prog) hr ⟨_, rfl, hG, Below.refl _ _, by rw [hT]; rfl, fun h => by rw [hal] at h; cases h⟩
theorem Yk {k : Nat} (h : k < 7) : Value.int .i64 (wrap64 ((k : Int) + 1)) = Value.int .i64 ((k + 1 : Nat) : Int) := Ql h om
theorem apt {ρ : Operand → Value} {w : World} {d : Option Tmp} {x y : Operand} {p0 p1 q0 q1 : Int} {b : Bool} {ty : TypeId} {pos : String} {af : Array Edge} {gd : Option (Nat × Bool)} (h : ρ x = .agg #[.int .i64 p0, .int .i64 p1]) (h' : ρ y = .agg #[.int .i64 q0, .int .i64 q1]) (hb : (!decide (p0 = q0 ∧ p1 = q1)) = b) :
  (execOp ρ { dst := d, op := .binOp .neq 23 x y 23, type := ty, pos := pos, after := af, guard := gd }).run Tryz.prog w = .ok (.value (.bool b)) w := by
 subst hb
 simp only [execOp, h, h']
 by_cases k0 : p0 = q0 <;> by_cases k1 : p1 = q1 <;> simp [go_sem, k0, k1]
theorem bea {Q : Exit → Act → World → Prop} {l : List Oper} {n : Nat} {T : Nat → World → Value → Prop} {G : World → Prop} {al : List Nat} {a0 : Act} {k d : Nat} {ty : TypeId} {pos : String} {af : Array Edge} {gd : Option (Nat × Bool)} {x y : Operand} {p0 p1 q0 q1 : Int} {b : Bool}
  (hal : al.contains k = false) (hx : Rg.ib l n T a0 k x (ax [iv p0, iv p1])) (hy : Rg.ib l n T a0 k y (ax [iv q0, iv q1])) (hb : (!decide (p0 = q0 ∧ p1 = q1)) = b) (hT : T k = Rg.au (.bool b)) :
  Rg.Step Tryz.prog Q l n T G dz al a0 k { dst := some d, op := .binOp .neq 23 x y 23, type := ty, pos := pos, after := af, guard := gd } := by
 intro a w hG hO hN
 exact iq (P := Tryz.prog) (apt (Eo (hx a w hO hN)) (Eo (hy a w hO hN)) hb) ⟨_, rfl, hG, Below.refl _ _, by rw [hT]; rfl, fun h => by rw [hal] at h; cases h⟩
theorem afi {z : Nat → Int} : ∀ k, k ≤ 7 → ∀ p ∈ qy z k, p ≠ []
 | 0, _, p, h => by cases h
 | k + 1, hk7, p, h => by
  have h' : p ∈ (if 0 < z k then qy z k ++ [piece k (z k)] else qy z k) := h
  by_cases g : 0 < z k
  ·
   rw [if_pos g] at h'
   rcases List.mem_append.1 h' with h2 | h2
   ·
    exact afi k om p h2
   ·
    rw [List.mem_singleton] at h2
    subst h2
    have hb : bn k ≠ [] := by
     have hc : k = 0 ∨ k = 1 ∨ k = 2 ∨ k = 3 ∨ k = 4 ∨ k = 5 ∨ k = 6 := by omega
     rcases hc with rfl | rfl | rfl | rfl | rfl | rfl | rfl <;> decide
    unfold piece
    split
    ·
     exact hb
    ·
     intro e; exact hb (List.append_eq_nil_iff.1 e).1
  ·
   rw [if_neg g] at h'
   exact afi k om p h'
theorem aje {z : Nat → Int} {k : Nat} (hk : k ≤ 7) (h : Lib.join (qy z k) [46] = []) : qy z k = [] := by
 cases hp : qy z k with
 | nil => rfl
 | cons x r =>
  rw [hp, Lib.join_cons] at h
  exact absurd (List.append_eq_nil_iff.1 h).1 (afi k hk x (by rw [hp]; exact List.mem_cons_self))
theorem Yx {f z : Nat → Int} {sg : Int} {R : List UInt8} (w : World) (hz : ∀ j, j < 7 → wrap64 (sg * f j) = z j ∧ -9 ≤ z j ∧ z j ≤ 9) (hr : R = ry z) (u0 : Value) (h0 : ax [.k (eK f)] w u0) :
  Calls Tryz.prog 113 #[u0, .int .i64 sg] w (ic (Rg.au (.string (tx R))) w) := by
 have HZ := hide hz
 have HR := hide hr
 clear hz hr
 have hu0 := azi h0
 subst hu0
 go_enter Tryz.func113, Tryz.ntmps113
 go_upto_region 1 with fail
 have hO := (Own.push (T := 42) (ls := [.k (eK f)]) (Own.nil w) (fu.e rfl) (w.heap.size) rfl)
 generalize w.alloc (.cells #[.int .i64 (f 0), .int .i64 (f 1), .int .i64 (f 2), .int .i64 (f 3), .int .i64 (f 4), .int .i64 (f 5), .int .i64 (f 6)] 42) = W0 at *
 have HO := hide hO
 clear hO
 go_upto_region 1 with fail
 refine Rg.di 2 38 (Rg.pick [Qc, Qc]) (az w _ W0) dz [] kr rfl (Rg.ek.pick ⟨Yr, Yr, trivial⟩) (az.begin (aa HO))
  (ah (ban rfl az.step rfl)
  (ah (ik rfl (aT 0))
  Rg.bg)) ?_
 intro v1 V1 hG1 hv1 hne1
 simp only [Rg.puts, Act.put, tA]
 obtain ⟨b, em, hbb, hbn⟩ := (show Qc V1 (v1 1) from hv1 1 de)
 simp only [em]
 have HBB := hide hbb
 have HBN := hide hbn
 clear hbb hbn
 have hO := hG1.1
 clear HO
 have HO := hide hO
 clear hO hG1 hv1 hne1
 go_wp2_with fail
 go_loopw [6, 7] (fun sv kv wr => ∃ k : Nat, k ≤ 7 ∧ kv = .int .i64 ((k : Nat) : Int) ∧ sv = .string (tx (Lib.join (qy z k) [46])) ∧ Hid (Own w [(w.heap.size, 42, [.k (eK f)])] wr ∧ dz V1 wr)) (fun _ kv _ => 7 - (intOf kv).toNat)
 case atStart => exact ⟨0, by omega, rfl, rfl, hide ⟨aa HO, Below.refl _ _⟩⟩
 case round =>
  clear HO
  obtain ⟨k, hk, rfl, rfl, HOA⟩ := hrel
  have HK := hide hk
  clear hk
  have HO := hide (aa HOA).1
  have HVB := hide (aa HOA).2
  clear HOA
  obtain ⟨J, hJ⟩ : ∃ J, J = Lib.join (qy z k) [46] := ⟨_, rfl⟩
  rw [← hJ]
  have HJ := hide hJ
  clear hJ
  by_cases g1 : k < 7
  ·
   have d1 : decide ((k : Int) < 7) = true := decide_eq_true om
   have rq := hide g1
   clear g1
   have ze := hide (show dz wr wr from Below.refl _ _)
   obtain ⟨p, hp⟩ : ∃ p, p = z k := ⟨_, rfl⟩
   have HP := hide hp
   have HW := hide (show wrap64 (sg * f k) = p by rw [hp]; exact ((aa HZ) k (aa rq)).1)
   have HPB := hide (show -9 ≤ p ∧ p ≤ 9 by rw [hp]; exact ((aa HZ) k (aa rq)).2)
   have HJL := hide (show J.length ≤ 40 by rw [aa HJ]; have := Mi (z := z) k (fun j hj => ((aa HZ) j (by have := aa rq; omega)).2.2); have := aa rq; omega)
   clear hp
   go_upto_region 4 with fail
   refine Rg.di 2 38 (Rg.pick [Rg.au (.int .i64 (k : Int)), Rg.au (.bool true)]) (az w _ wr) dz [] kr rfl (Rg.ek.pick ⟨Rg.ae _, Rg.ae _, trivial⟩) (az.begin (aa HO))
    (ah (df rfl aF)
    (ah (xq rfl (aT 0) (Rg.je _) rfl d1)
    Rg.bg)) ?_
   intro v2 V2 hG2 hv2 hne2
   simp only [Rg.puts, Act.put, tA]
   have e1 : v2 1 = .bool true := hv2 1 de
   simp only [e1]
   replace ze := hide (ay (aa ze) hG2.2)
   have hO := hG2.1
   clear HO
   have HO := hide hO
   clear hO hG2 hv2 hne2
   try clear e1
   clear d1
   go_upto_region 6 with fail
   refine Rg.di 6 38 (Rg.pick [Rg.au (.int .i64 sg), Rg.au (.int .i64 (k : Int)), Rg.au (.pointer (some ⟨w.heap.size, k, none⟩)), Rg.au (.int .i64 (f k)), Rg.au (.int .i64 (p)), Rg.au (.int .i64 (p))]) (az w _ V2) dz [] kr rfl (Rg.ek.pick ⟨Rg.ae _, Rg.ae _, Rg.ae _, Rg.ae _, Rg.ae _, Rg.ae _, trivial⟩) (az.begin (aa HO))
    (ah (df rfl aF)
    (ah (df rfl aF)
    (ah (Fp (b := w.heap.size) (k := k) rfl aF (aT 1) (aa rq) rfl)
    (ah (Nk (f := f) me0 rfl (aT 2) (aa rq) rfl rfl)
    (ah (apm rfl (aT 0) (aT 3) (aa HW) rfl)
    (ah (ik rfl (aT 4))
    Rg.bg)))))) ?_
   intro v3 V3 hG3 hv3 mh
   simp only [Rg.puts, Act.put, tA]
   have e4 : v3 4 = .int .i64 (p) := hv3 4 de
   have e5 : v3 5 = .int .i64 (p) := hv3 5 de
   simp only [e4, e5]
   replace ze := hide (ay (aa ze) hG3.2)
   have hO := hG3.1
   clear HO
   have HO := hide hO
   clear hO hG3 hv3 mh
   try clear e4 e5
   by_cases g2 : p ≤ 0
   ·
    have d2 : decide (p ≤ 0) = true := decide_eq_true g2
    have HS := hide (show tx J = tx (Lib.join (qy z (k + 1)) [46]) by rw [afh (by rw [← aa HP]; exact g2), ← aa HJ])
    clear g2
    go_upto_region 7 with fail
    refine Rg.di 2 38 (Rg.pick [Rg.au (.int .i64 p), Rg.au (.bool true)]) (az w _ V3) dz [] kr rfl (Rg.ek.pick ⟨Rg.ae _, Rg.ae _, trivial⟩) (az.begin (aa HO))
     (ah (df rfl aF)
     (ah (adt rfl (aT 0) (Rg.je _) rfl d2)
     Rg.bg)) ?_
    intro v4 V4 hG4 hv4 tu
    simp only [Rg.puts, Act.put, tA]
    have e1 : v4 1 = .bool true := hv4 1 de
    simp only [e1]
    replace ze := hide (ay (aa ze) hG4.2)
    have hO := hG4.1
    clear HO
    have HO := hide hO
    clear hO hG4 hv4 tu
    try clear e1
    clear d2
    go_wp2_with fail
    go_roundw
    case rel =>
     exact ⟨k + 1, by have := aa rq; omega, Yk (aa rq), congrArg Value.string (aa HS), hide ⟨aa HO, ay (aa HVB) (aa ze)⟩⟩
    case measure =>
     have h1 := aa rq
     clear HO
     rw [Gd h1 om]
     exact measS h1
   ·
    have d2 : decide (p ≤ 0) = false := decide_eq_false g2
    have HP0 := hide (show 0 < p by omega)
    clear g2
    go_upto_region 7 with fail
    refine Rg.di 2 38 (Rg.pick [Rg.au (.int .i64 p), Rg.au (.bool false)]) (az w _ V3) dz [] kr rfl (Rg.ek.pick ⟨Rg.ae _, Rg.ae _, trivial⟩) (az.begin (aa HO))
     (ah (df rfl aF)
     (ah (adt rfl (aT 0) (Rg.je _) rfl d2)
     Rg.bg)) ?_
    intro v4 V4 hG4 hv4 tu
    simp only [Rg.puts, Act.put, tA]
    have e1 : v4 1 = .bool false := hv4 1 de
    simp only [e1]
    replace ze := hide (ay (aa ze) hG4.2)
    have hO := hG4.1
    clear HO
    have HO := hide hO
    clear hO hG4 hv4 tu
    try clear e1
    clear d2
    by_cases g3 : J = []
    ·
     have d3 : (!decide (J = [])) = false := by rw [decide_eq_true g3]; rfl
     have HE := hide (aje (z := z) (k := k) (by have := aa rq; omega) ((aa HJ).symm.trans g3))
     obtain rfl : J = [] := g3
     go_upto_region 8 with fail
     refine Rg.di 2 38 (Rg.pick [Rg.au (.string (tx [])), Rg.au (.bool false)]) (az w _ V4) dz [] kr rfl (Rg.ek.pick ⟨Rg.ae _, Rg.ae _, trivial⟩) (az.begin (aa HO))
      (ah (df rfl aF)
      (ah (Oz (p := []) (q := []) rfl (aT 0) (Rg.je _) rfl rfl)
      Rg.bg)) ?_
     intro v5 V5 zz hv5 hne5
     simp only [Rg.puts, Act.put, tA]
     have e1 : v5 1 = .bool false := hv5 1 de
     simp only [e1]
     replace ze := hide (ay (aa ze) zz.2)
     have hO := zz.1
     clear HO
     have HO := hide hO
     clear hO zz hv5 hne5
     try clear e1
     clear d3
     go_upto_region 10 with fail
     refine Rg.di 6 38 (Rg.pick [Rg.au (.string (tx [])), Rg.au (.slice (some ⟨b, 0, none⟩) 7 7), Rg.au (.int .i64 (k : Int)), Rg.au (.pointer (some ⟨b, k, none⟩)), Rg.au (.string (tx (bn k))), Rg.au (.string (tx ([] ++ bn k)))]) (az w _ V5) dz [] kr rfl (Rg.ek.pick ⟨Rg.ae _, Rg.ae _, Rg.ae _, Rg.ae _, Rg.ae _, Rg.ae _, trivial⟩) (az.begin (aa HO))
      (ah (df rfl aF)
      (ah (df rfl aF)
      (ah (df rfl aF)
      (ah (ajz rfl (aT 1) (aT 2) (aa rq) rfl)
      (ah (amc (fun W h => ((ay (aa HVB) (ay (aa ze) h.2)).cell (p := ⟨b, k, none⟩) (aa HBB)).trans ((aa HBN) k (aa rq))) rfl (aT 3) rfl)
      (ah (Dx (p := []) rfl (aT 0) (aT 4) (by have := aa HJL; have := Mw k; simp; omega) rfl)
      Rg.bg)))))) ?_
     intro v6 V6 Ch hv6 Gp
     simp only [Rg.puts, Act.put, tA]
     have e5 : v6 5 = .string (tx ([] ++ bn k)) := hv6 5 de
     simp only [e5]
     replace ze := hide (ay (aa ze) Ch.2)
     have hO := Ch.1
     clear HO
     have HO := hide hO
     clear hO Ch hv6 Gp
     try clear e5
     by_cases g4 : p = 1
     ·
      have d4 : ((p : Int) != 1) = false := by rw [g4]; rfl
      go_upto_region 11 with fail
      refine Rg.di 2 38 (Rg.pick [Rg.au (.int .i64 p), Rg.au (.bool false)]) (az w _ V6) dz [] kr rfl (Rg.ek.pick ⟨Rg.ae _, Rg.ae _, trivial⟩) (az.begin (aa HO))
       (ah (df rfl aF)
       (ah (ads rfl (aT 0) (Rg.je _) rfl d4)
       Rg.bg)) ?_
      intro v7 V7 Bh hv7 En
      simp only [Rg.puts, Act.put, tA]
      have e1 : v7 1 = .bool false := hv7 1 de
      simp only [e1]
      replace ze := hide (ay (aa ze) Bh.2)
      have hO := Bh.1
      clear HO
      have HO := hide hO
      clear hO Bh hv7 En
      try clear e1
      clear d4
      have HS := hide (show tx ([] ++ bn k) = tx (Lib.join (qy z (k + 1)) [46]) by rw [abd (by rw [← aa HP]; exact g4), Hm, if_pos (aa HE)]; rfl)
      clear g4
      go_wp2_with fail
      go_roundw
      case rel =>
       exact ⟨k + 1, by have := aa rq; omega, Yk (aa rq), congrArg Value.string (aa HS), hide ⟨aa HO, ay (aa HVB) (aa ze)⟩⟩
      case measure =>
       have h1 := aa rq
       clear HO
       rw [Gd h1 om]
       exact measS h1
     ·
      have d4 : ((p : Int) != 1) = true := by simp [bne, beq_eq_false_iff_ne, g4]
      go_upto_region 11 with fail
      refine Rg.di 2 38 (Rg.pick [Rg.au (.int .i64 p), Rg.au (.bool true)]) (az w _ V6) dz [] kr rfl (Rg.ek.pick ⟨Rg.ae _, Rg.ae _, trivial⟩) (az.begin (aa HO))
       (ah (df rfl aF)
       (ah (ads rfl (aT 0) (Rg.je _) rfl d4)
       Rg.bg)) ?_
      intro v7 V7 Bh hv7 En
      simp only [Rg.puts, Act.put, tA]
      have e1 : v7 1 = .bool true := hv7 1 de
      simp only [e1]
      replace ze := hide (ay (aa ze) Bh.2)
      have hO := Bh.1
      clear HO
      have HO := hide hO
      clear hO Bh hv7 En
      try clear e1
      clear d4
      go_upto_region 12 with fail
      refine Rg.di 4 38 (Rg.pick [Rg.au (.string (tx ([] ++ bn k))), Rg.au (.int .i64 p), Rg.au (.string (tx (Lib.itoa p))), Rg.au (.string (tx ([] ++ bn k ++ Lib.itoa p)))]) (az w _ V7) dz [] kr rfl (Rg.ek.pick ⟨Rg.ae _, Rg.ae _, Rg.ae _, Rg.ae _, trivial⟩) (az.begin (aa HO))
       (ah (df rfl aF)
       (ah (df rfl aF)
       (ah (sc1 Tryz.func83 (aT 1) (fun W v0 hG h0 => by cases h0; exact Te (agh (by have := aa HP0; omega) (by have := (aa HPB).2; omega) W)))
       (ah (Dx rfl (aT 0) (aT 2) (by have := aa HJL; have := Mw k; rw [Rj (by have := aa HP0; omega) (by have := (aa HPB).2; omega)]; simp; omega) rfl)
       Rg.bg)))) ?_
      intro v8 V8 Fy Km Mo
      simp only [Rg.puts, Act.put, tA]
      have e3 : v8 3 = .string (tx ([] ++ bn k ++ Lib.itoa p)) := Km 3 de
      simp only [e3]
      replace ze := hide (ay (aa ze) Fy.2)
      have hO := Fy.1
      clear HO
      have HO := hide hO
      clear hO Fy Km Mo
      try clear e3
      have HS := hide (show tx ([] ++ bn k ++ Lib.itoa p) = tx (Lib.join (qy z (k + 1)) [46]) by rw [Xf (by rw [← aa HP]; have := aa HP0; omega), ← aa HP, Hm, if_pos (aa HE)]; rfl)
      clear g4
      go_wp2_with fail
      go_roundw
      case rel =>
       exact ⟨k + 1, by have := aa rq; omega, Yk (aa rq), congrArg Value.string (aa HS), hide ⟨aa HO, ay (aa HVB) (aa ze)⟩⟩
      case measure =>
       have h1 := aa rq
       clear HO
       rw [Gd h1 om]
       exact measS h1
    ·
     have d3 : (!decide (J = [])) = true := by rw [decide_eq_false g3]; rfl
     have HE := hide (fun e : qy z k = [] => g3 (by rw [aa HJ, e]; rfl))
     clear g3
     go_upto_region 8 with fail
     refine Rg.di 2 38 (Rg.pick [Rg.au (.string (tx J)), Rg.au (.bool true)]) (az w _ V4) dz [] kr rfl (Rg.ek.pick ⟨Rg.ae _, Rg.ae _, trivial⟩) (az.begin (aa HO))
      (ah (df rfl aF)
      (ah (Oz (q := []) rfl (aT 0) (Rg.je _) d3 rfl)
      Rg.bg)) ?_
     intro v5 V5 zz hv5 hne5
     simp only [Rg.puts, Act.put, tA]
     have e1 : v5 1 = .bool true := hv5 1 de
     simp only [e1]
     replace ze := hide (ay (aa ze) zz.2)
     have hO := zz.1
     clear HO
     have HO := hide hO
     clear hO zz hv5 hne5
     try clear e1
     clear d3
     go_upto_region 9 with fail
     refine Rg.di 2 38 (Rg.pick [Rg.au (.string (tx J)), Rg.au (.string (tx (J ++ [46])))]) (az w _ V5) dz [] kr rfl (Rg.ek.pick ⟨Rg.ae _, Rg.ae _, trivial⟩) (az.begin (aa HO))
      (ah (df rfl aF)
      (ah (Dx (q := [46]) rfl (aT 0) (Rg.je _) (by have := aa HJL; simp; omega) rfl)
      Rg.bg)) ?_
     intro v6 V6 Ch hv6 Gp
     simp only [Rg.puts, Act.put, tA]
     have e1 : v6 1 = .string (tx (J ++ [46])) := hv6 1 de
     simp only [e1]
     replace ze := hide (ay (aa ze) Ch.2)
     have hO := Ch.1
     clear HO
     have HO := hide hO
     clear hO Ch hv6 Gp
     try clear e1
     go_upto_region 10 with fail
     refine Rg.di 6 38 (Rg.pick [Rg.au (.string (tx (J ++ [46]))), Rg.au (.slice (some ⟨b, 0, none⟩) 7 7), Rg.au (.int .i64 (k : Int)), Rg.au (.pointer (some ⟨b, k, none⟩)), Rg.au (.string (tx (bn k))), Rg.au (.string (tx ((J ++ [46]) ++ bn k)))]) (az w _ V6) dz [] kr rfl (Rg.ek.pick ⟨Rg.ae _, Rg.ae _, Rg.ae _, Rg.ae _, Rg.ae _, Rg.ae _, trivial⟩) (az.begin (aa HO))
      (ah (df rfl aF)
      (ah (df rfl aF)
      (ah (df rfl aF)
      (ah (ajz rfl (aT 1) (aT 2) (aa rq) rfl)
      (ah (amc (fun W h => ((ay (aa HVB) (ay (aa ze) h.2)).cell (p := ⟨b, k, none⟩) (aa HBB)).trans ((aa HBN) k (aa rq))) rfl (aT 3) rfl)
      (ah (Dx (p := (J ++ [46])) rfl (aT 0) (aT 4) (by have := aa HJL; have := Mw k; simp; omega) rfl)
      Rg.bg)))))) ?_
     intro v7 V7 Bh hv7 En
     simp only [Rg.puts, Act.put, tA]
     have e5 : v7 5 = .string (tx ((J ++ [46]) ++ bn k)) := hv7 5 de
     simp only [e5]
     replace ze := hide (ay (aa ze) Bh.2)
     have hO := Bh.1
     clear HO
     have HO := hide hO
     clear hO Bh hv7 En
     try clear e5
     by_cases g4 : p = 1
     ·
      have d4 : ((p : Int) != 1) = false := by rw [g4]; rfl
      go_upto_region 11 with fail
      refine Rg.di 2 38 (Rg.pick [Rg.au (.int .i64 p), Rg.au (.bool false)]) (az w _ V7) dz [] kr rfl (Rg.ek.pick ⟨Rg.ae _, Rg.ae _, trivial⟩) (az.begin (aa HO))
       (ah (df rfl aF)
       (ah (ads rfl (aT 0) (Rg.je _) rfl d4)
       Rg.bg)) ?_
      intro v8 V8 Fy Km Mo
      simp only [Rg.puts, Act.put, tA]
      have e1 : v8 1 = .bool false := Km 1 de
      simp only [e1]
      replace ze := hide (ay (aa ze) Fy.2)
      have hO := Fy.1
      clear HO
      have HO := hide hO
      clear hO Fy Km Mo
      try clear e1
      clear d4
      have HS := hide (show tx ((J ++ [46]) ++ bn k) = tx (Lib.join (qy z (k + 1)) [46]) by rw [abd (by rw [← aa HP]; exact g4), Hm, if_neg (aa HE), ← aa HJ, List.append_assoc]; rfl)
      clear g4
      go_wp2_with fail
      go_roundw
      case rel =>
       exact ⟨k + 1, by have := aa rq; omega, Yk (aa rq), congrArg Value.string (aa HS), hide ⟨aa HO, ay (aa HVB) (aa ze)⟩⟩
      case measure =>
       have h1 := aa rq
       clear HO
       rw [Gd h1 om]
       exact measS h1
     ·
      have d4 : ((p : Int) != 1) = true := by simp [bne, beq_eq_false_iff_ne, g4]
      go_upto_region 11 with fail
      refine Rg.di 2 38 (Rg.pick [Rg.au (.int .i64 p), Rg.au (.bool true)]) (az w _ V7) dz [] kr rfl (Rg.ek.pick ⟨Rg.ae _, Rg.ae _, trivial⟩) (az.begin (aa HO))
       (ah (df rfl aF)
       (ah (ads rfl (aT 0) (Rg.je _) rfl d4)
       Rg.bg)) ?_
      intro v8 V8 Fy Km Mo
      simp only [Rg.puts, Act.put, tA]
      have e1 : v8 1 = .bool true := Km 1 de
      simp only [e1]
      replace ze := hide (ay (aa ze) Fy.2)
      have hO := Fy.1
      clear HO
      have HO := hide hO
      clear hO Fy Km Mo
      try clear e1
      clear d4
      go_upto_region 12 with fail
      refine Rg.di 4 38 (Rg.pick [Rg.au (.string (tx ((J ++ [46]) ++ bn k))), Rg.au (.int .i64 p), Rg.au (.string (tx (Lib.itoa p))), Rg.au (.string (tx ((J ++ [46]) ++ bn k ++ Lib.itoa p)))]) (az w _ V8) dz [] kr rfl (Rg.ek.pick ⟨Rg.ae _, Rg.ae _, Rg.ae _, Rg.ae _, trivial⟩) (az.begin (aa HO))
       (ah (df rfl aF)
       (ah (df rfl aF)
       (ah (sc1 Tryz.func83 (aT 1) (fun W v0 hG h0 => by cases h0; exact Te (agh (by have := aa HP0; omega) (by have := (aa HPB).2; omega) W)))
       (ah (Dx rfl (aT 0) (aT 2) (by have := aa HJL; have := Mw k; rw [Rj (by have := aa HP0; omega) (by have := (aa HPB).2; omega)]; simp; omega) rfl)
       Rg.bg)))) ?_
      intro v9 V9 Ms Ml Rn
      simp only [Rg.puts, Act.put, tA]
      have e3 : v9 3 = .string (tx ((J ++ [46]) ++ bn k ++ Lib.itoa p)) := Ml 3 de
      simp only [e3]
      replace ze := hide (ay (aa ze) Ms.2)
      have hO := Ms.1
      clear HO
      have HO := hide hO
      clear hO Ms Ml Rn
      try clear e3
      have HS := hide (show tx ((J ++ [46]) ++ bn k ++ Lib.itoa p) = tx (Lib.join (qy z (k + 1)) [46]) by rw [Xf (by rw [← aa HP]; have := aa HP0; omega), ← aa HP, Hm, if_neg (aa HE), ← aa HJ, List.append_assoc, List.append_assoc]; rfl)
      clear g4
      go_wp2_with fail
      go_roundw
      case rel =>
       exact ⟨k + 1, by have := aa rq; omega, Yk (aa rq), congrArg Value.string (aa HS), hide ⟨aa HO, ay (aa HVB) (aa ze)⟩⟩
      case measure =>
       have h1 := aa rq
       clear HO
       rw [Gd h1 om]
       exact measS h1
  ·
   have d1 : decide ((k : Int) < 7) = false := decide_eq_false om
   obtain rfl : k = 7 := by have := aa HK; omega
   obtain rfl : R = J := by rw [aa HR, aa HJ]; rfl
   clear g1
   go_upto_region 4 with fail
   refine Rg.di 2 38 (Rg.pick [Rg.au (.int .i64 ((7 : Nat) : Int)), Rg.au (.bool false)]) (az w _ wr) dz [] kr rfl (Rg.ek.pick ⟨Rg.ae _, Rg.ae _, trivial⟩) (az.begin (aa HO))
    (ah (df rfl aF)
    (ah (xq rfl (aT 0) (Rg.je _) rfl d1)
    Rg.bg)) ?_
   intro v2 V2 hG2 hv2 hne2
   simp only [Rg.puts, Act.put, tA]
   have e1 : v2 1 = .bool false := hv2 1 de
   simp only [e1]
   have hO := hG2.1
   clear HO
   have HO := hide hO
   clear hO hG2 hv2 hne2
   try clear e1
   clear d1
   go_upto_region 13 with fail
   refine Rg.di 2 38 (Rg.pick [Rg.au (.string (tx R)), Rg.au (.string (tx R))]) (az w _ V2) dz [] kr rfl (Rg.ek.pick ⟨Rg.ae _, Rg.ae _, trivial⟩) (az.begin (aa HO))
    (ah (df rfl aF)
    (ah (ik rfl (aT 0))
    Rg.bg)) ?_
   intro v3 V3 hG3 hv3 mh
   simp only [Rg.puts, Act.put, tA]
   have e0 : v3 0 = .string (tx R) := hv3 0 de
   have e1 : v3 1 = .string (tx R) := hv3 1 de
   simp only [e0, e1]
   have hO := hG3.1
   clear HO
   have HO := hide hO
   clear hO hG3 hv3 mh
   try clear e0 e1
   go_wp2_with fail
   exact yz Tryz.results113 rfl (aa HO).bel rfl
end Sb


theorem Ui : ∀ k : Nat, k < 10 → Utf8.encode (48 + (k : Int)) = (⟨#[UInt8.ofNat (48 + k)]⟩ : ByteArray) := by
 intro k hk
 have : k = 0 ∨ k = 1 ∨ k = 2 ∨ k = 3 ∨ k = 4 ∨ k = 5 ∨ k = 6 ∨ k = 7 ∨ k = 8 ∨ k = 9 := by omega
 rcases this with rfl | rfl | rfl | rfl | rfl | rfl | rfl | rfl | rfl | rfl <;> rfl
theorem aol (k : Nat) (h1 : k < 10) : IntKind.i64.wrap (48 + (k : Int)) = 48 + (k : Int) ∧ wrap64 (48 + (k : Int)) = 48 + (k : Int) ∧ IntKind.i32.wrap (48 + (k : Int)) = 48 + (k : Int) :=
 ⟨IntWalk.i64_in _ om, IntWalk.wrap64_in _ om, by simp only [IntKind.wrap, IntKind.bits, IntKind.signed]; simp; omega⟩
theorem akv (k : Nat) (w : World) (h1 : k < 10) :
  Calls Tryz.prog 153 #[.int .i64 (k : Int)] w fun e w' => e = .returned (.string ⟨#[UInt8.ofNat (48 + k)]⟩) ∧ w' = w := by
 have d1 : decide ((k : Int) < 0) = false := decide_eq_false om
 have d2 : decide ((k : Int) < 10) = true := decide_eq_true om
 have d3 : decide (k < 10) = true := decide_eq_true om
 obtain ⟨w1, w2, w3⟩ := aol k h1
 have HE := Lib.hid (Ui k h1)
 clear h1
 go_enter Tryz.func153, Tryz.ntmps153
 go_wp2_with fail
 go_ret
 exact ⟨by rw [HE.out]; rfl, rfl⟩
theorem bcl (l : List UInt8) (k : Nat) (h : k < 10) : (⟨l.toArray⟩ : ByteArray) ++ Utf8.encode (48 + (k : Int)) = ⟨(l ++ [UInt8.ofNat (48 + k)]).toArray⟩ := by
 rw [Ui k h]
 apply Oe
 rw [Kz]
theorem awu (z v r : Int) (S S' : ByteArray) (w : World) (h0 : ¬ z < 0) (h1 : ¬ z < 10) (e1 : z.tdiv 10 = v) (e2 : z.tmod 10 = r) (hv : 0 ≤ v ∧ v ≤ 9223372036854775807) (hr : 0 ≤ r ∧ r < 10) (hc : S ++ Utf8.encode (48 + r) = S') (hs : S.size ≤ 1000) (h8 : (Utf8.encode (48 + r)).size = 1)
  (ih : ∀ W, Calls Tryz.prog 153 #[.int .i64 v] W fun e w' => e = .returned (.string S) ∧ w' = W) :
  Calls Tryz.prog 153 #[.int .i64 z] w fun e w' => e = .returned (.string S') ∧ w' = w := by
 have d1 : decide (z < 0) = false := decide_eq_false h0
 have d2 : decide (z < 10) = false := decide_eq_false h1
 have w1 : IntKind.i64.wrap (48 + r) = 48 + r := IntWalk.i64_in _ om
 have w2 : wrap64 (48 + r) = 48 + r := IntWalk.wrap64_in _ om
 have w3 : IntKind.i32.wrap (48 + r) = 48 + r := by simp only [IntKind.wrap, IntKind.bits, IntKind.signed]; simp; omega
 have w4 : IntKind.i64.wrap v = v := IntWalk.i64_in _ om
 have w5 : wrap64 v = v := IntWalk.wrap64_in _ om
 have w6 : IntKind.i64.wrap r = r := IntWalk.i64_in _ om
 have w7 : wrap64 r = r := IntWalk.wrap64_in _ om
 have awc : ¬ (S.size + (Utf8.encode (48 + r)).size > 9223372036854775807) := by rw [h8]; omega
 obtain ⟨X, hX⟩ : ∃ X, S ++ Utf8.encode (48 + r) = X := ⟨_, rfl⟩
 have hadd : ∀ W, (Op.stringOp .add S (Utf8.encode (48 + r))).run Tryz.prog W = .ok (.string X) W := fun W => by rw [← hX]; exact run_string_add_sum W S _ (by rw [h8]; omega)
 rw [hX] at hc
 have HC := Lib.hid hc
 have HX := Lib.hid hX
 have HI := hide ih
 clear ih h0 h1 hv hr hc hs h8 hX
 go_enter Tryz.func153, Tryz.ntmps153
 go_wp2_with fail
 refine ((aa HI) _).mono ?_
 rintro e W2 ⟨rfl, Ih⟩
 replace Ih := Ih.symm
 subst Ih
 go_wp2_with fail
 go_ret
 exact ⟨by first | (rw [← HC.out]; rfl) | (rw [← HC.out, ← HX.out]; rfl), rfl⟩
theorem aak (u : Nat) (h : u ≤ 9223372036854775807) : (Lib.decDigits u).length ≤ 19 := Wd.aab 19 u om om
theorem abo : ∀ (f u : Nat) (w : World), u ≤ f → u ≤ 9223372036854775807 → Calls Tryz.prog 153 #[.int .i64 (u : Int)] w fun e w' => e = .returned (.string ⟨(Lib.decDigits u).toArray⟩) ∧ w' = w
 | 0, u, w, hf, _ => by
  obtain rfl : u = 0 := by omega
  have := akv 0 w om
  rw [Lib.decDigits, dif_pos om]
  exact this
 | f + 1, u, w, hf, hu => by
  by_cases h : u < 10
  ·
   rw [Lib.decDigits, dif_pos h]; exact akv u w h
  ·
   have hu' : Lib.decDigits u = Lib.decDigits (u / 10) ++ [UInt8.ofNat (48 + u % 10)] := by rw [Lib.decDigits, dif_neg h]
   rw [hu']
   exact awu (u : Int) ((u / 10 : Nat) : Int) ((u % 10 : Nat) : Int) _ _ w om om (by rw [Int.tdiv_eq_ediv_of_nonneg om]; omega) (by rw [Int.tmod_eq_emod_of_nonneg om]; omega) om om (bcl _ _ om) (by rw [← ou]; exact Nat.le_trans (aak (u / 10) om) om) (by rw [Ui _ om]; rfl) (fun W => abo f (u / 10) W om om)
theorem bci (z v : Int) (S S' : ByteArray) (w : World) (h0 : z < 0) (e1 : -z = v) (hv : 0 ≤ v ∧ v ≤ 9223372036854775807) (hc : (⟨#[45]⟩ : ByteArray) ++ S = S') (hs : S.size ≤ 1000)
  (ih : ∀ W, Calls Tryz.prog 153 #[.int .i64 v] W fun e w' => e = .returned (.string S) ∧ w' = W) :
  Calls Tryz.prog 153 #[.int .i64 z] w fun e w' => e = .returned (.string S') ∧ w' = w := by
 have d1 : decide (z < 0) = true := decide_eq_true h0
 have w4 : IntKind.i64.wrap (-z) = v := by rw [e1]; exact IntWalk.i64_in _ om
 have w5 : wrap64 (-z) = v := by rw [e1]; exact IntWalk.wrap64_in _ om
 have s45 : (⟨#[45]⟩ : ByteArray).size = 1 := rfl
 have awc : ¬ ((⟨#[45]⟩ : ByteArray).size + S.size > 9223372036854775807) := by rw [s45]; omega
 have bfx : ¬ (1 + S.size > 9223372036854775807) := by omega
 obtain ⟨X, hX⟩ : ∃ X, (⟨#[45]⟩ : ByteArray) ++ S = X := ⟨_, rfl⟩
 have hadd : ∀ W, (Op.stringOp .add ⟨#[45]⟩ S).run Tryz.prog W = .ok (.string X) W := fun W => by rw [← hX]; exact run_string_add_sum W _ S (by rw [s45]; omega)
 rw [hX] at hc
 have HC := Lib.hid hc
 have HX := Lib.hid hX
 have HI := hide ih
 clear ih h0 hv hc e1 hs s45 hX
 go_enter Tryz.func153, Tryz.ntmps153
 go_wp2_with fail
 refine ((aa HI) _).mono ?_
 rintro e W2 ⟨rfl, Ih⟩
 replace Ih := Ih.symm
 subst Ih
 go_wp2_with fail
 go_ret
 exact ⟨by first | (rw [← HC.out]; rfl) | (rw [← HC.out, ← HX.out]; rfl), rfl⟩
theorem abp (n : Int) (w : World) (h1 : -1000000000000 ≤ n) (h2 : n ≤ 1000000000000) :
  Calls Tryz.prog 153 #[.int .i64 n] w fun e w' => e = .returned (.string ⟨(Lib.itoa n).toArray⟩) ∧ w' = w := by
 unfold Lib.itoa
 by_cases h : n < 0
 ·
  rw [if_pos h]
  refine bci n (n.natAbs : Int) ⟨(Lib.decDigits n.natAbs).toArray⟩ _ w h om om ?_ (by rw [← ou]; exact Nat.le_trans (aak n.natAbs om) om) (fun W => abo n.natAbs n.natAbs W (Nat.le_refl _) om)
  apply Oe; rw [Kz]; rfl
 ·
  rw [if_neg h]
  have := abo n.toNat n.toNat w (Nat.le_refl _) om
  rwa [show (n.toNat : Int) = n by omega] at this
theorem aou (n d : Int) (w : World) (ok : Wd.qm n d) (hd : d = 1) :
  Calls Tryz.prog 84 #[.agg #[.int .i64 n, .int .i64 d]] w fun e w' => e = .returned (.string ⟨(Wd.nk n d).toArray⟩) ∧ Below w.heap.size w w' := by
 subst hd
 have HI := hide (fun W => abp n W ok.2.2.1 ok.2.2.2.1)
 have HE := Lib.hid (show Lib.itoa n = Wd.nk n 1 from (if_pos rfl).symm)
 clear ok
 go_enter Tryz.func84, Tryz.ntmps84
 go_upto_region 1 with fail
 obtain ⟨nx, hsz, hw0⟩ := He w (.cells #[.int .i64 n, .int .i64 1] 23)
 generalize w.alloc (.cells #[.int .i64 n, .int .i64 1] 23) = W0 at *
 have k0 : W0.cell? ⟨w.heap.size, 0, none⟩ = some (.int .i64 n) := ag nx 0
 have k1 : W0.cell? ⟨w.heap.size, 1, none⟩ = some (.int .i64 1) := ag nx 1
 clear hsz nx
 go_wp2_with fail
 refine ((aa HI) _).mono ?_
 rintro e W2 ⟨rfl, Ih⟩
 replace Ih := Ih.symm
 subst Ih
 go_wp2_with fail
 go_ret
 exact ⟨by rw [HE.out]; rfl, by first | exact hw0 | exact hw0.drew⟩
theorem alr (n d : Int) (w : World) (ok : Wd.qm n d) (hd : ¬ d = 1) :
  Calls Tryz.prog 84 #[.agg #[.int .i64 n, .int .i64 d]] w fun e w' => e = .returned (.string ⟨(Wd.nk n d).toArray⟩) ∧ Below w.heap.size w w' := by
 obtain ⟨o1, o2, o3, o4, _⟩ := id ok
 have hI1 := fun W => abp n W o3 o4
 have hI2 := fun W => abp d W om o2
 have g1 := Jk o3 o4
 have g2 := Jk (n := d) om o2
 obtain ⟨a, ha⟩ : ∃ a : ByteArray, a = ⟨(Lib.itoa n).toArray⟩ := ⟨_, rfl⟩
 obtain ⟨b, hb⟩ : ∃ b : ByteArray, b = ⟨(Lib.itoa d).toArray⟩ := ⟨_, rfl⟩
 have la : a.data.toList = Lib.itoa n := by rw [ha]
 have lb : b.data.toList = Lib.itoa d := by rw [hb]
 have sa : a.size ≤ 14 := by rw [← ou, la]; exact g1
 have sb : b.size ≤ 14 := by rw [← ou, lb]; exact g2
 rw [← ha] at hI1
 rw [← hb] at hI2
 have s47 : (⟨#[47]⟩ : ByteArray).size = 1 := rfl
 have anq : ∀ W, (Op.stringOp .add a ⟨#[47]⟩).run Tryz.prog W = .ok (.string (a ++ ⟨#[47]⟩)) W := fun W => run_string_add_sum W a _ (by rw [s47]; omega)
 have awc : ¬ (a.size + (⟨#[47]⟩ : ByteArray).size > 9223372036854775807) := by rw [s47]; omega
 have bfx : ¬ (a.size + 1 > 9223372036854775807) := by omega
 have sy : (a ++ ⟨#[47]⟩ : ByteArray).size = a.size + 1 := by rw [Qr]; rfl
 have ly : (a ++ ⟨#[47]⟩ : ByteArray).data.toList = Lib.itoa n ++ [47] := by rw [Kz, la]
 obtain ⟨y, hy⟩ : ∃ y, a ++ ⟨#[47]⟩ = y := ⟨_, rfl⟩
 rw [hy] at anq sy ly
 have anp : ∀ W, (Op.stringOp .add y b).run Tryz.prog W = .ok (.string (y ++ b)) W := fun W => run_string_add_sum W y b om
 have bny : ¬ (y.size + b.size > 9223372036854775807) := by omega
 have lz : (y ++ b).data.toList = Wd.nk n d := by
  rw [Kz, ly, lb]; unfold Wd.nk; rw [if_neg hd, List.append_assoc]; rfl
 obtain ⟨z, hz⟩ : ∃ z, y ++ b = z := ⟨_, rfl⟩
 rw [hz] at anp lz
 have HZ := Lib.hid (Oe lz)
 have e1 : (d == 1) = false := beq_eq_false_iff_ne.2 hd
 have HI1 := hide hI1; have HI2 := hide hI2
 clear ok o1 o2 o3 o4 g1 g2 ha hb la lb sa sb sy ly lz hy hz hI1 hI2 s47
 go_enter Tryz.func84, Tryz.ntmps84
 go_upto_region 1 with fail
 obtain ⟨nx, hsz, hw0⟩ := He w (.cells #[.int .i64 n, .int .i64 d] 23)
 generalize w.alloc (.cells #[.int .i64 n, .int .i64 d] 23) = W0 at *
 have k0 : W0.cell? ⟨w.heap.size, 0, none⟩ = some (.int .i64 n) := ag nx 0
 have k1 : W0.cell? ⟨w.heap.size, 1, none⟩ = some (.int .i64 d) := ag nx 1
 clear hsz nx
 have qx : w.heap.size < W0.heap.size := World.block_lt_of_cell? W0 ⟨w.heap.size, 0, none⟩ k0
 have KEEP := hide (show ∀ X, Below W0.heap.size W0 X → X.cell? ⟨w.heap.size, 0, none⟩ = some (.int .i64 n) ∧ X.cell? ⟨w.heap.size, 1, none⟩ = some (.int .i64 d) from fun X hB => ⟨gy hB qx k0, gy hB qx k1⟩)
 go_upto_region 3 with fail
 go_region_held3 (fun w' => w'.cell? ⟨w.heap.size, 0, none⟩ = some (.int .i64 n) ∧ w'.cell? ⟨w.heap.size, 1, none⟩ = some (.int .i64 d)) (exact (aa KEEP) _ (by (repeat (first | with_reducible exact Below.refl _ _ | with_reducible assumption | with_reducible refine Below.drew ?_)))) (first | (go_at_call_of 153 (Value.int .i64 n); refine ((aa HI1) _).mono ?_; rintro e w' ⟨rfl, Ih⟩; replace Ih := Ih.symm; subst Ih) | (go_at_call_of 153 (Value.int .i64 d); refine ((aa HI2) _).mono ?_; rintro e w' ⟨rfl, Ih⟩; replace Ih := Ih.symm; subst Ih))
 all_goals
  go_wp2_with fail
  go_ret
  exact ⟨by rw [HZ.out]; rfl, by first | exact hw0 | exact hw0.drew⟩
theorem aov (n d : Int) (w : World) (ok : Wd.qm n d) : Calls Tryz.prog 84 #[.agg #[.int .i64 n, .int .i64 d]] w fun e w' => e = .returned (.string ⟨(Wd.nk n d).toArray⟩) ∧ Below w.heap.size w w' := by
 by_cases hd : d = 1
 ·
  exact aou n d w ok hd
 ·
  exact alr n d w ok hd

namespace Sb
theorem bfa {p : Prop} [Decidable p] (h : (!decide p) = true) : ¬ p := by simpa using h
theorem bez {p : Prop} [Decidable p] (h : (!decide p) = false) : p := by simpa using h
theorem bhs {n d : Int} {W : World} {v : Value} (ok : Wd.qm n d) (h : ax [iv n, iv d] W v) : Calls Tryz.prog 84 #[v] W (ic (Rg.au (.string (tx (Wd.nk n d)))) W) := by
 have hv := Eo h
 subst hv
 exact Te (aov n d W ok)
theorem afa {f : Nat → Int} {n d : Int} (w : World) (g0 : ¬ Nu f n d) (u0 : Value) (h0 : ax [.k (eK f), iv n, iv d] w u0) :
  Calls Tryz.prog 48 #[u0] w (ic (jw [Rg.au (.string ⟨#[]⟩), Rg.au (.int .i64 1)]) w) := by
 have hu0 := Aw h0
 subst hu0
 go_enter Tryz.func48, Tryz.ntmps48
 go_upto_region 1 with fail
 have hO := (Own.push (T := 44) (ls := [.k (eK f), iv n, iv d]) (Own.nil w) (fu.e (fu.v (lh _) (fu.v (lh _) rfl))) (w.heap.size) rfl)
 generalize w.alloc (.cells #[.int .i64 (f 0), .int .i64 (f 1), .int .i64 (f 2), .int .i64 (f 3), .int .i64 (f 4), .int .i64 (f 5), .int .i64 (f 6), .int .i64 n, .int .i64 d] 44) = W0 at *
 have HO := hide hO
 clear hO
 have k1 : Sn f n d = 1 := if_neg g0
 go_upto_region 1 with fail
 refine Rg.di 3 39 (Rg.pick [ax [.k (eK f), iv n, iv d], Rg.au (.int .i64 1), Rg.au (.int .i64 1)]) (az w _ W0) dz [] kr rfl (Rg.ek.pick ⟨bf _, Rg.ae _, Rg.ae _, trivial⟩) (az.begin (aa HO))
  (ah (jc Bt me0 aF [] [.k (eK f), iv n, iv d] [])
  (ah (sc1 Tryz.func31 (aT 0) (fun W v0 hG h0 => k1 ▸ akx W _ h0))
  (ah (ik rfl (aT 1))
  Rg.bg))) ?_
 intro v1 V1 hG1 hv1 hne1
 simp only [Rg.puts, Act.put, tA]
 have e1 : v1 1 = .int .i64 1 := hv1 1 de
 have e2 : v1 2 = .int .i64 1 := hv1 2 de
 simp only [e1, e2]
 have hO := hG1.1
 clear HO
 have HO := hide hO
 clear hO hG1 hv1 hne1
 try clear e1 e2
 go_upto_region 2 with fail
 refine Rg.di 2 39 (Rg.pick [Rg.au (.int .i64 1), Rg.au (.bool true)]) (az w _ V1) dz [] kr rfl (Rg.ek.pick ⟨Rg.ae _, Rg.ae _, trivial⟩) (az.begin (aa HO))
  (ah (df rfl aF)
  (ah (Ba rfl (aT 0) (Rg.je _) rfl rfl)
  Rg.bg)) ?_
 intro v2 V2 hG2 hv2 hne2
 simp only [Rg.puts, Act.put, tA]
 have e1 : v2 1 = .bool true := hv2 1 de
 simp only [e1]
 have hO := hG2.1
 clear HO
 have HO := hide hO
 clear hO hG2 hv2 hne2
 try clear e1
 go_upto_region 3 with fail
 refine Rg.di 3 39 (Rg.pick [Rg.au (.int .i64 1), Rg.au (.string ⟨#[]⟩), Rg.au (.int .i64 1)]) (az w _ V2) dz [] kr rfl (Rg.ek.pick ⟨Rg.ae _, Rg.ae _, Rg.ae _, trivial⟩) (az.begin (aa HO))
  (ah (df rfl aF)
  (ah (ik rfl (Rg.je _))
  (ah (ik rfl (aT 0))
  Rg.bg))) ?_
 intro v3 V3 hG3 hv3 mh
 simp only [Rg.puts, Act.put, tA]
 have e0 : v3 0 = .int .i64 1 := hv3 0 de
 have e1 : v3 1 = .string ⟨#[]⟩ := hv3 1 de
 have e2 : v3 2 = .int .i64 1 := hv3 2 de
 simp only [e0, e1, e2]
 have hO := hG3.1
 clear HO
 have HO := hide hO
 clear hO hG3 hv3 mh
 try clear e0 e1 e2
 go_wp2_with fail
 exact Uh Tryz.results48 rfl rfl (aa HO).bel rfl
theorem adj {f : Nat → Int} {n d : Int} {A B P S R : List UInt8} {b1 b2 b3 : Bool} (w : World) (ok : Nu f n d)
  (hs1 : ∀ W v, ax [.k (eK f)] W v → Calls Tryz.prog 113 #[v, .int .i64 1] W (ic (Rg.au (.string (tx A))) W)) (hs2 : ∀ W v, ax [.k (eK f)] W v → Calls Tryz.prog 113 #[v, .int .i64 (-1)] W (ic (Rg.au (.string (tx B))) W))
  (hb1 : decide (A = []) = b1) (hb2 : (!decide (B = [])) = b2) (hb3 : (!decide (n = 1 ∧ d = 1)) = b3) (hp : P = if A = [] then [49] else A) (hss : S = if n = 1 ∧ d = 1 then [] else Wd.nk n d ++ [32]) (hr : R = if B = [] then S ++ P else S ++ P ++ 47 :: B) (hl : A.length ≤ 100 ∧ B.length ≤ 100 ∧ P.length ≤ 100 ∧ S.length ≤ 200 ∧ (Wd.nk n d).length ≤ 100) (u0 : Value) (h0 : ax [.k (eK f), iv n, iv d] w u0) :
  Calls Tryz.prog 48 #[u0] w (ic (jw [Rg.au (.string (tx R)), Rg.au (.int .i64 0)]) w) := by
 have Dz := hide ok.2.1
 have g0 := ok
 have nz := hide hs1
 have HS2 := hide hs2
 have HB1 := hide hb1
 have HB2 := hide hb2
 have HB3 := hide hb3
 have HP := hide hp
 have HS := hide hss
 have HR := hide hr
 have HL := hide hl
 clear ok hs1 hs2 hb1 hb2 hb3 hp hss hr hl
 have hu0 := Aw h0
 subst hu0
 go_enter Tryz.func48, Tryz.ntmps48
 go_upto_region 1 with fail
 have hO := (Own.push (T := 44) (ls := [.k (eK f), iv n, iv d]) (Own.nil w) (fu.e (fu.v (lh _) (fu.v (lh _) rfl))) (w.heap.size) rfl)
 generalize w.alloc (.cells #[.int .i64 (f 0), .int .i64 (f 1), .int .i64 (f 2), .int .i64 (f 3), .int .i64 (f 4), .int .i64 (f 5), .int .i64 (f 6), .int .i64 n, .int .i64 d] 44) = W0 at *
 have HO := hide hO
 clear hO
 have k1 : Sn f n d = 0 := if_pos g0
 go_upto_region 1 with fail
 refine Rg.di 3 39 (Rg.pick [ax [.k (eK f), iv n, iv d], Rg.au (.int .i64 0), Rg.au (.int .i64 0)]) (az w _ W0) dz [] kr rfl (Rg.ek.pick ⟨bf _, Rg.ae _, Rg.ae _, trivial⟩) (az.begin (aa HO))
  (ah (jc Bt me0 aF [] [.k (eK f), iv n, iv d] [])
  (ah (sc1 Tryz.func31 (aT 0) (fun W v0 hG h0 => k1 ▸ akx W _ h0))
  (ah (ik rfl (aT 1))
  Rg.bg))) ?_
 intro v1 V1 hG1 hv1 hne1
 simp only [Rg.puts, Act.put, tA]
 have e1 : v1 1 = .int .i64 0 := hv1 1 de
 have e2 : v1 2 = .int .i64 0 := hv1 2 de
 simp only [e1, e2]
 have hO := hG1.1
 clear HO
 have HO := hide hO
 clear hO hG1 hv1 hne1
 try clear e1 e2
 go_upto_region 2 with fail
 refine Rg.di 2 39 (Rg.pick [Rg.au (.int .i64 0), Rg.au (.bool false)]) (az w _ V1) dz [] kr rfl (Rg.ek.pick ⟨Rg.ae _, Rg.ae _, trivial⟩) (az.begin (aa HO))
  (ah (df rfl aF)
  (ah (Ba rfl (aT 0) (Rg.je _) rfl rfl)
  Rg.bg)) ?_
 intro v2 V2 hG2 hv2 hne2
 simp only [Rg.puts, Act.put, tA]
 have e1 : v2 1 = .bool false := hv2 1 de
 simp only [e1]
 have hO := hG2.1
 clear HO
 have HO := hide hO
 clear hO hG2 hv2 hne2
 try clear e1
 clear k1
 go_upto_region 4 with fail
 refine Rg.di 1 39 (Rg.pick [Rg.au (.string ⟨#[]⟩)]) (az w _ V2) dz [] kr rfl (Rg.ek.pick ⟨Rg.ae _, trivial⟩) (az.begin (aa HO))
  (ah (ik rfl (Rg.je _))
  Rg.bg) ?_
 intro v3 V3 hG3 hv3 mh
 simp only [Rg.puts, Act.put, tA]
 have e0 : v3 0 = .string ⟨#[]⟩ := hv3 0 de
 simp only [e0]
 have hO := hG3.1
 clear HO
 have HO := hide hO
 clear hO hG3 hv3 mh
 try clear e0
 go_upto_region 5 with fail
 refine Rg.di 4 39 (Rg.pick [Rg.au (.pointer (some ⟨w.heap.size, 7, none⟩)), ax [iv n, iv d], ax [iv 1, iv 1], Rg.au (.bool b3)]) (az w _ V3) dz [] kr rfl (Rg.ek.pick ⟨Rg.ae _, bf _, bf _, Rg.ae _, trivial⟩) (az.begin (aa HO))
  (ah (tq (b := w.heap.size) (off := 0) rfl aF rfl rfl)
  (ah (jc zn me0 (aT 0) [.k (eK f)] [iv n, iv d] [])
  (ah (Md rfl (Rg.je _) (Rg.je _) rfl)
  (ah (bea rfl (aT 1) (aT 2) (aa HB3) rfl)
  Rg.bg)))) ?_
 intro v4 V4 hG4 hv4 tu
 simp only [Rg.puts, Act.put, tA]
 have e3 : v4 3 = .bool b3 := hv4 3 de
 simp only [e3]
 have hO := hG4.1
 clear HO
 have HO := hide hO
 clear hO hG4 hv4 tu
 try clear e3
 go_upto_if 16 with (fail)
 go_cut [5] (fun s5 wx => s5 = .string (tx S) ∧ Own w [(w.heap.size, 44, [.k (eK f), iv n, iv d])] wx)
 case first =>
  cases b3 with
  | true =>
   obtain rfl : S = Wd.nk n d ++ [32] := by rw [aa HS, if_neg (bfa (aa HB3))]
   go_upto_region 6 with fail
   refine Rg.di 5 39 (Rg.pick [Rg.au (.pointer (some ⟨w.heap.size, 7, none⟩)), ax [iv n, iv d], Rg.au (.string (tx (Wd.nk n d))), Rg.au (.string (tx (Wd.nk n d ++ [32]))), Rg.au (.string (tx (Wd.nk n d ++ [32])))]) (az w _ V4) dz [] kr rfl (Rg.ek.pick ⟨Rg.ae _, bf _, Rg.ae _, Rg.ae _, Rg.ae _, trivial⟩) (az.begin (aa HO))
    (ah (tq (b := w.heap.size) (off := 0) rfl aF rfl rfl)
    (ah (jc zn me0 (aT 0) [.k (eK f)] [iv n, iv d] [])
    (ah (sc1 Tryz.func84 (aT 1) (fun W v0 hG h0 => bhs (aa Dz) h0))
    (ah (Dx (q := [32]) rfl (aT 2) (Rg.je _) (by have := aa HL; simp; omega) rfl)
    (ah (ik rfl (aT 3))
    Rg.bg))))) ?_
   intro v5 V5 zz hv5 hne5
   simp only [Rg.puts, Act.put, tA]
   have e3 : v5 3 = .string (tx (Wd.nk n d ++ [32])) := hv5 3 de
   have e4 : v5 4 = .string (tx (Wd.nk n d ++ [32])) := hv5 4 de
   simp only [e3, e4]
   have hO := zz.1
   clear HO
   have HO := hide hO
   clear hO zz hv5 hne5
   try clear e3 e4
   go_wp2_with fail
   go_meet
   exact ⟨rfl, aa HO⟩
  | false =>
   obtain rfl : S = [] := by rw [aa HS, if_pos (bez (aa HB3))]
   go_wp2_with fail
   go_meet
   exact ⟨rfl, aa HO⟩
 case rest =>
  revert hcut
  generalize wc = C5
  intro hcut
  obtain ⟨rfl, Ny⟩ := hcut
  clear HO
  have HO := hide Ny
  clear Ny
  go_upto_region 7 with fail
  refine Rg.region 8 39 (Rg.pick [Rg.au (.pointer (some ⟨w.heap.size, 0, none⟩)), ax [.k (eK f)], Rg.au (.string (tx A)), Rg.au (.pointer (some ⟨w.heap.size, 0, none⟩)), ax [.k (eK f)], Rg.au (.string (tx B)), Rg.au (.string (tx A)), Rg.au (.string (tx B))]) (az w _ C5) dz [] kr kr rfl (Rg.ek.pick ⟨Rg.ae _, bf _, Rg.ae _, Rg.ae _, bf _, Rg.ae _, Rg.ae _, Rg.ae _, trivial⟩) (az.start (aa HO))
   (ah (vw (b := w.heap.size) (off := 0) rfl aF rfl rfl)
   (ah (jc Bu me0 (aT 0) [] [.k (eK f)] [iv n, iv d])
   (ah (sc2 Tryz.func113 (aT 1) (Rg.je _) (fun W v0 v1 hG h0 h1 => by cases h1; exact (aa nz) W _ h0))
   (ah (vw (b := w.heap.size) (off := 0) rfl aF rfl rfl)
   (ah (jc Bu me0 (aT 3) [] [.k (eK f)] [iv n, iv d])
   (ah (sc2 Tryz.func113 (aT 4) (Rg.je _) (fun W v0 v1 hG h0 h1 => by cases h1; exact (aa HS2) W _ h0))
   (ah (ik rfl (aT 2))
   (ah (ik rfl (aT 5))
   Rg.bg)))))))) ?_
  intro v6 V6 Ch hv6 Gp
  simp only [Rg.puts, Act.put, tA]
  have e2 : v6 2 = .string (tx A) := hv6 2 de
  have e5 : v6 5 = .string (tx B) := hv6 5 de
  have e6 : v6 6 = .string (tx A) := hv6 6 de
  have e7 : v6 7 = .string (tx B) := hv6 7 de
  simp only [e2, e5, e6, e7]
  have hO := Ch.1
  clear HO
  have HO := hide hO
  clear hO Ch hv6 Gp
  try clear e2 e5 e6 e7
  go_upto_region 8 with fail
  refine Rg.di 2 39 (Rg.pick [Rg.au (.string (tx A)), Rg.au (.bool b1)]) (az w _ V6) dz [] kr rfl (Rg.ek.pick ⟨Rg.ae _, Rg.ae _, trivial⟩) (az.begin (aa HO))
   (ah (df rfl aF)
   (ah (ame (q := []) rfl (aT 0) (Rg.je _) (aa HB1) rfl)
   Rg.bg)) ?_
  intro v7 V7 Bh hv7 En
  simp only [Rg.puts, Act.put, tA]
  have e1 : v7 1 = .bool b1 := hv7 1 de
  simp only [e1]
  have hO := Bh.1
  clear HO
  have HO := hide hO
  clear hO Bh hv7 En
  try clear e1
  go_upto_if 28 with (fail)
  go_cut [6] (fun s5 wx => s5 = .string (tx P) ∧ Own w [(w.heap.size, 44, [.k (eK f), iv n, iv d])] wx)
  case first =>
   cases b1 with
   | true =>
    obtain rfl : P = [49] := by rw [aa HP, if_pos (of_decide_eq_true (aa HB1))]
    go_wp2_with fail
    go_meet
    exact ⟨rfl, aa HO⟩
   | false =>
    obtain rfl : P = A := by rw [aa HP, if_neg (of_decide_eq_false (aa HB1))]
    go_wp2_with fail
    go_meet
    exact ⟨rfl, aa HO⟩
  case rest =>
   revert hcut
   generalize wc = C8
   intro hcut
   obtain ⟨rfl, Ny⟩ := hcut
   clear HO
   have HO := hide Ny
   clear Ny
   go_upto_region 10 with fail
   refine Rg.di 3 39 (Rg.pick [Rg.au (.string (tx S)), Rg.au (.string (tx P)), Rg.au (.string (tx (S ++ P)))]) (az w _ C8) dz [] kr rfl (Rg.ek.pick ⟨Rg.ae _, Rg.ae _, Rg.ae _, trivial⟩) (az.begin (aa HO))
    (ah (df rfl aF)
    (ah (df rfl aF)
    (ah (Dx rfl (aT 0) (aT 1) (by have := aa HL; omega) rfl)
    Rg.bg))) ?_
   intro v9 V9 Ms Ml Rn
   simp only [Rg.puts, Act.put, tA]
   have e2 : v9 2 = .string (tx (S ++ P)) := Ml 2 de
   simp only [e2]
   have hO := Ms.1
   clear HO
   have HO := hide hO
   clear hO Ms Ml Rn
   try clear e2
   go_upto_region 11 with fail
   refine Rg.di 2 39 (Rg.pick [Rg.au (.string (tx B)), Rg.au (.bool b2)]) (az w _ V9) dz [] kr rfl (Rg.ek.pick ⟨Rg.ae _, Rg.ae _, trivial⟩) (az.begin (aa HO))
    (ah (df rfl aF)
    (ah (Oz (q := []) rfl (aT 0) (Rg.je _) (aa HB2) rfl)
    Rg.bg)) ?_
   intro v10 V10 Ud Jl Zw
   simp only [Rg.puts, Act.put, tA]
   have e1 : v10 1 = .bool b2 := Jl 1 de
   simp only [e1]
   have hO := Ud.1
   clear HO
   have HO := hide hO
   clear hO Ud Jl Zw
   try clear e1
   go_upto_if 33 with (fail)
   go_cut [5] (fun s5 wx => s5 = .string (tx R) ∧ Own w [(w.heap.size, 44, [.k (eK f), iv n, iv d])] wx)
   case first =>
    cases b2 with
    | true =>
     obtain rfl : R = S ++ P ++ ([47] ++ B) := by rw [aa HR, if_neg (by have := aa HB2; simpa using this)]; rfl
     go_upto_region 12 with fail
     refine Rg.di 4 39 (Rg.pick [Rg.au (.string (tx (S ++ P))), Rg.au (.string (tx B)), Rg.au (.string (tx ([47] ++ B))), Rg.au (.string (tx (S ++ P ++ ([47] ++ B))))]) (az w _ V10) dz [] kr rfl (Rg.ek.pick ⟨Rg.ae _, Rg.ae _, Rg.ae _, Rg.ae _, trivial⟩) (az.begin (aa HO))
      (ah (df rfl aF)
      (ah (df rfl aF)
      (ah (Dx (p := [47]) rfl (Rg.je _) (aT 1) (by have := aa HL; simp; omega) rfl)
      (ah (Dx rfl (aT 0) (aT 2) (by have := aa HL; simp; omega) rfl)
      Rg.bg)))) ?_
     intro v11 V11 ahi agp anj
     simp only [Rg.puts, Act.put, tA]
     have e3 : v11 3 = .string (tx (S ++ P ++ ([47] ++ B))) := agp 3 de
     simp only [e3]
     have hO := ahi.1
     clear HO
     have HO := hide hO
     clear hO ahi agp anj
     try clear e3
     go_wp2_with fail
     go_meet
     exact ⟨rfl, aa HO⟩
    | false =>
     obtain rfl : R = S ++ P := by rw [aa HR, if_pos (by have := aa HB2; simpa using this)]
     go_wp2_with fail
     go_meet
     exact ⟨rfl, aa HO⟩
   case rest =>
    revert hcut
    generalize wc = C11
    intro hcut
    obtain ⟨rfl, Ny⟩ := hcut
    clear HO
    have HO := hide Ny
    clear Ny
    go_upto_region 13 with fail
    refine Rg.di 3 39 (Rg.pick [Rg.au (.string (tx R)), Rg.au (.string (tx R)), Rg.au (.int .i64 0)]) (az w _ C11) dz [] kr rfl (Rg.ek.pick ⟨Rg.ae _, Rg.ae _, Rg.ae _, trivial⟩) (az.begin (aa HO))
     (ah (df rfl aF)
     (ah (ik rfl (aT 0))
     (ah (ik rfl (Rg.je _))
     Rg.bg))) ?_
    intro v12 V12 ahh Rl ani
    simp only [Rg.puts, Act.put, tA]
    have e0 : v12 0 = .string (tx R) := Rl 0 de
    have e1 : v12 1 = .string (tx R) := Rl 1 de
    have e2 : v12 2 = .int .i64 0 := Rl 2 de
    simp only [e0, e1, e2]
    have hO := ahh.1
    clear HO
    have HO := hide hO
    clear hO ahh Rl ani
    try clear e0 e1 e2
    go_wp2_with fail
    exact Uh Tryz.results48 rfl rfl (aa HO).bel rfl
end Sb


namespace Sb
def Ja (f : Nat → Int) : List UInt8 := ry (fun j => f j * 1)
def Zi (f : Nat → Int) : List UInt8 := ry (fun j => f j * (-1))
def Cf (f : Nat → Int) : List UInt8 := if Zi f = [] then (if Ja f = [] then [49] else Ja f) else (if Ja f = [] then [49] else Ja f) ++ 47 :: Zi f
def qf (f : Nat → Int) (n d : Int) : List UInt8 := if n = 1 ∧ d = 1 then Cf f else Wd.nk n d ++ [32] ++ Cf f
theorem zb {f : Nat → Int} (hf : xw f) {sg : Int} (hsg : sg = 1 ∨ sg = -1) : ∀ j, j < 7 → wrap64 (sg * f j) = (fun j => f j * sg) j ∧ -9 ≤ (fun j => f j * sg) j ∧ (fun j => f j * sg) j ≤ 9 := fun j hj => by
 have h1 := hf j hj
 show wrap64 (sg * f j) = f j * sg ∧ -9 ≤ f j * sg ∧ f j * sg ≤ 9
 rcases hsg with rfl | rfl
 ·
  exact ⟨(IntWalk.wrap64_in _ om).trans om, by omega, by omega⟩
 ·
  exact ⟨(IntWalk.wrap64_in _ om).trans om, by omega, by omega⟩
theorem Yl {f : Nat → Int} (hf : xw f) : (Ja f).length ≤ 35 := Mi 7 (fun j hj => (zb hf (.inl rfl) j hj).2.2)
theorem Zh {f : Nat → Int} (hf : xw f) : (Zi f).length ≤ 35 := Mi 7 (fun j hj => (zb hf (.inr rfl) j hj).2.2)
theorem aav {f : Nat → Int} (hf : xw f) : (if Ja f = [] then [49] else Ja f : List UInt8).length ≤ 35 := by
 have := Yl hf
 split
 ·
  decide
 ·
  exact this
theorem aku {f : Nat → Int} (hf : xw f) : (Cf f).length ≤ 71 := by
 have h1 := aav hf
 have h2 := Zh hf
 unfold Cf
 split
 ·
  omega
 ·
  rw [List.length_append, List.length_cons]; omega
theorem awy {f : Nat → Int} {n d : Int} (w : World) (hT : og w) (h10 : Nb w) (hbn : Iy w) (ok : Nu f n d) (u0 : Value) (h0 : ax [.k (eK f), iv n, iv d] w u0) :
  Calls Tryz.prog 47 #[u0] w (ic (jw [Rg.au (.string (tx (qf f n d))), Rg.au (.int .i64 0)]) w) :=
 aff (A := Ja f) (B := Zi f) (P := if Ja f = [] then [49] else Ja f) (M := Cf f) (R := qf f n d) w hT h10 hbn ok
  (fun W h => Te (aet ok.1 1 (.inl rfl) W h)) (fun W h => Te (aet ok.1 (-1) (.inr rfl) W h)) rfl rfl rfl rfl rfl
  ⟨by have := Yl ok.1; omega, by have := Zh ok.1; omega, by have := aav ok.1; omega, by have := aku ok.1; omega, by have := Ux ok.2.1; omega⟩ u0 h0
theorem asi {f : Nat → Int} {n d : Int} (w : World) (ok : Nu f n d) (u0 : Value) (h0 : ax [.k (eK f), iv n, iv d] w u0) :
  Calls Tryz.prog 48 #[u0] w (ic (jw [Rg.au (.string (tx (qf f n d))), Rg.au (.int .i64 0)]) w) :=
 adj (A := Ja f) (B := Zi f) (P := if Ja f = [] then [49] else Ja f) (S := if n = 1 ∧ d = 1 then [] else Wd.nk n d ++ [32]) (R := qf f n d) w ok
  (fun W v h => Yx W (zb ok.1 (.inl rfl)) rfl _ h) (fun W v h => Yx W (zb ok.1 (.inr rfl)) rfl _ h) rfl rfl rfl rfl rfl
  (by
   unfold qf Cf
   by_cases g1 : n = 1 ∧ d = 1 <;> by_cases g2 : Zi f = [] <;> simp only [g1, g2, if_true, if_false, List.nil_append, and_self, List.append_assoc])
  ⟨by have := Yl ok.1; omega, by have := Zh ok.1; omega, by have := aav ok.1; omega, by
   have := Ux ok.2.1
   split
   ·
    decide
   ·
    rw [List.length_append]; simp; omega, by have := Ux ok.2.1; omega⟩ u0 h0
end Sb

namespace Sb
theorem arf {c : UInt8} : ∀ {x r : List UInt8}, c ∉ x → Lib.indexByte (x ++ c :: r) c = (x.length : Int)
 | [], r, _ => by rw [List.nil_append, Lib.indexByte]; simp
 | b :: x, r, h => by
  have h1 : ¬ b = c := fun e => h (by rw [e]; exact List.mem_cons_self)
  have h2 := arf (x := x) (r := r) (fun e => h (List.mem_cons_of_mem _ e))
  have h3 : ¬ ((x.length : Int) = -1) := by omega
  rw [List.cons_append, Lib.indexByte, h2]
  simp [h1, h3]
theorem agd (x y : List UInt8) (r : List (List UInt8)) : Lib.join (x :: y :: r) [46] = x ++ 46 :: Lib.join (y :: r) [46] := by
 rw [Lib.join_cons, Lib.join_cons]
 unfold Lib.joinTail
 simp
theorem Yu : ∀ {ps : List (List UInt8)}, ps ≠ [] → (∀ p ∈ ps, (46 : UInt8) ∉ p) → Lib.splitK [46] 0 ((Lib.join ps [46]).count 46) (Lib.join ps [46]) = ps
 | [], h, _ => absurd rfl h
 | [x], _, h => by
  rw [Lib.join_one, List.count_eq_zero.2 (h x List.mem_cons_self)]
  rfl
 | x :: y :: r, _, h => by
  have hx := h x List.mem_cons_self
  have ih := Yu (ps := y :: r) (by simp) (fun p hp => h p (List.mem_cons_of_mem _ hp))
  rw [agd]
  have hc : (x ++ 46 :: Lib.join (y :: r) [46]).count 46 = (Lib.join (y :: r) [46]).count 46 + 1 := by
   rw [List.count_append, List.count_eq_zero.2 hx, List.count_cons_self]; omega
  have hi : Lib.index (x ++ 46 :: Lib.join (y :: r) [46]) [46] = (x.length : Int) := by rw [Lib.index_one, arf hx]
  rw [hc, Lib.splitK, hi, if_neg (by simp), Int.toNat_natCast, Nat.add_zero]
  have e1 : (x ++ 46 :: Lib.join (y :: r) [46]).take x.length = x := List.take_left
  have e2 : (x ++ 46 :: Lib.join (y :: r) [46]).drop (x.length + [46].length) = Lib.join (y :: r) [46] := by
   rw [← List.drop_drop, List.drop_left]
   rfl
  rw [e1]
  exact congrArg (x :: ·) ((congrArg (Lib.splitK [46] 0 _) e2).trans ih)
theorem aiu {ps : List (List UInt8)} (h0 : ps ≠ []) (h : ∀ p ∈ ps, (46 : UInt8) ∉ p) : Lib.splitB ⟨#[46]⟩ 0 (Lib.countB (tx (Lib.join ps [46])) ⟨#[46]⟩) (tx (Lib.join ps [46])) = ps.map tx := by
 have hc : Lib.countB (tx (Lib.join ps [46])) ⟨#[46]⟩ = (Lib.join ps [46]).count 46 := Lib.count_one 46 (Lib.join ps [46])
 have h1 := Lib.splitB_data ⟨#[46]⟩ 0 (Lib.countB (tx (Lib.join ps [46])) ⟨#[46]⟩) (tx (Lib.join ps [46]))
 rw [hc] at h1
 have h2 := h1.trans (Yu h0 h)
 rw [hc]
 have h3 := congrArg (List.map tx) h2
 rw [List.map_map] at h3
 have h4 : (tx ∘ fun (x : ByteArray) => x.data.toList) = id := funext fun s => Il s
 rw [h4, List.map_id] at h3
 exact h3
def pz (z : Nat → Int) : Nat → List (Nat × Int)
 | 0 => []
 | k + 1 => if 0 < z k then pz z k ++ [(k, z k)] else pz z k
theorem Pk (z : Nat → Int) : ∀ k, qy z k = (pz z k).map fun e => piece e.1 e.2
 | 0 => rfl
 | k + 1 => by
  show (if 0 < z k then qy z k ++ [piece k (z k)] else qy z k) = List.map _ (if 0 < z k then pz z k ++ [(k, z k)] else pz z k)
  rw [Pk z k]
  split
  ·
   rw [List.map_append]; rfl
  ·
   rfl
theorem Hw {z : Nat → Int} : ∀ {k : Nat} {e : Nat × Int}, e ∈ pz z k → e.1 < k ∧ 0 < e.2 ∧ e.2 = z e.1
 | 0, e, h => by cases h
 | k + 1, e, h => by
  have h' : e ∈ (if 0 < z k then pz z k ++ [(k, z k)] else pz z k) := h
  by_cases g : 0 < z k
  ·
   rw [if_pos g] at h'
   rcases List.mem_append.1 h' with h2 | h2
   ·
    have := Hw h2; exact ⟨by omega, this.2⟩
   ·
    rw [List.mem_singleton] at h2; subst h2; exact ⟨by omega, g, rfl⟩
  ·
   rw [if_neg g] at h'
   have := Hw h'; exact ⟨by omega, this.2⟩
theorem Za (z : Nat → Int) : ∀ k, (pz z k).length ≤ k
 | 0 => Nat.le_refl _
 | k + 1 => by
  have := Za z k
  unfold pz
  split
  ·
   rw [List.length_append, List.length_singleton]; omega
  ·
   omega
theorem adz {j : Nat} (h : j < 7) : ((bn j).all fun c => Dr (c.toNat : Int)) = true ∧ 0 < (bn j).length ∧ ((bn j).all fun c => c != 46 && c != 47 && c != 32 && c != 49) = true := by
 have hc : j = 0 ∨ j = 1 ∨ j = 2 ∨ j = 3 ∨ j = 4 ∨ j = 5 ∨ j = 6 := by omega
 rcases hc with rfl | rfl | rfl | rfl | rfl | rfl | rfl <;> decide
theorem aht {p : Int} (h1 : 1 < p) (h2 : p ≤ 9) : ∃ i : Nat, p = i ∧ 2 ≤ i ∧ i ≤ 9 := ⟨p.toNat, by omega, by omega, by omega⟩
theorem aqr {j : Nat} {p : Int} (hj : j < 7) (h1 : 0 < p) (h2 : p ≤ 9) {c : UInt8} (h : c ∈ piece j p) : c ≠ 46 ∧ c ≠ 47 ∧ c ≠ 32 := by
 have hb := List.all_eq_true.1 (adz hj).2.2
 have key : c ∈ bn j → c ≠ 46 ∧ c ≠ 47 ∧ c ≠ 32 := fun hm => by
  have := hb c hm
  simp only [Bool.and_eq_true, bne_iff_ne, ne_eq] at this
  exact ⟨this.1.1.1, this.1.1.2, this.1.2⟩
 unfold piece at h
 by_cases g : p = 1
 ·
  rw [if_pos g] at h; exact key h
 ·
  rw [if_neg g, Rj om om] at h
  rcases List.mem_append.1 h with h | h
  ·
   exact key h
  ·
   rw [List.mem_singleton] at h
   subst h
   obtain ⟨i, rfl, g1, g2⟩ := aht (p := p) om h2
   have hc : i = 2 ∨ i = 3 ∨ i = 4 ∨ i = 5 ∨ i = 6 ∨ i = 7 ∨ i = 8 ∨ i = 9 := by omega
   rcases hc with rfl | rfl | rfl | rfl | rfl | rfl | rfl | rfl <;> decide
theorem Mh {z : Nat → Int} {c : UInt8} : ∀ k, c ∈ Lib.join (qy z k) [46] → c = 46 ∨ ∃ p ∈ qy z k, c ∈ p
 | 0, h => by cases h
 | k + 1, h => by
  by_cases g : 0 < z k
  ·
   have e : qy z (k + 1) = qy z k ++ [piece k (z k)] := if_pos g
   rw [e, Hm] at h
   rw [e]
   by_cases g2 : qy z k = []
   ·
    rw [if_pos g2] at h
    exact .inr ⟨_, List.mem_append_right _ List.mem_cons_self, h⟩
   ·
    rw [if_neg g2] at h
    rcases List.mem_append.1 h with h | h
    ·
     rcases Mh k h with h3 | ⟨p, h3, h4⟩
     ·
      exact .inl h3
     ·
      exact .inr ⟨p, List.mem_append_left _ h3, h4⟩
    ·
     rcases List.mem_cons.1 h with h | h
     ·
      exact .inl h
     ·
      exact .inr ⟨_, List.mem_append_right _ List.mem_cons_self, h⟩
  ·
   have e : qy z (k + 1) = qy z k := if_neg g
   rw [e] at h ⊢
   exact Mh k h
theorem Mc {z : Nat → Int} (hz : ∀ j, j < 7 → z j ≤ 9) : (∀ p ∈ qy z 7, (46 : UInt8) ∉ p) ∧ (47 : UInt8) ∉ ry z ∧ (32 : UInt8) ∉ ry z := by
 have key : ∀ p ∈ qy z 7, ∀ c ∈ p, c ≠ 46 ∧ c ≠ 47 ∧ c ≠ 32 := fun p hp c hc => by
  rw [Pk] at hp
  obtain ⟨e, he, rfl⟩ := List.mem_map.1 hp
  obtain ⟨a1, a2, a3⟩ := Hw he
  exact aqr a1 a2 (by rw [a3]; exact hz _ a1) hc
 refine ⟨fun p hp h => (key p hp _ h).1 rfl, fun h => ?_, fun h => ?_⟩
 ·
  rcases Mh 7 h with h | ⟨p, hp, h⟩
  ·
   exact absurd h de
  ·
   exact (key p hp _ h).2.1 rfl
 ·
  rcases Mh 7 h with h | ⟨p, hp, h⟩
  ·
   exact absurd h de
  ·
   exact (key p hp _ h).2.2 rfl
theorem aun {j : Nat} {p : Int} (hj : j < 7) (h1 : 0 < p) (h2 : p ≤ 9) (W : World) : Calls Tryz.prog 209 #[.string (tx (piece j p))] W (ic (Us (tx (bn j)) p true) W) := by
 obtain ⟨b1, b2, _⟩ := adz hj
 have b3 := Mw j
 have hall := List.all_eq_true.1 b1
 by_cases g : p = 1
 ·
  subst g
  have e : piece j 1 = bn j := if_pos rfl
  rw [e]
  exact aaz (tx (bn j)) (fun i hi => by
   have h' : i < (bn j).length := by rw [zf] at hi; exact hi
   have h := hall _ (List.getElem_mem h')
   exact h) (by rw [zf]; exact b2) (by rw [zf]; omega) W
 ·
  have e : piece j p = bn j ++ [UInt8.ofNat (48 + p.toNat)] := (if_neg g).trans (by rw [Rj om om])
  rw [e]
  have hs : (tx (bn j ++ [UInt8.ofNat (48 + p.toNat)])).size = (bn j).length + 1 := by rw [zf, List.length_append]; rfl
  obtain ⟨i, rfl, g1, g2⟩ := aht (p := p) om h2
  have hd : Dr ((UInt8.ofNat (48 + i)).toNat : Int) = false ∧ 49 ≤ (UInt8.ofNat (48 + i)).toNat ∧ (UInt8.ofNat (48 + i)).toNat ≤ 57 ∧ (i : Int) = ((UInt8.ofNat (48 + i)).toNat : Int) - 48 := by
   have hc : i = 2 ∨ i = 3 ∨ i = 4 ∨ i = 5 ∨ i = 6 ∨ i = 7 ∨ i = 8 ∨ i = 9 := by omega
   rcases hc with rfl | rfl | rfl | rfl | rfl | rfl | rfl | rfl <;> decide
  have h := aqg (tx (bn j ++ [UInt8.ofNat (48 + ((i : Nat) : Int).toNat)])) (bn j).length (UInt8.ofNat (48 + i)) i b2 (by rw [hs]; omega) hs (fun q hq hlt => by
   have h : Dr ((((bn j) ++ [UInt8.ofNat (48 + ((i : Nat) : Int).toNat)])[q]'(by rw [List.length_append]; omega)).toNat : Int) = true := by
    rw [List.getElem_append_left hlt]
    exact hall _ (List.getElem_mem hlt)
   exact h) (by
   have h : ((bn j) ++ [UInt8.ofNat (48 + ((i : Nat) : Int).toNat)])[(bn j).length]'(by rw [List.length_append]; simp) = UInt8.ofNat (48 + i) := by
    rw [List.getElem_append_right (Nat.le_refl _)]
    simp
   exact h) hd.1 hd.2.1 hd.2.2.1 hd.2.2.2 (by rw [hs]; omega) W
  have hx : (tx (bn j ++ [UInt8.ofNat (48 + ((i : Nat) : Int).toNat)])).extract 0 (bn j).length = tx (bn j) := by
   rw [← Il (ByteArray.extract _ _ _), Lib.extract_from_zero]
   show tx (List.take _ (bn j ++ _)) = _
   rw [List.take_left]
  rw [hx] at h
  exact h
end Sb

namespace Sb
def FS : List (Nat × Int) → Nat → Int
 | [], _ => 0
 | e :: r, j => (if j = e.1 then e.2 else 0) + FS r j
theorem aap (j : Nat) (k : List (Nat × Int)) : ∀ l : List (Nat × Int), FS (l ++ k) j = FS l j + FS k j
 | [] => by show FS k j = 0 + FS k j; omega
 | e :: r => by
  show (if j = e.1 then e.2 else 0) + FS (r ++ k) j = ((if j = e.1 then e.2 else 0) + FS r j) + FS k j
  rw [aap j k r]; omega
theorem ath (j : Nat) : ∀ l : List (Nat × Int), FS (l.map fun e => (e.1, -e.2)) j = -FS l j
 | [] => rfl
 | e :: r => by
  show (if j = e.1 then -e.2 else 0) + FS (r.map fun e => (e.1, -e.2)) j = -((if j = e.1 then e.2 else 0) + FS r j)
  rw [ath j r]
  split <;> omega
theorem aoh (z : Nat → Int) (j : Nat) : ∀ k, FS (pz z k) j = if j < k ∧ 0 < z j then z j else 0
 | 0 => by rw [if_neg om]; rfl
 | k + 1 => by
  have ih := aoh z j k
  by_cases g : 0 < z k
  ·
   have e : pz z (k + 1) = pz z k ++ [(k, z k)] := if_pos g
   rw [e, aap, ih]
   show _ + ((if j = k then z k else 0) + 0) = _
   by_cases h : j = k
   ·
    subst h
    rw [if_neg om, if_pos rfl, if_pos ⟨by omega, g⟩]; omega
   ·
    rw [if_neg h]
    by_cases h2 : j < k ∧ 0 < z j
    ·
     rw [if_pos h2, if_pos ⟨by omega, h2.2⟩]; omega
    ·
     rw [if_neg h2, if_neg om]; omega
  ·
   have e : pz z (k + 1) = pz z k := if_neg g
   rw [e, ih]
   by_cases h : j = k
   ·
    subst h
    rw [if_neg om, if_neg om]
   ·
    by_cases h2 : j < k ∧ 0 < z j
    ·
     rw [if_pos h2, if_pos ⟨by omega, h2.2⟩]
    ·
     rw [if_neg h2, if_neg om]
theorem bab (j : Nat) : ∀ l : List (Nat × Int), (∀ e ∈ l, -9 ≤ e.2 ∧ e.2 ≤ 9) → -(9 * (l.length : Int)) ≤ FS l j ∧ FS l j ≤ 9 * (l.length : Int)
 | [], _ => by show -(9 * ((0 : Nat) : Int)) ≤ 0 ∧ 0 ≤ 9 * ((0 : Nat) : Int); omega
 | e :: r, h => by
  have h1 := bab j r fun x hx => h x (List.mem_cons_of_mem _ hx)
  have h2 := h e List.mem_cons_self
  have h3 : (((e :: r).length : Nat) : Int) = (r.length : Int) + 1 := by rw [List.length_cons]; omega
  show _ ≤ (if j = e.1 then e.2 else 0) + FS r j ∧ (if j = e.1 then e.2 else 0) + FS r j ≤ _
  rw [h3]
  split <;> omega
def fx (l : List (Nat × Int)) : List (ByteArray × Int) := l.map fun e => (tx (bn e.1), e.2)
def uv (i : Nat) : Nat → Int := fun j => if j = i then 1 else 0
theorem bcg : findT (tx (bn 0)) wu = some (xz (uv 0) 1 1) := by kernel_rfl
theorem bcf : findT (tx (bn 1)) wu = some (xz (uv 1) 1 1) := by kernel_rfl
theorem bcd : findT (tx (bn 2)) wu = some (xz (uv 2) 1 1) := by kernel_rfl
theorem bcc : findT (tx (bn 3)) wu = some (xz (uv 3) 1 1) := by kernel_rfl
theorem bcb : findT (tx (bn 4)) wu = some (xz (uv 4) 1 1) := by kernel_rfl
theorem bca : findT (tx (bn 5)) wu = some (xz (uv 5) 1 1) := by kernel_rfl
theorem bbz : findT (tx (bn 6)) wu = some (xz (uv 6) 1 1) := by kernel_rfl
theorem bhj {i : Nat} (h : i < 7) : findT (tx (bn i)) wu = some (xz (uv i) 1 1) := by
 have hc : i = 0 ∨ i = 1 ∨ i = 2 ∨ i = 3 ∨ i = 4 ∨ i = 5 ∨ i = 6 := by omega
 rcases hc with rfl | rfl | rfl | rfl | rfl | rfl | rfl
 ·
  exact bcg
 ·
  exact bcf
 ·
  exact bcd
 ·
  exact bcc
 ·
  exact bcb
 ·
  exact bca
 ·
  exact bbz
theorem q11 : Wd.qR 1 1 = 1 := by kernel_rfl
theorem aus (p : Int) : Hy (Wd.qR 1 1) p = Wd.qR 1 1 := by
 have hp : ∀ n : Nat, (1 : Rat) ^ n = 1 := fun n => by
  induction n with
  | zero => exact Rat.pow_zero _
  | succ n ih => rw [Rat.pow_succ, ih, Rat.mul_one]
 have hi : (1 : Rat)⁻¹ = 1 := by kernel_rfl
 rw [q11]; unfold Hy
 split
 ·
  rw [hi, hp]
 ·
  rw [hp]
theorem akg (L : List (Nat × Int)) (hL : ∀ e ∈ L, e.1 < 7 ∧ -9 ≤ e.2 ∧ e.2 ≤ 9) (hn : L.length ≤ 14) (W : World) (ao : Option Addr) (c : Nat) (hT : og W) (hf : Sa W ao (fx L)) :
  Calls Tryz.prog 117 #[.slice ao (fx L).length c] W (ic (jw [ax [.k (eK (FS L)), .q (Wd.qR 1 1)], Rg.au (.bool true)]) W) := by
 have hlen : (fx L).length = L.length := List.length_map _
 have h := acg (ao := ao) (n := L.length) (c := c) (F := fun k => FS (L.take k)) (X := fun _ => Wd.qR 1 1) W hT om (by rw [List.take_zero]; rfl) rfl Cc (fun k hk => by
  obtain ⟨e, he⟩ : ∃ e, L[k]? = some e := ⟨_, List.getElem?_eq_getElem hk⟩
  have hm := List.mem_of_getElem? he
  obtain ⟨h1, h2, h3⟩ := hL e hm
  obtain ⟨g, eg, hat⟩ := hf k (tx (bn e.1), e.2) (by unfold fx; rw [List.getElem?_map, he]; rfl)
  have ht : L.take (k + 1) = L.take k ++ [e] := by rw [List.take_add_one, he]; rfl
  exact ⟨g, eg, _, _, Yq hat (fun W r _ hm => Yb (f := uv e.1) (n := 1) (d := 1) W hm (bhj h1) Cc) Cc Cc Cc ⟨by omega, by omega⟩ (q := fun j => if j = e.1 then e.2 else 0) (fun j hj => by
    show wrap64 ((if j = e.1 then 1 else 0) * e.2) = if j = e.1 then e.2 else 0
    by_cases g : j = e.1
    ·
     rw [if_pos g, if_pos g, Int.one_mul]; exact IntWalk.wrap64_in _ om
    ·
     rw [if_neg g, if_neg g, Int.zero_mul]; exact IntWalk.wrap64_in _ om) auy (aus _) (fun j hj => by
    have hb := bab j (L.take k) fun x hx => (hL x (List.mem_of_mem_take hx)).2
    have hl : (L.take k).length ≤ 14 := by rw [List.length_take]; omega
    show wrap64 (FS (L.take k) j + (if j = e.1 then e.2 else 0)) = FS (L.take (k + 1)) j
    rw [ht, aap]
    show _ = _ + ((if j = e.1 then e.2 else 0) + 0)
    rw [Int.add_zero]
    exact IntWalk.wrap64_in _ (by split <;> omega)) ayi⟩)
 rw [List.take_length] at h
 rw [hlen]
 exact h
theorem asc {s : ByteArray} {c : UInt8} (hn : c ∉ s.data.toList) (hs : s.size ≤ 1000) (W : World) :
  Calls Tryz.prog 155 #[.string s, .string ⟨#[c]⟩] W fun e w' => e = .returned (.tuple #[.string s, .string ⟨#[]⟩, .bool false]) ∧ Below W.heap.size W w' := by
 refine (Kb s ⟨#[c]⟩ c rfl W om).mono ?_
 rintro e w' ⟨x, y, f, rfl, hb, ⟨rfl, h1, h2⟩ | ⟨rfl, rfl, h1, h2⟩⟩
 ·
  exact absurd (by rw [h1]; exact List.mem_append_right _ List.mem_cons_self) hn
 ·
  have e : y = ⟨#[]⟩ := (Il y).symm.trans (by rw [h1])
  subst e
  exact ⟨rfl, hb⟩
theorem apd {s a b : ByteArray} (h : s.data.toList = a.data.toList ++ 32 :: b.data.toList) (hn : (32 : UInt8) ∉ a.data.toList) (hs : s.size ≤ 600) (w : World) :
  Calls Tryz.prog 114 #[.string s] w (ic (jw [Rg.au (.string a), Rg.au (.string b)]) w) := by
 have HC := hide (fun W => Ve (c := 32) h hn om W)
 clear h hn hs
 go_enter Tryz.func114, Tryz.ntmps114
 go_wp2_with fail
 refine ((aa HC) _).mono ?_
 rintro e W1 ⟨rfl, hb⟩
 dsimp only
 go_wp2_with fail
 go_ret2
 exact ⟨_, rfl, hb, [_, _], rfl, _, _, rfl, rfl, _, _, rfl, rfl, rfl⟩
theorem piece_ne {j : Nat} (hj : j < 7) (p : Int) : piece j p ≠ [] := by
 have h := (adz hj).2.1
 unfold piece
 split
 ·
  exact List.ne_nil_of_length_pos h
 ·
  exact List.append_ne_nil_of_left_ne_nil (List.ne_nil_of_length_pos h) _
theorem aut {j : Nat} {p : Int} (hj : j < 7) (h1 : 0 < p) (h2 : p ≤ 9) : (49 : UInt8) ∉ piece j p := by
 have hb := List.all_eq_true.1 (adz hj).2.2
 have key : (49 : UInt8) ∉ bn j := fun hm => by
  exact absurd (hb _ hm) de
 intro h
 unfold piece at h
 by_cases g : p = 1
 ·
  rw [if_pos g] at h; exact key h
 ·
  rw [if_neg g, Rj om om] at h
  rcases List.mem_append.1 h with h | h
  ·
   exact key h
  ·
   rw [List.mem_singleton] at h
   obtain ⟨i, rfl, g1, g2⟩ := aht (p := p) om h2
   have hc : i = 2 ∨ i = 3 ∨ i = 4 ∨ i = 5 ∨ i = 6 ∨ i = 7 ∨ i = 8 ∨ i = 9 := by omega
   rcases hc with rfl | rfl | rfl | rfl | rfl | rfl | rfl | rfl <;> exact absurd h de
theorem bam {z : Nat → Int} (hz : ∀ j, j < 7 → z j ≤ 9) : (49 : UInt8) ∉ ry z := fun h => by
 rcases Mh 7 h with h | ⟨p, hp, h⟩
 ·
  exact absurd h de
 ·
  rw [Pk] at hp
  obtain ⟨e, he, rfl⟩ := List.mem_map.1 hp
  obtain ⟨a1, a2, a3⟩ := Hw he
  exact aut a1 a2 (by rw [a3]; exact hz _ a1) h
theorem Xb {z : Nat → Int} (h : ry z = []) : pz z 7 = [] := by
 cases e : pz z 7 with
 | nil => rfl
 | cons x r =>
  exfalso
  have hx : x ∈ pz z 7 := by rw [e]; exact List.mem_cons_self
  have h1 := piece_ne (Hw hx).1 x.2
  unfold ry at h
  rw [Pk, e, List.map_cons] at h
  cases r with
  | nil => rw [List.map_nil, Lib.join_one] at h; exact h1 h
  | cons y r => rw [List.map_cons, agd] at h; exact absurd h (by simp)
theorem Nq {z : Nat → Int} (hz : ∀ j, j < 7 → z j ≤ 9) (hne : ry z ≠ []) (hl : (ry z).length ≤ 600) (l : List (Nat × Int)) (hll : l.length ≤ 7) (sg : Int) (hsg : sg = 1 ∨ sg = -1) (w0 W : World) (v : Value) (hf : Ao W w0.heap.size v (fx l)) (hb : Below w0.heap.size w0 W) :
  Calls Tryz.prog 170 #[v, .string (tx (ry z)), .int .i64 sg] W fun e w' => Vo w0 (fx (l ++ (pz z 7).map fun e => (e.1, e.2 * sg))) e w' := by
 have hp0 : qy z 7 ≠ [] := fun h => hne (by unfold ry; rw [h]; rfl)
 have h := abb (tx (ry z)) ((qy z 7).map tx) (fx (pz z 7)) (fx l) sg v w0 W (aiu hp0 (Mc hz).1) (by rw [zf]; exact hl)
  (by unfold fx; rw [Pk, List.length_map, List.length_map, List.length_map]) (by unfold fx; rw [List.length_map]; omega)
  (fun k p f hp hf W => by
   rw [Pk, List.map_map, List.getElem?_map] at hp
   unfold fx at hf
   rw [List.getElem?_map] at hf
   cases he : (pz z 7)[k]? with
   | none => rw [he] at hp; cases hp
   | some e =>
    rw [he] at hp hf
    cases hp
    cases hf
    obtain ⟨a1, a2, a3⟩ := Hw (List.mem_of_getElem? he)
    exact aun a1 a2 (by rw [a3]; exact hz _ a1) W) hf hb
 have e : fx l ++ (fx (pz z 7)).map (fun (f : ByteArray × Int) => (f.1, wrap64 (f.2 * sg))) = fx (l ++ (pz z 7).map fun e => (e.1, e.2 * sg)) := by
  unfold fx
  rw [List.map_append, List.map_map, List.map_map]
  refine congrArg _ (List.map_congr_left fun e he => ?_)
  obtain ⟨a1, a2, a3⟩ := Hw he
  have a4 := hz _ a1
  show (tx (bn e.1), wrap64 (e.2 * sg)) = (tx (bn e.1), e.2 * sg)
  rw [IntWalk.wrap64_in _ (by rcases hsg with rfl | rfl <;> omega)]
 rw [e] at h
 exact h
end Sb

namespace Sb
def Jz (f : Nat → Int) : Nat → Int := fun j => f j * 1
def Ng (f : Nat → Int) : Nat → Int := fun j => f j * (-1)
def Fh (f : Nat → Int) : List (Nat × Int) := pz (Jz f) 7 ++ (pz (Ng f) 7).map fun e => (e.1, -e.2)
theorem aks {f : Nat → Int} (hf : xw f) : ∀ e ∈ Fh f, e.1 < 7 ∧ -9 ≤ e.2 ∧ e.2 ≤ 9 := fun e he => by
 rcases List.mem_append.1 he with h | h
 ·
  obtain ⟨a1, a2, a3⟩ := Hw h
  have a4 := hf _ a1
  have a5 : e.2 = f e.1 * 1 := a3
  exact ⟨a1, by omega, by omega⟩
 ·
  obtain ⟨g, hg, rfl⟩ := List.mem_map.1 h
  obtain ⟨a1, a2, a3⟩ := Hw hg
  have a4 := hf _ a1
  have a5 : g.2 = f g.1 * (-1) := a3
  exact ⟨a1, by show -9 ≤ -g.2; omega, by show -g.2 ≤ 9; omega⟩
theorem ahk (f : Nat → Int) : (Fh f).length ≤ 14 := by
 have h1 := Za (Jz f) 7
 have h2 := Za (Ng f) 7
 unfold Fh
 rw [List.length_append, List.length_map]; omega
theorem akt (f : Nat → Int) {j : Nat} (hj : j < 7) : FS (Fh f) j = f j := by
 unfold Fh
 rw [aap, ath, aoh, aoh]
 show (if j < 7 ∧ 0 < f j * 1 then f j * 1 else 0) + -(if j < 7 ∧ 0 < f j * (-1) then f j * (-1) else 0) = f j
 by_cases h1 : 0 < f j
 ·
  rw [if_pos ⟨hj, by omega⟩, if_neg om]; omega
 ·
  by_cases h2 : f j < 0
  ·
   rw [if_neg om, if_pos ⟨hj, by omega⟩]; omega
  ·
   rw [if_neg om, if_neg om]; omega
theorem cz (l : List (Nat × Int)) : (l.map fun e => (e.1, e.2 * (-1))) = l.map fun e => (e.1, -e.2) := List.map_congr_left fun e _ => by rw [Int.mul_neg, Int.mul_one]
theorem bew (l : List (Nat × Int)) : (l.map fun e => (e.1, e.2 * 1)) = l := by
 have : (fun (e : Nat × Int) => (e.1, e.2 * 1)) = id := funext fun e => by rw [Int.mul_one]; rfl
 rw [this, List.map_id]
theorem bfd {z : Nat → Int} (hz : ∀ j, j < 7 → z j ≤ 9) : ((tx (ry z)).toList == [49]) = false := by
 rw [Gv]
 cases e : (ry z == [49]) with
 | false => rfl
 | true =>
  have := eq_of_beq e
  exact absurd (by rw [this]; exact List.mem_cons_self) (bam hz)
theorem is1 : ((tx [49]).toList == [49]) = true := by rw [Gv]; rfl
theorem afd {f : Nat → Int} (hf : xw f) (w : World) : Calls Tryz.prog 115 #[.string (tx (Cf f))] w (ic (jw [Fj (fx (Fh f)), Rg.au (.bool true)]) w) := by
 have zu : ∀ j, j < 7 → Jz f j ≤ 9 := fun j hj => by have := hf j hj; show f j * 1 ≤ 9; omega
 have zl : ∀ j, j < 7 → Ng f j ≤ 9 := fun j hj => by have := hf j hj; show f j * (-1) ≤ 9; omega
 have lu : (ry (Jz f)).length ≤ 35 := Yl hf
 have ll : (ry (Ng f)).length ≤ 35 := Zh hf
 have su := Mc zu
 have sl := Mc zl
 have eu : Ja f = ry (Jz f) := rfl
 have el : Zi f = ry (Ng f) := rfl
 by_cases gl : Zi f = []
 ·
  have el0 : pz (Ng f) 7 = [] := Xb (el.symm.trans gl)
  have ef : Fh f = pz (Jz f) 7 := by unfold Fh; rw [el0, List.map_nil, List.append_nil]
  by_cases gu : Ja f = []
  ·
   have eu0 : pz (Jz f) 7 = [] := Xb (eu.symm.trans gu)
   have ed : Cf f = [49] := by unfold Cf; rw [if_pos gl, if_pos gu]
   rw [ed, ef, eu0]
   exact aqk (tx [49]) (tx [49]) ⟨#[]⟩ [] w (fun W => asc de de W) is1 rfl
  ·
   have ed : Cf f = ry (Jz f) := by unfold Cf; rw [if_pos gl, if_neg gu, eu]
   rw [ed, ef]
   refine auq (tx (ry (Jz f))) (tx (ry (Jz f))) ⟨#[]⟩ _ w (fun W => asc (by rw [Gw]; exact su.2.1) (by rw [zf]; omega) W) (bfd zu) (fun w0 W v h1 h2 => ?_)
   have h := Nq zu gu om [] (by decide) 1 (.inl rfl) w0 W v h1 h2
   rw [List.nil_append, bew] at h
   exact h
 ·
  by_cases gu : Ja f = []
  ·
   have eu0 : pz (Jz f) 7 = [] := Xb (eu.symm.trans gu)
   have ef : Fh f = (pz (Ng f) 7).map fun e => (e.1, -e.2) := by unfold Fh; rw [eu0, List.nil_append]
   have ed : Cf f = [49] ++ 47 :: ry (Ng f) := by unfold Cf; rw [if_neg gl, if_pos gu, el]
   rw [ed, ef]
   refine aur (tx ([49] ++ 47 :: ry (Ng f))) (tx [49]) (tx (ry (Ng f))) _ w (fun W => Ve (c := 47) rfl de (by rw [zf, List.length_append, List.length_cons]; simp; omega) W) is1 (fun w0 W v h1 h2 => ?_)
   have h := Nq zl gl om [] (by decide) (-1) (.inr rfl) w0 W v h1 h2
   rw [List.nil_append, cz] at h
   exact h
  ·
   have ed : Cf f = ry (Jz f) ++ 47 :: ry (Ng f) := by unfold Cf; rw [if_neg gl, if_neg gu, eu, el]
   rw [ed]
   refine akb (tx (ry (Jz f) ++ 47 :: ry (Ng f))) (tx (ry (Jz f))) (tx (ry (Ng f))) (fx (pz (Jz f) 7)) _ w (fun W => Ve (c := 47) rfl (by rw [Gw]; exact su.2.1) (by rw [zf, List.length_append, List.length_cons]; omega) W) (bfd zu) (fun w0 W v h1 h2 => ?_) (fun w0 W v h1 h2 => ?_)
   ·
    have h := Nq zu gu om [] (by decide) 1 (.inl rfl) w0 W v h1 h2
    rw [List.nil_append, bew] at h
    exact h
   ·
    have h := Nq zl gl om (pz (Jz f) 7) (Za _ 7) (-1) (.inr rfl) w0 W v h1 h2
    rw [cz] at h
    exact h
theorem bho {f : Nat → Int} (hf : xw f) : (32 : UInt8) ∉ Cf f := by
 have su := (Mc (z := Jz f) fun j hj => by have := hf j hj; show f j * 1 ≤ 9; omega).2.2
 have sl := (Mc (z := Ng f) fun j hj => by have := hf j hj; show f j * (-1) ≤ 9; omega).2.2
 have st : (32 : UInt8) ∉ (if Ja f = [] then [49] else Ja f : List UInt8) := by
  split
  ·
   decide
  ·
   exact su
 intro h
 unfold Cf at h
 by_cases g : Zi f = []
 ·
  rw [if_pos g] at h; exact st h
 ·
  rw [if_neg g] at h
  rcases List.mem_append.1 h with h | h
  ·
   exact st h
  ·
   rcases List.mem_cons.1 h with h | h
   ·
    exact absurd h de
   ·
    exact sl h
theorem bhp (n : Nat) : (32 : UInt8) ∉ Lib.decDigits n := Wd.Uj n de
theorem agi {n : Int} (h : 0 ≤ n) : (32 : UInt8) ∉ Lib.itoa n := by
 unfold Lib.itoa
 rw [if_neg om]
 exact bhp _
theorem bdl {n d : Int} (ok : Wd.qm n d) (h1 : 1 ≤ n) : (32 : UInt8) ∉ Wd.nk n d := fun h => by
 unfold Wd.nk at h
 by_cases g : d = 1
 ·
  rw [if_pos g] at h; exact agi om h
 ·
  rw [if_neg g] at h
  rcases List.mem_append.1 h with h | h
  ·
   exact agi om h
  ·
   rcases List.mem_cons.1 h with h | h
   ·
    exact absurd h de
   ·
    exact agi (by have := ok.1; omega) h
theorem ami {n d : Int} (ok : Wd.qm n d) (hl : (Wd.nk n d).length ≤ 1000) (w : World) (hT : og w) : Calls Tryz.prog 24 #[.string (tx (Wd.nk n d))] w (ic (jw [ax [iv n, iv d], Rg.au (.int .i64 0)]) w) := by
 refine (acf (tx (Wd.nk n d)) w hT (by rw [zf]; omega)).mono ?_
 rintro e w' ⟨rfl, hb⟩
 rw [Gw, Wd.ace ok]
 exact ⟨_, rfl, hb, [_, _], rfl, _, _, rfl, Bd _ _ _, _, _, rfl, rfl, rfl⟩
theorem ajt {f : Nat → Int} {n d : Int} (ok : Nu f n d) : ru f (Wd.qR n d) = ⟨f, n, d, 0⟩ := by
 unfold ru
 rw [if_pos ok.1, Wd.Lg ok.2.1]
 rfl
theorem ajb {f : Nat → Int} {n d : Int} (w : World) (hT : og w) (ok : Nu f n d) : Calls Tryz.prog 49 #[.string (tx (qf f n d))] w (ic (UnT ⟨f, n, d, 0⟩) w) := by
 have htx := Ux ok.2.1
 have hdl := aku ok.1
 rw [← ajt ok]
 by_cases g : n = 1 ∧ d = 1
 ·
  obtain ⟨rfl, rfl⟩ := g
  have e : qf f 1 1 = Cf f := by unfold qf; rw [if_pos ⟨rfl, rfl⟩]
  rw [e]
  exact Ey (a := ⟨#[49]⟩) (b := tx (Cf f)) (n := 1) (d := 1) (fs := fx (Fh f)) (F := FS (Fh f)) (X := Wd.qR 1 1) w hT (decide_eq_false (by rw [zf]; omega)) Cc de
   (fun W => aer (by rw [Gw]; exact bho ok.1) (by rw [zf]; omega) W) (fun W h => Yy W h) (fun W => afd ok.1 W) (fun W ao c h hf => akg _ (aks ok.1) (ahk f) W ao c h hf)
   (fun W v0 v1 h h0 h1 => Ka W v0 h0 v1 h1 (fun j hj => by
    show wrap64 (0 + FS (Fh f) j) = f j
    rw [Int.zero_add, akt f hj]
    exact IntWalk.wrap64_in _ (by have := ok.1 j hj; omega)) (fun W' x y hb g0 g1 => Pf ayi (Vk (h.below hb) (Eg Cc) (Eg Cc) g0 g1)))
 ·
  have e : qf f n d = Wd.nk n d ++ 32 :: Cf f := by unfold qf; rw [if_neg g, List.append_assoc]; rfl
  rw [e]
  exact Ey (a := tx (Wd.nk n d)) (b := tx (Cf f)) (n := n) (d := d) (fs := fx (Fh f)) (F := FS (Fh f)) (X := Wd.qR 1 1) w hT (decide_eq_false (by rw [zf, List.length_append, List.length_cons]; omega)) ok.2.1 (decide_eq_true (by have := ok.2.2; omega))
   (fun W => apd (by rw [Gw, Gw, Gw]) (by rw [Gw]; exact bdl ok.2.1 ok.2.2) (by rw [zf, List.length_append, List.length_cons]; omega) W) (fun W h => ami ok.2.1 om W h) (fun W => afd ok.1 W) (fun W ao c h hf => akg _ (aks ok.1) (ahk f) W ao c h hf)
   (fun W v0 v1 h h0 h1 => Ka W v0 h0 v1 h1 (fun j hj => by
    show wrap64 (0 + FS (Fh f) j) = f j
    rw [Int.zero_add, akt f hj]
    exact IntWalk.wrap64_in _ (by have := ok.1 j hj; omega)) (fun W' x y hb g0 g1 => Pf (by rw [q11, Rat.mul_one]) (Vk (h.below hb) (Eg ok.2.1) (Eg Cc) g0 g1)))
end Sb
end Go.Proofs.YtfgeaakhlcaibaaGreatDoor
