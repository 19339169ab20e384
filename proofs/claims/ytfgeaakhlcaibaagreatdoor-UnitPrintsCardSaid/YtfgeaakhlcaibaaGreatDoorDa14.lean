/- Texts beneath a law of layer 1. -/
import Derived.Test.YtfgeaakhlcaibaaGreatDoorDa13
import Derived.Lib.Strings
import Derived.Lib.IndexLaws
import Derived.Lib.CutLaws
set_option maxRecDepth 100000
set_option maxHeartbeats 16000000
namespace Go.Proofs.YtfgeaakhlcaibaaGreatDoor
open Go.RowKit

namespace Sb
theorem adf {w W : World} {r : Nat} {o : Obj} (h : Below w.heap.size w W) (hr : w.heap.size ≤ r) : Below w.heap.size w { W with heap := W.heap.setIfInBounds r o } :=
 ⟨h.os, h.tape, h.output, by simpa using h.size, fun k hk => by simpa [Array.getElem?_setIfInBounds, show r ≠ k by omega] using h.block k hk⟩
def wu : List (ByteArray × Value) := [(⟨#[109]⟩, .agg #[.int .i64 1, .int .i64 0, .int .i64 0, .int .i64 0, .int .i64 0, .int .i64 0, .int .i64 0, .int .i64 1, .int .i64 1]), (⟨#[107, 103]⟩, .agg #[.int .i64 0, .int .i64 1, .int .i64 0, .int .i64 0, .int .i64 0, .int .i64 0, .int .i64 0, .int .i64 1, .int .i64 1]), (⟨#[115]⟩, .agg #[.int .i64 0, .int .i64 0, .int .i64 1, .int .i64 0, .int .i64 0, .int .i64 0, .int .i64 0, .int .i64 1, .int .i64 1]), (⟨#[65]⟩, .agg #[.int .i64 0, .int .i64 0, .int .i64 0, .int .i64 1, .int .i64 0, .int .i64 0, .int .i64 0, .int .i64 1, .int .i64 1]), (⟨#[75]⟩, .agg #[.int .i64 0, .int .i64 0, .int .i64 0, .int .i64 0, .int .i64 1, .int .i64 0, .int .i64 0, .int .i64 1, .int .i64 1]), (⟨#[109, 111, 108]⟩, .agg #[.int .i64 0, .int .i64 0, .int .i64 0, .int .i64 0, .int .i64 0, .int .i64 1, .int .i64 0, .int .i64 1, .int .i64 1]), (⟨#[99, 100]⟩, .agg #[.int .i64 0, .int .i64 0, .int .i64 0, .int .i64 0, .int .i64 0, .int .i64 0, .int .i64 1, .int .i64 1, .int .i64 1]), (⟨#[103]⟩, .agg #[.int .i64 0, .int .i64 1, .int .i64 0, .int .i64 0, .int .i64 0, .int .i64 0, .int .i64 0, .int .i64 1, .int .i64 1000]), (⟨#[72, 122]⟩, .agg #[.int .i64 0, .int .i64 0, .int .i64 (-1), .int .i64 0, .int .i64 0, .int .i64 0, .int .i64 0, .int .i64 1, .int .i64 1]), (⟨#[78]⟩, .agg #[.int .i64 1, .int .i64 1, .int .i64 (-2), .int .i64 0, .int .i64 0, .int .i64 0, .int .i64 0, .int .i64 1, .int .i64 1]), (⟨#[80, 97]⟩, .agg #[.int .i64 (-1), .int .i64 1, .int .i64 (-2), .int .i64 0, .int .i64 0, .int .i64 0, .int .i64 0, .int .i64 1, .int .i64 1]), (⟨#[74]⟩, .agg #[.int .i64 2, .int .i64 1, .int .i64 (-2), .int .i64 0, .int .i64 0, .int .i64 0, .int .i64 0, .int .i64 1, .int .i64 1]), (⟨#[87]⟩, .agg #[.int .i64 2, .int .i64 1, .int .i64 (-3), .int .i64 0, .int .i64 0, .int .i64 0, .int .i64 0, .int .i64 1, .int .i64 1]), (⟨#[67]⟩, .agg #[.int .i64 0, .int .i64 0, .int .i64 1, .int .i64 1, .int .i64 0, .int .i64 0, .int .i64 0, .int .i64 1, .int .i64 1]), (⟨#[86]⟩, .agg #[.int .i64 2, .int .i64 1, .int .i64 (-3), .int .i64 (-1), .int .i64 0, .int .i64 0, .int .i64 0, .int .i64 1, .int .i64 1]), (⟨#[79, 104, 109]⟩, .agg #[.int .i64 2, .int .i64 1, .int .i64 (-3), .int .i64 (-2), .int .i64 0, .int .i64 0, .int .i64 0, .int .i64 1, .int .i64 1]), (⟨#[83]⟩, .agg #[.int .i64 (-2), .int .i64 (-1), .int .i64 3, .int .i64 2, .int .i64 0, .int .i64 0, .int .i64 0, .int .i64 1, .int .i64 1]), (⟨#[70]⟩, .agg #[.int .i64 (-2), .int .i64 (-1), .int .i64 4, .int .i64 2, .int .i64 0, .int .i64 0, .int .i64 0, .int .i64 1, .int .i64 1]), (⟨#[87, 98]⟩, .agg #[.int .i64 2, .int .i64 1, .int .i64 (-2), .int .i64 (-1), .int .i64 0, .int .i64 0, .int .i64 0, .int .i64 1, .int .i64 1]), (⟨#[72]⟩, .agg #[.int .i64 2, .int .i64 1, .int .i64 (-2), .int .i64 (-2), .int .i64 0, .int .i64 0, .int .i64 0, .int .i64 1, .int .i64 1]), (⟨#[109, 105, 110]⟩, .agg #[.int .i64 0, .int .i64 0, .int .i64 1, .int .i64 0, .int .i64 0, .int .i64 0, .int .i64 0, .int .i64 60, .int .i64 1]), (⟨#[104]⟩, .agg #[.int .i64 0, .int .i64 0, .int .i64 1, .int .i64 0, .int .i64 0, .int .i64 0, .int .i64 0, .int .i64 3600, .int .i64 1]), (⟨#[76]⟩, .agg #[.int .i64 3, .int .i64 0, .int .i64 0, .int .i64 0, .int .i64 0, .int .i64 0, .int .i64 0, .int .i64 1, .int .i64 1000]), (⟨#[98, 97, 114]⟩, .agg #[.int .i64 (-1), .int .i64 1, .int .i64 (-2), .int .i64 0, .int .i64 0, .int .i64 0, .int .i64 0, .int .i64 100000, .int .i64 1]), (⟨#[114, 97, 100]⟩, .agg #[.int .i64 0, .int .i64 0, .int .i64 0, .int .i64 0, .int .i64 0, .int .i64 0, .int .i64 0, .int .i64 1, .int .i64 1])]
structure Ul (w W : World) (l : List (ByteArray × Value)) : Prop where
 below : Below w.heap.size w W
 map : xx W (w.heap.size + 1) l
 one : W.heap[w.heap.size]? = some (.cells #[.int .i64 1, .int .i64 1] 23 (0, 0))
theorem Ul.ins {w W : World} {l : List (ByteArray × Value)} (h : Ul w W l) (k : ByteArray) (v : Value) (hk : findT k l = none) :
  ∃ W', (Instr.mapUpdate 136 (.map (some (w.heap.size + 1))) (.string k) v).run Tryz.prog W = .ok () W' ∧ Ul w W' (l ++ [(k, v)]) := by
 refine ⟨_, amf h.map hk, ?_, h.map.set, ?_⟩
 ·
  exact adf h.below om
 ·
  exact ((MapKept.heap_set h.map).2 _ om).trans h.one
theorem Ul.c0 {w W : World} {l : List (ByteArray × Value)} (h : Ul w W l) : W.cell? ⟨w.heap.size, 0, none⟩ = some (.int .i64 1) := by simp [World.cell?, h.one]
theorem Ul.c1 {w W : World} {l : List (ByteArray × Value)} (h : Ul w W l) : W.cell? ⟨w.heap.size, 1, none⟩ = some (.int .i64 1) := by simp [World.cell?, h.one]
theorem bcn (w : World) : Calls Tryz.prog 120 #[] w (fun e w' => ∃ r, e = .returned (.map (some r)) ∧ Below w.heap.size w w' ∧ xx w' r wu) := by
 have hmm := @run_makeMap Tryz.prog
 go_enter Tryz.func120, Tryz.ntmps120
 go_wp2_with fail
 have h0 : Ul w ((w.alloc (.cells #[.int .i64 1, .int .i64 1] 23)).alloc (.map #[] 0)) [] := by
  have n1 := heap_alloc_new w (.cells #[.int .i64 1, .int .i64 1] 23)
  have hb := ig (Below.refl w.heap.size w) (.cells #[.int .i64 1, .int .i64 1] 23)
  have sz : (w.alloc (.cells #[.int .i64 1, .int .i64 1] 23)).heap.size = w.heap.size + 1 := by simp only [World.size_alloc]
  generalize w.alloc (.cells #[.int .i64 1, .int .i64 1] 23) = W1 at *
  have n2 := heap_alloc_new W1 (.map #[] 0)
  have hb2 := ig (Below.refl W1.heap.size W1) (.map #[] 0)
  rw [sz] at n2
  exact ⟨ay hb hb2, n2, (hb2.block _ (lt_of_block n1)).trans n1⟩
 generalize (w.alloc (.cells #[.int .i64 1, .int .i64 1] 23)).alloc (.map #[] 0) = W0 at *
 obtain ⟨W1, e, h1⟩ := h0.ins ⟨#[109]⟩ (.agg #[.int .i64 1, .int .i64 0, .int .i64 0, .int .i64 0, .int .i64 0, .int .i64 0, .int .i64 0, .int .i64 1, .int .i64 1]) kr
 rw [e]
 have o1 := h1.c0
 have p1 := h1.c1
 clear e h0
 go_wp2_with fail
 obtain ⟨W2, e, h2⟩ := h1.ins ⟨#[107, 103]⟩ (.agg #[.int .i64 0, .int .i64 1, .int .i64 0, .int .i64 0, .int .i64 0, .int .i64 0, .int .i64 0, .int .i64 1, .int .i64 1]) kr
 rw [e]
 have o2 := h2.c0
 have p2 := h2.c1
 clear e h1 o1 p1
 go_wp2_with fail
 obtain ⟨W3, e, h3⟩ := h2.ins ⟨#[115]⟩ (.agg #[.int .i64 0, .int .i64 0, .int .i64 1, .int .i64 0, .int .i64 0, .int .i64 0, .int .i64 0, .int .i64 1, .int .i64 1]) kr
 rw [e]
 have o3 := h3.c0
 have p3 := h3.c1
 clear e h2 o2 p2
 go_wp2_with fail
 obtain ⟨W4, e, h4⟩ := h3.ins ⟨#[65]⟩ (.agg #[.int .i64 0, .int .i64 0, .int .i64 0, .int .i64 1, .int .i64 0, .int .i64 0, .int .i64 0, .int .i64 1, .int .i64 1]) kr
 rw [e]
 have o4 := h4.c0
 have p4 := h4.c1
 clear e h3 o3 p3
 go_wp2_with fail
 obtain ⟨W5, e, h5⟩ := h4.ins ⟨#[75]⟩ (.agg #[.int .i64 0, .int .i64 0, .int .i64 0, .int .i64 0, .int .i64 1, .int .i64 0, .int .i64 0, .int .i64 1, .int .i64 1]) kr
 rw [e]
 have o5 := h5.c0
 have p5 := h5.c1
 clear e h4 o4 p4
 go_wp2_with fail
 obtain ⟨W6, e, h6⟩ := h5.ins ⟨#[109, 111, 108]⟩ (.agg #[.int .i64 0, .int .i64 0, .int .i64 0, .int .i64 0, .int .i64 0, .int .i64 1, .int .i64 0, .int .i64 1, .int .i64 1]) kr
 rw [e]
 have o6 := h6.c0
 have p6 := h6.c1
 clear e h5 o5 p5
 go_wp2_with fail
 obtain ⟨W7, e, h7⟩ := h6.ins ⟨#[99, 100]⟩ (.agg #[.int .i64 0, .int .i64 0, .int .i64 0, .int .i64 0, .int .i64 0, .int .i64 0, .int .i64 1, .int .i64 1, .int .i64 1]) kr
 rw [e]
 have o7 := h7.c0
 have p7 := h7.c1
 clear e h6 o6 p6
 go_wp2_with fail
 obtain ⟨W8, e, h8⟩ := h7.ins ⟨#[103]⟩ (.agg #[.int .i64 0, .int .i64 1, .int .i64 0, .int .i64 0, .int .i64 0, .int .i64 0, .int .i64 0, .int .i64 1, .int .i64 1000]) kr
 rw [e]
 have o8 := h8.c0
 have p8 := h8.c1
 clear e h7 o7 p7
 go_wp2_with fail
 obtain ⟨W9, e, h9⟩ := h8.ins ⟨#[72, 122]⟩ (.agg #[.int .i64 0, .int .i64 0, .int .i64 (-1), .int .i64 0, .int .i64 0, .int .i64 0, .int .i64 0, .int .i64 1, .int .i64 1]) kr
 rw [e]
 have o9 := h9.c0
 have p9 := h9.c1
 clear e h8 o8 p8
 go_wp2_with fail
 obtain ⟨W10, e, h10⟩ := h9.ins ⟨#[78]⟩ (.agg #[.int .i64 1, .int .i64 1, .int .i64 (-2), .int .i64 0, .int .i64 0, .int .i64 0, .int .i64 0, .int .i64 1, .int .i64 1]) kr
 rw [e]
 have o10 := h10.c0
 have p10 := h10.c1
 clear e h9 o9 p9
 go_wp2_with fail
 obtain ⟨W11, e, h11⟩ := h10.ins ⟨#[80, 97]⟩ (.agg #[.int .i64 (-1), .int .i64 1, .int .i64 (-2), .int .i64 0, .int .i64 0, .int .i64 0, .int .i64 0, .int .i64 1, .int .i64 1]) kr
 rw [e]
 have o11 := h11.c0
 have p11 := h11.c1
 clear e h10 o10 p10
 go_wp2_with fail
 obtain ⟨W12, e, h12⟩ := h11.ins ⟨#[74]⟩ (.agg #[.int .i64 2, .int .i64 1, .int .i64 (-2), .int .i64 0, .int .i64 0, .int .i64 0, .int .i64 0, .int .i64 1, .int .i64 1]) kr
 rw [e]
 have o12 := h12.c0
 have p12 := h12.c1
 clear e h11 o11 p11
 go_wp2_with fail
 obtain ⟨W13, e, h13⟩ := h12.ins ⟨#[87]⟩ (.agg #[.int .i64 2, .int .i64 1, .int .i64 (-3), .int .i64 0, .int .i64 0, .int .i64 0, .int .i64 0, .int .i64 1, .int .i64 1]) kr
 rw [e]
 have o13 := h13.c0
 have p13 := h13.c1
 clear e h12 o12 p12
 go_wp2_with fail
 obtain ⟨W14, e, h14⟩ := h13.ins ⟨#[67]⟩ (.agg #[.int .i64 0, .int .i64 0, .int .i64 1, .int .i64 1, .int .i64 0, .int .i64 0, .int .i64 0, .int .i64 1, .int .i64 1]) kr
 rw [e]
 have o14 := h14.c0
 have p14 := h14.c1
 clear e h13 o13 p13
 go_wp2_with fail
 obtain ⟨W15, e, h15⟩ := h14.ins ⟨#[86]⟩ (.agg #[.int .i64 2, .int .i64 1, .int .i64 (-3), .int .i64 (-1), .int .i64 0, .int .i64 0, .int .i64 0, .int .i64 1, .int .i64 1]) kr
 rw [e]
 have o15 := h15.c0
 have p15 := h15.c1
 clear e h14 o14 p14
 go_wp2_with fail
 obtain ⟨W16, e, h16⟩ := h15.ins ⟨#[79, 104, 109]⟩ (.agg #[.int .i64 2, .int .i64 1, .int .i64 (-3), .int .i64 (-2), .int .i64 0, .int .i64 0, .int .i64 0, .int .i64 1, .int .i64 1]) kr
 rw [e]
 have o16 := h16.c0
 have p16 := h16.c1
 clear e h15 o15 p15
 go_wp2_with fail
 obtain ⟨W17, e, h17⟩ := h16.ins ⟨#[83]⟩ (.agg #[.int .i64 (-2), .int .i64 (-1), .int .i64 3, .int .i64 2, .int .i64 0, .int .i64 0, .int .i64 0, .int .i64 1, .int .i64 1]) kr
 rw [e]
 have o17 := h17.c0
 have p17 := h17.c1
 clear e h16 o16 p16
 go_wp2_with fail
 obtain ⟨W18, e, h18⟩ := h17.ins ⟨#[70]⟩ (.agg #[.int .i64 (-2), .int .i64 (-1), .int .i64 4, .int .i64 2, .int .i64 0, .int .i64 0, .int .i64 0, .int .i64 1, .int .i64 1]) kr
 rw [e]
 have o18 := h18.c0
 have p18 := h18.c1
 clear e h17 o17 p17
 go_wp2_with fail
 obtain ⟨W19, e, h19⟩ := h18.ins ⟨#[87, 98]⟩ (.agg #[.int .i64 2, .int .i64 1, .int .i64 (-2), .int .i64 (-1), .int .i64 0, .int .i64 0, .int .i64 0, .int .i64 1, .int .i64 1]) kr
 rw [e]
 have o19 := h19.c0
 have p19 := h19.c1
 clear e h18 o18 p18
 go_wp2_with fail
 obtain ⟨W20, e, h20⟩ := h19.ins ⟨#[72]⟩ (.agg #[.int .i64 2, .int .i64 1, .int .i64 (-2), .int .i64 (-2), .int .i64 0, .int .i64 0, .int .i64 0, .int .i64 1, .int .i64 1]) kr
 rw [e]
 have o20 := h20.c0
 have p20 := h20.c1
 clear e h19 o19 p19
 go_wp2_with fail
 obtain ⟨W21, e, h21⟩ := h20.ins ⟨#[109, 105, 110]⟩ (.agg #[.int .i64 0, .int .i64 0, .int .i64 1, .int .i64 0, .int .i64 0, .int .i64 0, .int .i64 0, .int .i64 60, .int .i64 1]) kr
 rw [e]
 have o21 := h21.c0
 have p21 := h21.c1
 clear e h20 o20 p20
 go_wp2_with fail
 obtain ⟨W22, e, h22⟩ := h21.ins ⟨#[104]⟩ (.agg #[.int .i64 0, .int .i64 0, .int .i64 1, .int .i64 0, .int .i64 0, .int .i64 0, .int .i64 0, .int .i64 3600, .int .i64 1]) kr
 rw [e]
 have o22 := h22.c0
 have p22 := h22.c1
 clear e h21 o21 p21
 go_wp2_with fail
 obtain ⟨W23, e, h23⟩ := h22.ins ⟨#[76]⟩ (.agg #[.int .i64 3, .int .i64 0, .int .i64 0, .int .i64 0, .int .i64 0, .int .i64 0, .int .i64 0, .int .i64 1, .int .i64 1000]) kr
 rw [e]
 have o23 := h23.c0
 have p23 := h23.c1
 clear e h22 o22 p22
 go_wp2_with fail
 obtain ⟨W24, e, h24⟩ := h23.ins ⟨#[98, 97, 114]⟩ (.agg #[.int .i64 (-1), .int .i64 1, .int .i64 (-2), .int .i64 0, .int .i64 0, .int .i64 0, .int .i64 0, .int .i64 100000, .int .i64 1]) kr
 rw [e]
 have o24 := h24.c0
 have p24 := h24.c1
 clear e h23 o23 p23
 go_wp2_with fail
 obtain ⟨W25, e, h25⟩ := h24.ins ⟨#[114, 97, 100]⟩ (.agg #[.int .i64 0, .int .i64 0, .int .i64 0, .int .i64 0, .int .i64 0, .int .i64 0, .int .i64 0, .int .i64 1, .int .i64 1]) kr
 rw [e]
 have o25 := h25.c0
 have p25 := h25.c1
 clear e h24 o24 p24
 go_wp2_with fail
 exact bodyPost_ret (v := .map (some (w.heap.size + 1))) (by simp [results, Tryz.results120, go_sem]) rfl ⟨_, rfl, h25.below, h25.map⟩
end Sb


namespace Sb
def Dr (b : Int) : Bool := (decide (97 ≤ b) && decide (b ≤ 122)) || (decide (65 ≤ b) && decide (b ≤ 90))
def Nr (b : Int) : Int × Int × Bool := if b = 110 then (1, 1000000000, true) else if b = 117 then (1, 1000000, true) else if b = 109 then (1, 1000, true) else if b = 107 then (1000, 1, true) else if b = 77 then (1000000, 1, true) else if b = 71 then (1000000000, 1, true) else (0, 0, false)
theorem awz (b : Int) (w : World) : Calls Tryz.prog 172 #[.int .u8 b] w (ic (jw [ax [iv (Nr b).1, iv (Nr b).2.1], Rg.au (.bool (Nr b).2.2)]) w) := by
 obtain ⟨v, hv⟩ : ∃ v, v = Nr b := ⟨_, rfl⟩
 rw [← hv]
 unfold Nr at hv
 by_cases g0 : b = 110
 ·
  rw [if_pos g0] at hv
  subst g0
  subst hv
  go_enter Tryz.func172, Tryz.ntmps172
  go_wp2_with fail
  exact bodyPost_ret (v := .tuple #[.agg #[.int .i64 1, .int .i64 1000000000], .bool true]) (by simp [results, Tryz.results172, go_sem]) rfl ⟨_, rfl, ig (Below.refl _ _) _, [_, _], rfl, _, _, rfl, Bd _ _ _, _, _, rfl, rfl, rfl⟩
 rw [if_neg g0] at hv
 by_cases g1 : b = 117
 ·
  rw [if_pos g1] at hv
  subst g1
  subst hv
  go_enter Tryz.func172, Tryz.ntmps172
  go_wp2_with fail
  exact bodyPost_ret (v := .tuple #[.agg #[.int .i64 1, .int .i64 1000000], .bool true]) (by simp [results, Tryz.results172, go_sem]) rfl ⟨_, rfl, ig (Below.refl _ _) _, [_, _], rfl, _, _, rfl, Bd _ _ _, _, _, rfl, rfl, rfl⟩
 rw [if_neg g1] at hv
 by_cases g2 : b = 109
 ·
  rw [if_pos g2] at hv
  subst g2
  subst hv
  go_enter Tryz.func172, Tryz.ntmps172
  go_wp2_with fail
  exact bodyPost_ret (v := .tuple #[.agg #[.int .i64 1, .int .i64 1000], .bool true]) (by simp [results, Tryz.results172, go_sem]) rfl ⟨_, rfl, ig (Below.refl _ _) _, [_, _], rfl, _, _, rfl, Bd _ _ _, _, _, rfl, rfl, rfl⟩
 rw [if_neg g2] at hv
 by_cases g3 : b = 107
 ·
  rw [if_pos g3] at hv
  subst g3
  subst hv
  go_enter Tryz.func172, Tryz.ntmps172
  go_wp2_with fail
  exact bodyPost_ret (v := .tuple #[.agg #[.int .i64 1000, .int .i64 1], .bool true]) (by simp [results, Tryz.results172, go_sem]) rfl ⟨_, rfl, ig (Below.refl _ _) _, [_, _], rfl, _, _, rfl, Bd _ _ _, _, _, rfl, rfl, rfl⟩
 rw [if_neg g3] at hv
 by_cases g4 : b = 77
 ·
  rw [if_pos g4] at hv
  subst g4
  subst hv
  go_enter Tryz.func172, Tryz.ntmps172
  go_wp2_with fail
  exact bodyPost_ret (v := .tuple #[.agg #[.int .i64 1000000, .int .i64 1], .bool true]) (by simp [results, Tryz.results172, go_sem]) rfl ⟨_, rfl, ig (Below.refl _ _) _, [_, _], rfl, _, _, rfl, Bd _ _ _, _, _, rfl, rfl, rfl⟩
 rw [if_neg g4] at hv
 by_cases g5 : b = 71
 ·
  rw [if_pos g5] at hv
  subst g5
  subst hv
  go_enter Tryz.func172, Tryz.ntmps172
  go_wp2_with fail
  exact bodyPost_ret (v := .tuple #[.agg #[.int .i64 1000000000, .int .i64 1], .bool true]) (by simp [results, Tryz.results172, go_sem]) rfl ⟨_, rfl, ig (Below.refl _ _) _, [_, _], rfl, _, _, rfl, Bd _ _ _, _, _, rfl, rfl, rfl⟩
 rw [if_neg g5] at hv
 subst hv
 go_enter Tryz.func172, Tryz.ntmps172
 go_wp2_with fail
 exact bodyPost_ret (v := .tuple #[.agg #[.int .i64 0, .int .i64 0], .bool false]) (by simp [results, Tryz.results172, go_sem]) rfl ⟨_, rfl, ig (Below.refl _ _) _, [_, _], rfl, _, _, rfl, Bd _ _ _, _, _, rfl, rfl, rfl⟩
theorem Ox {s : ByteArray} {l : List UInt8} (h : ¬ s = ⟨l.toArray⟩) : (s.toList == l) = false := by
 rw [Bool.eq_false_iff]
 intro e
 apply h
 have e2 := eq_of_beq e
 rw [ByteArray.toList_eq] at e2
 cases s
 rw [← e2]
def aae (s : ByteArray) : Bool := if s = ⟨#[107, 103]⟩ then true else if s = ⟨#[109, 105, 110]⟩ then true else if s = ⟨#[104]⟩ then true else if s = ⟨#[114, 97, 100]⟩ then true else false
theorem asn (s : ByteArray) (w : World) : Calls Tryz.prog 173 #[.string s] w (ic (Rg.au (.bool (aae s))) w) := by
 obtain ⟨v, hv⟩ : ∃ v, v = aae s := ⟨_, rfl⟩
 rw [← hv]
 unfold aae at hv
 by_cases g0 : s = ⟨#[107, 103]⟩
 ·
  rw [if_pos g0] at hv
  subst g0
  subst hv
  go_enter Tryz.func173, Tryz.ntmps173
  go_wp2_with fail
  exact bodyPost_ret (v := .bool true) (by simp [results, Tryz.results173, go_sem]) rfl ⟨_, rfl, Below.refl _ _, rfl⟩
 rw [if_neg g0] at hv
 have q0 := Ox g0
 by_cases g1 : s = ⟨#[109, 105, 110]⟩
 ·
  rw [if_pos g1] at hv
  subst g1
  subst hv
  go_enter Tryz.func173, Tryz.ntmps173
  go_wp2_with fail
  exact bodyPost_ret (v := .bool true) (by simp [results, Tryz.results173, go_sem]) rfl ⟨_, rfl, Below.refl _ _, rfl⟩
 rw [if_neg g1] at hv
 have q1 := Ox g1
 by_cases g2 : s = ⟨#[104]⟩
 ·
  rw [if_pos g2] at hv
  subst g2
  subst hv
  go_enter Tryz.func173, Tryz.ntmps173
  go_wp2_with fail
  exact bodyPost_ret (v := .bool true) (by simp [results, Tryz.results173, go_sem]) rfl ⟨_, rfl, Below.refl _ _, rfl⟩
 rw [if_neg g2] at hv
 have q2 := Ox g2
 by_cases g3 : s = ⟨#[114, 97, 100]⟩
 ·
  rw [if_pos g3] at hv
  subst g3
  subst hv
  go_enter Tryz.func173, Tryz.ntmps173
  go_wp2_with fail
  exact bodyPost_ret (v := .bool true) (by simp [results, Tryz.results173, go_sem]) rfl ⟨_, rfl, Below.refl _ _, rfl⟩
 rw [if_neg g3] at hv
 have q3 := Ox g3
 subst hv
 go_enter Tryz.func173, Tryz.ntmps173
 go_wp2_with fail
 exact bodyPost_ret (v := .bool false) (by simp [results, Tryz.results173, go_sem]) rfl ⟨_, rfl, Below.refl _ _, rfl⟩
end Sb


namespace Sb
theorem beo {ρ : Operand → Value} {w : World} {d : Option Tmp} {x : Operand} {u0 u1 u2 u3 u4 u5 : Value} {ty : TypeId} {pos : String} {af : Array Edge} {gd : Option (Nat × Bool)} (h : ρ x = .agg #[u0, u1, u2, u3, u4, u5]) :
  (execOp ρ { dst := d, op := .build 118 #[(1, x)], type := ty, pos := pos, after := af, guard := gd }).run Tryz.prog w = .ok (.value (.agg #[.int .i64 0, .int .i64 0, .int .i64 0, .int .i64 0, .int .i64 0, .int .i64 0, .int .i64 0, u0, u1, u2, u3, u4, u5])) w := by
 simp only [execOp]
 simp [go_sem, h]
 try rfl
theorem bnf {Q : Exit → Act → World → Prop} {l : List Oper} {n : Nat} {T : Nat → World → Value → Prop} {G : World → Prop} {al : List Nat} {a0 : Act} {k d : Nat} {ty : TypeId} {pos : String} {af : Array Edge} {gd : Option (Nat × Bool)} {x : Operand} {q : Rat} (hal : al.contains k = false) (hx : Rg.ib l n T a0 k x (ax [.q q])) (hT : T k = ax [.k (eK z7), .q q]) :
  Rg.Step Tryz.prog Q l n T G dz al a0 k { dst := some d, op := .build 118 #[(1, x)], type := ty, pos := pos, after := af, guard := gd } := by
 intro a w hG hO hN
 obtain ⟨s1, n1, A1, c1, l1, s2, n2, A2, c2, l2, e1, f1, f2⟩ := Gg (hx a w hO hN)
 have hr := beo (w := w) (d := some d) (ty := ty) (pos := pos) (af := af) (gd := gd) e1
 exact iq (P := Tryz.prog) hr ⟨_, rfl, hG, Below.refl _ _, by rw [hT]; exact ⟨_, rfl, fu.e (f := z7) (fu.q f1 f2 rfl)⟩, fun h => by rw [hal] at h; cases h⟩
theorem ahz {a c : Int} (ok : Wd.qm a c) (w : World) (u0 : Value) (h0 : ax [iv a, iv c] w u0) : Calls Tryz.prog 118 #[u0] w (ic (ax [.k (eK z7), .q (Wd.qR a c)]) w) := by
 have HA := hide ok
 clear ok
 have hu0 := Eo h0
 subst hu0
 go_enter Tryz.func118, Tryz.ntmps118
 go_upto_region 1 with fail
 have hO := (Own.push (T := 118) (ls := zM) (Own.push (T := 23) (ls := [iv a, iv c]) (Own.nil w) (fu.v (lh _) (fu.v (lh _) rfl)) (w.heap.size) rfl) (fu.below (by repeat (first | exact Below.refl _ _ | refine ig ?_ _)) (fu.vs w [.int .i64 0, .int .i64 0, .int .i64 0, .int .i64 0, .int .i64 0, .int .i64 0, .int .i64 0, .int .i64 0, .bool false, .slice none 0 0, .int .i64 0, .bool false, .slice none 0 0] rfl)) (w.heap.size + 1) (by simp only [World.size_alloc]))
 generalize (w.alloc (.cells #[.int .i64 a, .int .i64 c] 23)).alloc (.cells #[.int .i64 0, .int .i64 0, .int .i64 0, .int .i64 0, .int .i64 0, .int .i64 0, .int .i64 0, .int .i64 0, .bool false, .slice none 0 0, .int .i64 0, .bool false, .slice none 0 0] 118) = W0 at *
 have HO := hide hO
 clear hO
 go_upto_region 1 with fail
 refine Rg.di 3 6 (Rg.pick [ax [iv a, iv c], ax [.q (Wd.qR a c)], ax [.k (eK z7), .q (Wd.qR a c)]]) (az w _ W0) dz [] kr rfl (Rg.ek.pick ⟨bf _, bf _, bf _, trivial⟩) (az.begin (aa HO))
  (ah (jc zn wz aF [] [iv a, iv c] [])
  (ah (sc1 Tryz.func67 (aT 0) (fun W v0 hG h0 => bhu (aa HA) h0))
  (ah (bnf rfl (aT 1) rfl)
  Rg.bg))) ?_
 intro v1 V1 hG1 hv1 hne1
 simp only [Rg.puts, Act.put, tA]
 have hO := hG1.1
 refine oo hO 0 [] zM [.k (eK z7), .q (Wd.qR a c)] [] rfl Au rfl (show ax [.k (eK z7), .q (Wd.qR a c)] V1 (v1 2) from hv1 2 de) rfl rfl rfl ?_
 intro Cg jb hk0
 replace hO := jb
 clear jb
 clear HO
 have HO := hide hO
 clear hO hG1 hv1 hne1 hk0
 go_wp2_with fail
 exact Dy Tryz.results118 Hf rfl (aa HO) me0 rfl rfl
end Sb


namespace Sb
theorem bdm (s : ByteArray) (b : UInt8) (l : List UInt8) (h : s = ⟨(b :: l).toArray⟩) (w : World) : (Instr.index 9 (.string s) (.int .i64 0)).run Tryz.prog w = .ok (.int .u8 b.toNat) w := by
 subst h
 simp [go_sem]
 rfl
theorem baf (s : ByteArray) (b : UInt8) (l : List UInt8) (h : s = ⟨(b :: l).toArray⟩) (w : World) : (Instr.sliceAt 9 (.string s) (some (.int .i64 1)) none none).run Tryz.prog w = .ok (.string ⟨l.toArray⟩) w := by
 subst h
 simp [go_sem]
 rw [if_pos om]
 have e : (⟨(b :: l).toArray⟩ : ByteArray).extract 1 (l.length + 1) = ⟨l.toArray⟩ := by
  apply ByteArray.ext
  simp [ByteArray.data_extract]
 rw [e]
theorem axx {Q : Exit → Act → World → Prop} {l : List Oper} {n : Nat} {T : Nat → World → Value → Prop} {G : World → Prop} {al : List Nat} {a0 : Act} {k d : Nat} {ty : TypeId} {pos : String} {af : Array Edge} {gd : Option (Nat × Bool)} {x : Operand} {s : ByteArray} {b : UInt8} {ls : List UInt8} (hal : al.contains k = false) (hx : Rg.ib l n T a0 k x (Rg.au (.string s))) (hs : s = ⟨(b :: ls).toArray⟩) (hT : T k = Rg.au (.int .u8 b.toNat)) :
  Rg.Step Tryz.prog Q l n T G dz al a0 k { dst := some d, op := .index 9 x (.const (.int .i64 0)), type := ty, pos := pos, after := af, guard := gd } := by
 intro a w hG hO hN
 have h1 : a.eval x = .string s := hx a w hO hN
 have h3 : a.eval (.const (.int .i64 0)) = .int .i64 0 := rfl
 have key := fun w => bdm s b ls hs w
 have hr : (execOp a.eval { dst := some d, op := .index 9 x (.const (.int .i64 0)), type := ty, pos := pos, after := af, guard := gd }).run Tryz.prog w = .ok (.value (.int .u8 b.toNat)) w := by
  simp only [execOp, h1, h3]
  simp [key, Result.andThen]
 exact iq (P := Tryz.prog) hr ⟨_, rfl, hG, Below.refl _ _, by rw [hT]; rfl, fun h => by rw [hal] at h; cases h⟩
theorem Yw {Q : Exit → Act → World → Prop} {l : List Oper} {n : Nat} {T : Nat → World → Value → Prop} {G : World → Prop} {al : List Nat} {a0 : Act} {k d : Nat} {ty : TypeId} {pos : String} {af : Array Edge} {gd : Option (Nat × Bool)} {x : Operand} {s : ByteArray} {b : UInt8} {ls : List UInt8} (hal : al.contains k = false) (hx : Rg.ib l n T a0 k x (Rg.au (.string s))) (hs : s = ⟨(b :: ls).toArray⟩) (hT : T k = Rg.au (.string ⟨ls.toArray⟩)) :
  Rg.Step Tryz.prog Q l n T G dz al a0 k { dst := some d, op := .slice 9 x (some (.const (.int .i64 1))) none none, type := ty, pos := pos, after := af, guard := gd } := by
 intro a w hG hO hN
 have h1 : a.eval x = .string s := hx a w hO hN
 have h3 : a.eval (.const (.int .i64 1)) = .int .i64 1 := rfl
 have key := fun w => baf s b ls hs w
 have hr : (execOp a.eval { dst := some d, op := .slice 9 x (some (.const (.int .i64 1))) none none, type := ty, pos := pos, after := af, guard := gd }).run Tryz.prog w = .ok (.value (.string ⟨ls.toArray⟩)) w := by
  simp only [execOp, h1, h3, Option.map]
  simp [key, Result.andThen]
 exact iq (P := Tryz.prog) hr ⟨_, rfl, hG, Below.refl _ _, by rw [hT]; rfl, fun h => by rw [hal] at h; cases h⟩
theorem Tc {Q : Exit → Act → World → Prop} {l : List Oper} {n : Nat} {T : Nat → World → Value → Prop} {G : World → Prop} {al : List Nat} {a0 : Act} {k d : Nat} {ty : TypeId} {pos : String} {af : Array Edge} {gd : Option (Nat × Bool)} {x y : Operand} {s : ByteArray} {r : Nat} {L : List (ByteArray × Value)} {f : Nat → Int} {u v : Int} {c : Bool} (hal : al.contains k = false) (hx : Rg.ib l n T a0 k x (Rg.au (.map (some r)))) (hy : Rg.ib l n T a0 k y (Rg.au (.string s))) (hm : ∀ W, G W → xx W r L) (hu : (findT s L).getD (xz z7 0 0) = xz f u v) (hc : (findT s L).isSome = c) (hT : T k = jw [ax [.k (eK f), iv u, iv v], Rg.au (.bool c)]) :
  Rg.Step Tryz.prog Q l n T G dz al a0 k { dst := some d, op := .lookup 136 x y true, type := ty, pos := pos, after := af, guard := gd } := by
 intro a w hG hO hN
 have h1 : a.eval x = .map (some r) := hx a w hO hN
 have h2 : a.eval y = .string s := hy a w hO hN
 have key := aue (s := s) (hm w hG)
 rw [hu, hc] at key
 have hr : (execOp a.eval { dst := some d, op := .lookup 136 x y true, type := ty, pos := pos, after := af, guard := gd }).run Tryz.prog w = .ok (.value (.tuple #[xz f u v, .bool c])) w := by
  simp only [execOp, h1, h2]
  simp [key, Result.andThen]
 exact iq (P := Tryz.prog) hr ⟨_, rfl, hG, Below.refl _ _, by rw [hT]; exact ⟨[_, _], rfl, _, _, rfl, ⟨_, rfl, fu.e (fu.v (lh _) (fu.v (lh _) rfl))⟩, _, _, rfl, rfl, rfl⟩, fun h => by rw [hal] at h; cases h⟩
end Sb


namespace Sb
theorem axw {Q : Exit → Act → World → Prop} {l : List Oper} {n : Nat} {T : Nat → World → Value → Prop} {G : World → Prop} {al : List Nat} {a0 : Act} {k d : Nat} {ty : TypeId} {pos : String} {af : Array Edge} {gd : Option (Nat × Bool)} {x : Operand} {s : ByteArray} {b : UInt8} {ls : List UInt8} (hal : al.contains k = false) (hx : Rg.ib l n T a0 k x (Rg.au (.string s))) (hs : s = ⟨(b :: ls).toArray⟩) (hT : T k = Rg.au (.bool false)) :
  Rg.Step Tryz.prog Q l n T G dz al a0 k { dst := some d, op := .binOp .eql 9 x (.const (.string ⟨#[]⟩)) 9, type := ty, pos := pos, after := af, guard := gd } := by
 intro a w hG hO hN
 have h1 : a.eval x = .string s := hx a w hO hN
 have h3 : a.eval (.const (.string ⟨#[]⟩)) = .string ⟨#[]⟩ := rfl
 have q : (s.toList == []) = false := Ox (l := []) (by rw [hs]; intro h; injection h with h; simp at h)
 have hr : (execOp a.eval { dst := some d, op := .binOp .eql 9 x (.const (.string ⟨#[]⟩)) 9, type := ty, pos := pos, after := af, guard := gd }).run Tryz.prog w = .ok (.value (.bool false)) w := by
  simp only [execOp, h1, h3]
  simp [go_sem, q]
 exact iq (P := Tryz.prog) hr ⟨_, rfl, hG, Below.refl _ _, by rw [hT]; rfl, fun h => by rw [hal] at h; cases h⟩
theorem axc : ais Tryz.prog 118 [.int .i64 0, .int .i64 0, .int .i64 0, .int .i64 0, .int .i64 0, .int .i64 0, .int .i64 0, .int .i64 0, .bool false, .slice none 0 0, .int .i64 0, .bool false, .slice none 0 0] := by
 intro ρ w d ty pos af gd
 simp only [execOp]
 simp [go_sem]
 try rfl
theorem ade {b : Int} {v : Int × Int × Bool} (h : Nr b = v) (w : World) : Calls Tryz.prog 172 #[.int .u8 b] w (ic (jw [ax [iv v.1, iv v.2.1], Rg.au (.bool v.2.2)]) w) := h ▸ awz b w
theorem Yb {L : List (ByteArray × Value)} {s : ByteArray} {r : Nat} {f : Nat → Int} {n d : Int} (w : World) (hm : xx w r L) (hu : findT s L = some (xz f n d)) (ok : Wd.qm n d) :
  Calls Tryz.prog 121 #[.map (some r), .string s] w (ic (jw [ax [.k (eK f), .q (Wd.qR n d)], Rg.au (.bool true)]) w) := by
 have HM := hide hm
 have HU := hide (And.intro (show (findT s L).getD (xz z7 0 0) = xz f n d by rw [hu]; rfl) (show (findT s L).isSome = true by rw [hu]; rfl))
 have HA := hide ok
 clear hm hu ok
 go_enter Tryz.func121, Tryz.ntmps121
 go_upto_region 1 with fail
 have hO := (Own.push (T := 118) (ls := zM) (Own.nil w) (fu.vs w [.int .i64 0, .int .i64 0, .int .i64 0, .int .i64 0, .int .i64 0, .int .i64 0, .int .i64 0, .int .i64 0, .bool false, .slice none 0 0, .int .i64 0, .bool false, .slice none 0 0] rfl) (w.heap.size) rfl)
 generalize w.alloc (.cells #[.int .i64 0, .int .i64 0, .int .i64 0, .int .i64 0, .int .i64 0, .int .i64 0, .int .i64 0, .int .i64 0, .bool false, .slice none 0 0, .int .i64 0, .bool false, .slice none 0 0] 118) = W0 at *
 have HO := hide hO
 clear hO
 go_upto_region 1 with fail
 refine Rg.di 7 54 (Rg.pick [Rg.au (.map (some r)), Rg.au (.string s), jw [ax [.k (eK f), iv n, iv d], Rg.au (.bool true)], jw [ax [.k (eK f), iv n, iv d], Rg.au (.bool true)], ax [.k (eK f), iv n, iv d], Rg.au (.bool true), qj 44 zU W0.heap.size]) (az w _ W0) dz [6] kr rfl (Rg.ek.pick ⟨Rg.ae _, Rg.ae _, jm ⟨(bf _), (Rg.ae _), trivial⟩, jm ⟨(bf _), (Rg.ae _), trivial⟩, bf _, Rg.ae _, qz _ _ _, trivial⟩) (az.begin (aa HO))
  (ah (df rfl aF)
  (ah (df rfl aF)
  (ah (Tc rfl (aT 0) (aT 1) (fun W h => (aa HM).below h.1.bel) (aa HU).1 (aa HU).2 rfl)
  (ah (df rfl (aT 2))
  (ah (mf (ts := [ax [.k (eK f), iv n, iv d], Rg.au (.bool true)]) rfl (aT 3) (of_decide_eq_true rfl) rfl)
  (ah (mf (ts := [ax [.k (eK f), iv n, iv d], Rg.au (.bool true)]) rfl (aT 3) (of_decide_eq_true rfl) rfl)
  (ah (uh Re rfl az.step az.size rfl (xm (by intro j hj; simp at hj; (repeat' (first | (rcases hj with rfl | hj))) <;> first | (subst hj; exact ⟨_, _, _, rfl⟩) | exact ⟨_, _, _, rfl⟩)))
  Rg.bg))))))) ?_
 intro v1 V1 hG1 hv1 hne1
 simp only [Rg.puts, Act.put, tA]
 have e5 : v1 5 = .bool true := hv1 5 de
 obtain ⟨axe, e6, Bb, El⟩ := (show qj 44 zU W0.heap.size V1 (v1 6) from hv1 6 de)
 simp only [e5, e6]
 have hO := hG1.1
 replace hO := Own.add (aa HO) hG1.2 Bb El
 clear Bb El
 refine oo hO 0 [] zU [.k (eK f), iv n, iv d] [] rfl Bo rfl (show ax [.k (eK f), iv n, iv d] V1 (v1 4) from hv1 4 de) rfl rfl rfl ?_
 intro Cg jb hk0
 replace hO := jb
 clear jb
 clear HO
 have HO := hide hO
 clear hO hG1 hv1 hne1 hk0
 try clear e5 e6
 go_upto_region 2 with fail
 refine Rg.di 1 54 (Rg.pick [Rg.au (.bool true)]) (az w _ Cg) dz [] kr rfl (Rg.ek.pick ⟨Rg.ae _, trivial⟩) (az.begin (aa HO))
  (ah (df rfl aF)
  Rg.bg) ?_
 intro v2 V2 hG2 hv2 hne2
 simp only [Rg.puts, Act.put, tA]
 have e0 : v2 0 = .bool true := hv2 0 de
 simp only [e0]
 have hO := hG2.1
 clear HO
 have HO := hide hO
 clear hO hG2 hv2 hne2
 try clear e0
 go_upto_region 3 with fail
 refine Rg.di 2 54 (Rg.pick [ax [.k (eK f), iv n, iv d], ax [.k (eK f), .q (Wd.qR n d)]]) (az w _ V2) dz [] kr rfl (Rg.ek.pick ⟨bf _, bf _, trivial⟩) (az.begin (aa HO))
  (ah (jc Bt me0 aF [] [.k (eK f), iv n, iv d] [])
  (ah (sc1 Tryz.func103 (aT 0) (fun W v0 hG h0 => azh (aa HA) W _ h0))
  Rg.bg)) ?_
 intro v3 V3 hG3 hv3 mh
 simp only [Rg.puts, Act.put, tA]
 have hO := hG3.1
 refine oo hO 1 [] zM [.k (eK f), .q (Wd.qR n d)] [] rfl Au rfl (show ax [.k (eK f), .q (Wd.qR n d)] V3 (v3 1) from hv3 1 de) rfl rfl rfl ?_
 intro Ou jb hk0
 replace hO := jb
 clear jb
 clear HO
 have HO := hide hO
 clear hO hG3 hv3 mh hk0
 go_wp2_with fail
 exact Im Tryz.results121 Hf rfl rfl (aa HO) wz rfl rfl
theorem awj {L : List (ByteArray × Value)} {s : ByteArray} {b : UInt8} {ls : List UInt8} {r : Nat} {f : Nat → Int} {n d p q : Int} (w : World) (hm : xx w r L) (hs : s = ⟨(b :: ls).toArray⟩) (h0 : findT s L = none) (hp : Nr b.toNat = (p, q, true)) (hu : findT ⟨ls.toArray⟩ L = some (xz f n d)) (hz : aae ⟨ls.toArray⟩ = false) (hT : og w) (okp : Wd.qm p q) (ok : Wd.qm n d) (hf : ∀ j, j < 7 → wrap64 (z7 j + f j) = f j) :
  Calls Tryz.prog 121 #[.map (some r), .string s] w (ic (jw [ax [.k (eK f), .q (Wd.qR p q * Wd.qR n d)], Rg.au (.bool true)]) w) := by
 have HT := hide hT
 have HO1 := hide (And.intro okp ok)
 have HF := hide hf
 clear hT okp ok hf
 have HM := hide hm
 have HS := hide hs
 have HU := hide (And.intro (show (findT s L).getD (xz z7 0 0) = xz z7 0 0 by rw [h0]; rfl) (show (findT s L).isSome = false by rw [h0]; rfl))
 have HV := hide (And.intro (show (findT ⟨ls.toArray⟩ L).getD (xz z7 0 0) = xz f n d by rw [hu]; rfl) (show (findT ⟨ls.toArray⟩ L).isSome = true by rw [hu]; rfl))
 have HP := hide hp
 have HZ := hide hz
 clear hm hs h0 hu hp hz
 go_enter Tryz.func121, Tryz.ntmps121
 go_upto_region 1 with fail
 have hO := (Own.push (T := 118) (ls := zM) (Own.nil w) (fu.vs w [.int .i64 0, .int .i64 0, .int .i64 0, .int .i64 0, .int .i64 0, .int .i64 0, .int .i64 0, .int .i64 0, .bool false, .slice none 0 0, .int .i64 0, .bool false, .slice none 0 0] rfl) (w.heap.size) rfl)
 generalize w.alloc (.cells #[.int .i64 0, .int .i64 0, .int .i64 0, .int .i64 0, .int .i64 0, .int .i64 0, .int .i64 0, .int .i64 0, .bool false, .slice none 0 0, .int .i64 0, .bool false, .slice none 0 0] 118) = W0 at *
 have HO := hide hO
 clear hO
 go_upto_region 1 with fail
 refine Rg.di 7 54 (Rg.pick [Rg.au (.map (some r)), Rg.au (.string s), jw [ax [.k (eK z7), iv 0, iv 0], Rg.au (.bool false)], jw [ax [.k (eK z7), iv 0, iv 0], Rg.au (.bool false)], ax [.k (eK z7), iv 0, iv 0], Rg.au (.bool false), qj 44 zU W0.heap.size]) (az w _ W0) dz [6] kr rfl (Rg.ek.pick ⟨Rg.ae _, Rg.ae _, jm ⟨(bf _), (Rg.ae _), trivial⟩, jm ⟨(bf _), (Rg.ae _), trivial⟩, bf _, Rg.ae _, qz _ _ _, trivial⟩) (az.begin (aa HO))
  (ah (df rfl aF)
  (ah (df rfl aF)
  (ah (Tc rfl (aT 0) (aT 1) (fun W h => (aa HM).below h.1.bel) (aa HU).1 (aa HU).2 rfl)
  (ah (df rfl (aT 2))
  (ah (mf (ts := [ax [.k (eK z7), iv 0, iv 0], Rg.au (.bool false)]) rfl (aT 3) (of_decide_eq_true rfl) rfl)
  (ah (mf (ts := [ax [.k (eK z7), iv 0, iv 0], Rg.au (.bool false)]) rfl (aT 3) (of_decide_eq_true rfl) rfl)
  (ah (uh Re rfl az.step az.size rfl (xm (by intro j hj; simp at hj; (repeat' (first | (rcases hj with rfl | hj))) <;> first | (subst hj; exact ⟨_, _, _, rfl⟩) | exact ⟨_, _, _, rfl⟩)))
  Rg.bg))))))) ?_
 intro v1 V1 hG1 hv1 hne1
 simp only [Rg.puts, Act.put, tA]
 have e5 : v1 5 = .bool false := hv1 5 de
 obtain ⟨axe, e6, Bb, El⟩ := (show qj 44 zU W0.heap.size V1 (v1 6) from hv1 6 de)
 simp only [e5, e6]
 have hO := hG1.1
 replace hO := Own.add (aa HO) hG1.2 Bb El
 clear Bb El
 refine oo hO 0 [] zU [.k (eK z7), iv 0, iv 0] [] rfl Bo rfl (show ax [.k (eK z7), iv 0, iv 0] V1 (v1 4) from hv1 4 de) rfl rfl rfl ?_
 intro Cg jb hk0
 replace hO := jb
 clear jb
 clear HO
 have HO := hide hO
 clear hO hG1 hv1 hne1 hk0
 try clear e5 e6
 go_upto_region 2 with fail
 refine Rg.di 1 54 (Rg.pick [Rg.au (.bool false)]) (az w _ Cg) dz [] kr rfl (Rg.ek.pick ⟨Rg.ae _, trivial⟩) (az.begin (aa HO))
  (ah (df rfl aF)
  Rg.bg) ?_
 intro v2 V2 hG2 hv2 hne2
 simp only [Rg.puts, Act.put, tA]
 have e0 : v2 0 = .bool false := hv2 0 de
 simp only [e0]
 have hO := hG2.1
 clear HO
 have HO := hide hO
 clear hO hG2 hv2 hne2
 try clear e0
 go_upto_region 4 with fail
 refine Rg.di 2 54 (Rg.pick [Rg.au (.string s), Rg.au (.bool false)]) (az w _ V2) dz [] kr rfl (Rg.ek.pick ⟨Rg.ae _, Rg.ae _, trivial⟩) (az.begin (aa HO))
  (ah (df rfl aF)
  (ah (axw rfl (aT 0) (aa HS) rfl)
  Rg.bg)) ?_
 intro v3 V3 hG3 hv3 mh
 simp only [Rg.puts, Act.put, tA]
 have e1 : v3 1 = .bool false := hv3 1 de
 simp only [e1]
 have hO := hG3.1
 clear HO
 have HO := hide hO
 clear hO hG3 hv3 mh
 try clear e1
 go_upto_region 6 with fail
 refine Rg.di 7 54 (Rg.pick [Rg.au (.string s), Rg.au (.int .u8 b.toNat), jw [ax [iv p, iv q], Rg.au (.bool true)], jw [ax [iv p, iv q], Rg.au (.bool true)], ax [iv p, iv q], Rg.au (.bool true), qj 23 zR V3.heap.size]) (az w _ V3) dz [6] kr rfl (Rg.ek.pick ⟨Rg.ae _, Rg.ae _, jm ⟨(bf _), (Rg.ae _), trivial⟩, jm ⟨(bf _), (Rg.ae _), trivial⟩, bf _, Rg.ae _, qz _ _ _, trivial⟩) (az.begin (aa HO))
  (ah (df rfl aF)
  (ah (axx rfl (aT 0) (aa HS) rfl)
  (ah (sc1 Tryz.func172 (aT 1) (fun W v0 hG h0 => by cases h0; exact ade (aa HP) W))
  (ah (df rfl (aT 2))
  (ah (mf (ts := [ax [iv p, iv q], Rg.au (.bool true)]) rfl (aT 3) (of_decide_eq_true rfl) rfl)
  (ah (mf (ts := [ax [iv p, iv q], Rg.au (.bool true)]) rfl (aT 3) (of_decide_eq_true rfl) rfl)
  (ah (uh Zd rfl az.step az.size rfl (xm (by intro j hj; simp at hj; (repeat' (first | (rcases hj with rfl | hj))) <;> first | (subst hj; exact ⟨_, _, _, rfl⟩) | exact ⟨_, _, _, rfl⟩)))
  Rg.bg))))))) ?_
 intro v4 V4 hG4 hv4 tu
 simp only [Rg.puts, Act.put, tA]
 have e5 : v4 5 = .bool true := hv4 5 de
 obtain ⟨bos, e6, Bb, El⟩ := (show qj 23 zR V3.heap.size V4 (v4 6) from hv4 6 de)
 simp only [e5, e6]
 have hO := hG4.1
 replace hO := Own.add (aa HO) hG4.2 Bb El
 clear Bb El
 refine oo hO 0 [] zR [iv p, iv q] [] rfl Oy rfl (show ax [iv p, iv q] V4 (v4 4) from hv4 4 de) rfl rfl rfl ?_
 intro Gr jb hk0
 replace hO := jb
 clear jb
 clear HO
 have HO := hide hO
 clear hO hG4 hv4 tu hk0
 try clear e5 e6
 go_upto_region 7 with fail
 refine Rg.di 8 54 (Rg.pick [Rg.au (.map (some r)), Rg.au (.string s), Rg.au (.string ⟨ls.toArray⟩), jw [ax [.k (eK f), iv n, iv d], Rg.au (.bool true)], jw [ax [.k (eK f), iv n, iv d], Rg.au (.bool true)], ax [.k (eK f), iv n, iv d], Rg.au (.bool true), qj 44 zU Gr.heap.size]) (az w _ Gr) dz [7] kr rfl (Rg.ek.pick ⟨Rg.ae _, Rg.ae _, Rg.ae _, jm ⟨(bf _), (Rg.ae _), trivial⟩, jm ⟨(bf _), (Rg.ae _), trivial⟩, bf _, Rg.ae _, qz _ _ _, trivial⟩) (az.begin (aa HO))
  (ah (df rfl aF)
  (ah (df rfl aF)
  (ah (Yw rfl (aT 1) (aa HS) rfl)
  (ah (Tc rfl (aT 0) (aT 2) (fun W h => (aa HM).below h.1.bel) (aa HV).1 (aa HV).2 rfl)
  (ah (df rfl (aT 3))
  (ah (mf (ts := [ax [.k (eK f), iv n, iv d], Rg.au (.bool true)]) rfl (aT 4) (of_decide_eq_true rfl) rfl)
  (ah (mf (ts := [ax [.k (eK f), iv n, iv d], Rg.au (.bool true)]) rfl (aT 4) (of_decide_eq_true rfl) rfl)
  (ah (uh Re rfl az.step az.size rfl (xm (by intro j hj; simp at hj; (repeat' (first | (rcases hj with rfl | hj))) <;> first | (subst hj; exact ⟨_, _, _, rfl⟩) | exact ⟨_, _, _, rfl⟩)))
  Rg.bg)))))))) ?_
 intro v5 V5 zz hv5 hne5
 simp only [Rg.puts, Act.put, tA]
 have e6 : v5 6 = .bool true := hv5 6 de
 obtain ⟨bor, e7, Ub, hz7⟩ := (show qj 44 zU Gr.heap.size V5 (v5 7) from hv5 7 de)
 simp only [e6, e7]
 have hO := zz.1
 replace hO := Own.add (aa HO) zz.2 Ub hz7
 clear Ub hz7
 refine oo hO 0 [] zU [.k (eK f), iv n, iv d] [] rfl Bo rfl (show ax [.k (eK f), iv n, iv d] V5 (v5 5) from hv5 5 de) rfl rfl rfl ?_
 intro Rx jb hk0
 replace hO := jb
 clear jb
 clear HO
 have HO := hide hO
 clear hO zz hv5 hne5 hk0
 try clear e6 e7
 go_upto_region 8 with fail
 refine Rg.di 11 54 (Rg.pick [Rg.au (.bool true), Rg.au (.bool false), Rg.au (.bool false), Rg.au (.bool true), Rg.au (.bool false), Rg.au (.bool false), Rg.au (.bool false), Rg.au (.string s), Rg.au (.string ⟨ls.toArray⟩), Rg.au (.bool false), Rg.au (.bool false)]) (az w _ Rx) dz [] kr rfl (Rg.ek.pick ⟨Rg.ae _, Rg.ae _, Rg.ae _, Rg.ae _, Rg.ae _, Rg.ae _, Rg.ae _, Rg.ae _, Rg.ae _, Rg.ae _, Rg.ae _, trivial⟩) (az.begin (aa HO))
  (ah (df rfl aF)
  (ah (zw rfl (aT 0) rfl rfl)
  (ah (df rfl (aT 1))
  (Rg.dm (Rg.fq (d := 39) rfl kr rfl (df rfl aF))
  (Rg.dm (Rg.fq (d := 39) rfl kr rfl (zw rfl (aT 3) rfl rfl))
  (ah (qo rfl (aT 2) (aT 4))
  (ah (df rfl (aT 5))
  (Rg.dm (Rg.fq (d := 43) rfl kr rfl (df rfl aF))
  (Rg.dm (Rg.fq (d := 43) rfl kr rfl (Yw rfl (aT 7) (aa HS) rfl))
  (Rg.dm (Rg.fq (d := 43) rfl kr rfl (Bp Tryz.func173 kr rfl az.step (aT 8) (fun W v0 hG h0 => by cases h0; exact (aa HZ) ▸ asn _ W)))
  (ah (qo rfl (aT 6) (aT 9))
  Rg.bg))))))))))) ?_
 intro v6 V6 Ch hv6 Gp
 simp only [Rg.puts, Act.put, tA]
 have e10 : v6 10 = .bool false := hv6 10 de
 simp only [e10]
 have hO := Ch.1
 clear HO
 have HO := hide hO
 clear hO Ch hv6 Gp
 try clear e10
 go_upto_region 10 with fail
 refine Rg.region 5 54 (Rg.pick [ax [iv p, iv q], ax [.k (eK z7), .q (Wd.qR p q)], ax [.k (eK f), iv n, iv d], ax [.k (eK f), .q (Wd.qR n d)], ax [.k (eK f), .q (Wd.qR p q * Wd.qR n d)]]) (az w _ V6) dz [] kr kr rfl (Rg.ek.pick ⟨bf _, bf _, bf _, bf _, bf _, trivial⟩) (az.start (aa HO))
  (ah (jc zn wz aF [] [iv p, iv q] [])
  (ah (sc1 Tryz.func118 (aT 0) (fun W v0 hG h0 => ahz (aa HO1).1 W _ h0))
  (ah (jc Bt me0 aF [] [.k (eK f), iv n, iv d] [])
  (ah (sc1 Tryz.func103 (aT 2) (fun W v0 hG h0 => azh (aa HO1).2 W _ h0))
  (ah (sc2 Tryz.func119 (aT 1) (aT 3) (fun W v0 v1 hG h0 h1 => Ka W _ h0 _ h1 (aa HF) (fun W' v0 v1 hb h0 h1 => Vk ((aa HT).below (ay hG.bel hb)) (Eg (aa HO1).1) (Eg (aa HO1).2) h0 h1)))
  Rg.bg))))) ?_
 intro v7 V7 Bh hv7 En
 simp only [Rg.puts, Act.put, tA]
 have hO := Bh.1
 refine oo hO 3 [] zM [.k (eK f), .q (Wd.qR p q * Wd.qR n d)] [] rfl Au rfl (show ax [.k (eK f), .q (Wd.qR p q * Wd.qR n d)] V7 (v7 4) from hv7 4 de) rfl rfl rfl ?_
 intro bpb jb hk0
 replace hO := jb
 clear jb
 clear HO
 have HO := hide hO
 clear hO Bh hv7 En hk0
 go_wp2_with fail
 exact Im Tryz.results121 Hf rfl rfl (aa HO) Tn rfl rfl
theorem arx {L : List (ByteArray × Value)} {s : ByteArray} {b : UInt8} {ls : List UInt8} {r : Nat} {f : Nat → Int} {n d p q : Int} (w : World) (hm : xx w r L) (hs : s = ⟨(b :: ls).toArray⟩) (h0 : findT s L = none) (hp : Nr b.toNat = (p, q, true)) (hu : findT ⟨ls.toArray⟩ L = some (xz f n d)) (hz : aae ⟨ls.toArray⟩ = true) :
  Calls Tryz.prog 121 #[.map (some r), .string s] w (ic (jw [ax zM, Rg.au (.bool false)]) w) := by
 have HM := hide hm
 have HS := hide hs
 have HU := hide (And.intro (show (findT s L).getD (xz z7 0 0) = xz z7 0 0 by rw [h0]; rfl) (show (findT s L).isSome = false by rw [h0]; rfl))
 have HV := hide (And.intro (show (findT ⟨ls.toArray⟩ L).getD (xz z7 0 0) = xz f n d by rw [hu]; rfl) (show (findT ⟨ls.toArray⟩ L).isSome = true by rw [hu]; rfl))
 have HP := hide hp
 have HZ := hide hz
 clear hm hs h0 hu hp hz
 go_enter Tryz.func121, Tryz.ntmps121
 go_upto_region 1 with fail
 have hO := (Own.push (T := 118) (ls := zM) (Own.nil w) (fu.vs w [.int .i64 0, .int .i64 0, .int .i64 0, .int .i64 0, .int .i64 0, .int .i64 0, .int .i64 0, .int .i64 0, .bool false, .slice none 0 0, .int .i64 0, .bool false, .slice none 0 0] rfl) (w.heap.size) rfl)
 generalize w.alloc (.cells #[.int .i64 0, .int .i64 0, .int .i64 0, .int .i64 0, .int .i64 0, .int .i64 0, .int .i64 0, .int .i64 0, .bool false, .slice none 0 0, .int .i64 0, .bool false, .slice none 0 0] 118) = W0 at *
 have HO := hide hO
 clear hO
 go_upto_region 1 with fail
 refine Rg.di 7 54 (Rg.pick [Rg.au (.map (some r)), Rg.au (.string s), jw [ax [.k (eK z7), iv 0, iv 0], Rg.au (.bool false)], jw [ax [.k (eK z7), iv 0, iv 0], Rg.au (.bool false)], ax [.k (eK z7), iv 0, iv 0], Rg.au (.bool false), qj 44 zU W0.heap.size]) (az w _ W0) dz [6] kr rfl (Rg.ek.pick ⟨Rg.ae _, Rg.ae _, jm ⟨(bf _), (Rg.ae _), trivial⟩, jm ⟨(bf _), (Rg.ae _), trivial⟩, bf _, Rg.ae _, qz _ _ _, trivial⟩) (az.begin (aa HO))
  (ah (df rfl aF)
  (ah (df rfl aF)
  (ah (Tc rfl (aT 0) (aT 1) (fun W h => (aa HM).below h.1.bel) (aa HU).1 (aa HU).2 rfl)
  (ah (df rfl (aT 2))
  (ah (mf (ts := [ax [.k (eK z7), iv 0, iv 0], Rg.au (.bool false)]) rfl (aT 3) (of_decide_eq_true rfl) rfl)
  (ah (mf (ts := [ax [.k (eK z7), iv 0, iv 0], Rg.au (.bool false)]) rfl (aT 3) (of_decide_eq_true rfl) rfl)
  (ah (uh Re rfl az.step az.size rfl (xm (by intro j hj; simp at hj; (repeat' (first | (rcases hj with rfl | hj))) <;> first | (subst hj; exact ⟨_, _, _, rfl⟩) | exact ⟨_, _, _, rfl⟩)))
  Rg.bg))))))) ?_
 intro v1 V1 hG1 hv1 hne1
 simp only [Rg.puts, Act.put, tA]
 have e5 : v1 5 = .bool false := hv1 5 de
 obtain ⟨axe, e6, Bb, El⟩ := (show qj 44 zU W0.heap.size V1 (v1 6) from hv1 6 de)
 simp only [e5, e6]
 have hO := hG1.1
 replace hO := Own.add (aa HO) hG1.2 Bb El
 clear Bb El
 refine oo hO 0 [] zU [.k (eK z7), iv 0, iv 0] [] rfl Bo rfl (show ax [.k (eK z7), iv 0, iv 0] V1 (v1 4) from hv1 4 de) rfl rfl rfl ?_
 intro Cg jb hk0
 replace hO := jb
 clear jb
 clear HO
 have HO := hide hO
 clear hO hG1 hv1 hne1 hk0
 try clear e5 e6
 go_upto_region 2 with fail
 refine Rg.di 1 54 (Rg.pick [Rg.au (.bool false)]) (az w _ Cg) dz [] kr rfl (Rg.ek.pick ⟨Rg.ae _, trivial⟩) (az.begin (aa HO))
  (ah (df rfl aF)
  Rg.bg) ?_
 intro v2 V2 hG2 hv2 hne2
 simp only [Rg.puts, Act.put, tA]
 have e0 : v2 0 = .bool false := hv2 0 de
 simp only [e0]
 have hO := hG2.1
 clear HO
 have HO := hide hO
 clear hO hG2 hv2 hne2
 try clear e0
 go_upto_region 4 with fail
 refine Rg.di 2 54 (Rg.pick [Rg.au (.string s), Rg.au (.bool false)]) (az w _ V2) dz [] kr rfl (Rg.ek.pick ⟨Rg.ae _, Rg.ae _, trivial⟩) (az.begin (aa HO))
  (ah (df rfl aF)
  (ah (axw rfl (aT 0) (aa HS) rfl)
  Rg.bg)) ?_
 intro v3 V3 hG3 hv3 mh
 simp only [Rg.puts, Act.put, tA]
 have e1 : v3 1 = .bool false := hv3 1 de
 simp only [e1]
 have hO := hG3.1
 clear HO
 have HO := hide hO
 clear hO hG3 hv3 mh
 try clear e1
 go_upto_region 6 with fail
 refine Rg.di 7 54 (Rg.pick [Rg.au (.string s), Rg.au (.int .u8 b.toNat), jw [ax [iv p, iv q], Rg.au (.bool true)], jw [ax [iv p, iv q], Rg.au (.bool true)], ax [iv p, iv q], Rg.au (.bool true), qj 23 zR V3.heap.size]) (az w _ V3) dz [6] kr rfl (Rg.ek.pick ⟨Rg.ae _, Rg.ae _, jm ⟨(bf _), (Rg.ae _), trivial⟩, jm ⟨(bf _), (Rg.ae _), trivial⟩, bf _, Rg.ae _, qz _ _ _, trivial⟩) (az.begin (aa HO))
  (ah (df rfl aF)
  (ah (axx rfl (aT 0) (aa HS) rfl)
  (ah (sc1 Tryz.func172 (aT 1) (fun W v0 hG h0 => by cases h0; exact ade (aa HP) W))
  (ah (df rfl (aT 2))
  (ah (mf (ts := [ax [iv p, iv q], Rg.au (.bool true)]) rfl (aT 3) (of_decide_eq_true rfl) rfl)
  (ah (mf (ts := [ax [iv p, iv q], Rg.au (.bool true)]) rfl (aT 3) (of_decide_eq_true rfl) rfl)
  (ah (uh Zd rfl az.step az.size rfl (xm (by intro j hj; simp at hj; (repeat' (first | (rcases hj with rfl | hj))) <;> first | (subst hj; exact ⟨_, _, _, rfl⟩) | exact ⟨_, _, _, rfl⟩)))
  Rg.bg))))))) ?_
 intro v4 V4 hG4 hv4 tu
 simp only [Rg.puts, Act.put, tA]
 have e5 : v4 5 = .bool true := hv4 5 de
 obtain ⟨bos, e6, Bb, El⟩ := (show qj 23 zR V3.heap.size V4 (v4 6) from hv4 6 de)
 simp only [e5, e6]
 have hO := hG4.1
 replace hO := Own.add (aa HO) hG4.2 Bb El
 clear Bb El
 refine oo hO 0 [] zR [iv p, iv q] [] rfl Oy rfl (show ax [iv p, iv q] V4 (v4 4) from hv4 4 de) rfl rfl rfl ?_
 intro Gr jb hk0
 replace hO := jb
 clear jb
 clear HO
 have HO := hide hO
 clear hO hG4 hv4 tu hk0
 try clear e5 e6
 go_upto_region 7 with fail
 refine Rg.di 8 54 (Rg.pick [Rg.au (.map (some r)), Rg.au (.string s), Rg.au (.string ⟨ls.toArray⟩), jw [ax [.k (eK f), iv n, iv d], Rg.au (.bool true)], jw [ax [.k (eK f), iv n, iv d], Rg.au (.bool true)], ax [.k (eK f), iv n, iv d], Rg.au (.bool true), qj 44 zU Gr.heap.size]) (az w _ Gr) dz [7] kr rfl (Rg.ek.pick ⟨Rg.ae _, Rg.ae _, Rg.ae _, jm ⟨(bf _), (Rg.ae _), trivial⟩, jm ⟨(bf _), (Rg.ae _), trivial⟩, bf _, Rg.ae _, qz _ _ _, trivial⟩) (az.begin (aa HO))
  (ah (df rfl aF)
  (ah (df rfl aF)
  (ah (Yw rfl (aT 1) (aa HS) rfl)
  (ah (Tc rfl (aT 0) (aT 2) (fun W h => (aa HM).below h.1.bel) (aa HV).1 (aa HV).2 rfl)
  (ah (df rfl (aT 3))
  (ah (mf (ts := [ax [.k (eK f), iv n, iv d], Rg.au (.bool true)]) rfl (aT 4) (of_decide_eq_true rfl) rfl)
  (ah (mf (ts := [ax [.k (eK f), iv n, iv d], Rg.au (.bool true)]) rfl (aT 4) (of_decide_eq_true rfl) rfl)
  (ah (uh Re rfl az.step az.size rfl (xm (by intro j hj; simp at hj; (repeat' (first | (rcases hj with rfl | hj))) <;> first | (subst hj; exact ⟨_, _, _, rfl⟩) | exact ⟨_, _, _, rfl⟩)))
  Rg.bg)))))))) ?_
 intro v5 V5 zz hv5 hne5
 simp only [Rg.puts, Act.put, tA]
 have e6 : v5 6 = .bool true := hv5 6 de
 obtain ⟨bor, e7, Ub, hz7⟩ := (show qj 44 zU Gr.heap.size V5 (v5 7) from hv5 7 de)
 simp only [e6, e7]
 have hO := zz.1
 replace hO := Own.add (aa HO) zz.2 Ub hz7
 clear Ub hz7
 refine oo hO 0 [] zU [.k (eK f), iv n, iv d] [] rfl Bo rfl (show ax [.k (eK f), iv n, iv d] V5 (v5 5) from hv5 5 de) rfl rfl rfl ?_
 intro Rx jb hk0
 replace hO := jb
 clear jb
 clear HO
 have HO := hide hO
 clear hO zz hv5 hne5 hk0
 try clear e6 e7
 go_upto_region 8 with fail
 refine Rg.di 11 54 (Rg.pick [Rg.au (.bool true), Rg.au (.bool false), Rg.au (.bool false), Rg.au (.bool true), Rg.au (.bool false), Rg.au (.bool false), Rg.au (.bool false), Rg.au (.string s), Rg.au (.string ⟨ls.toArray⟩), Rg.au (.bool true), Rg.au (.bool true)]) (az w _ Rx) dz [] kr rfl (Rg.ek.pick ⟨Rg.ae _, Rg.ae _, Rg.ae _, Rg.ae _, Rg.ae _, Rg.ae _, Rg.ae _, Rg.ae _, Rg.ae _, Rg.ae _, Rg.ae _, trivial⟩) (az.begin (aa HO))
  (ah (df rfl aF)
  (ah (zw rfl (aT 0) rfl rfl)
  (ah (df rfl (aT 1))
  (Rg.dm (Rg.fq (d := 39) rfl kr rfl (df rfl aF))
  (Rg.dm (Rg.fq (d := 39) rfl kr rfl (zw rfl (aT 3) rfl rfl))
  (ah (qo rfl (aT 2) (aT 4))
  (ah (df rfl (aT 5))
  (Rg.dm (Rg.fq (d := 43) rfl kr rfl (df rfl aF))
  (Rg.dm (Rg.fq (d := 43) rfl kr rfl (Yw rfl (aT 7) (aa HS) rfl))
  (Rg.dm (Rg.fq (d := 43) rfl kr rfl (Bp Tryz.func173 kr rfl az.step (aT 8) (fun W v0 hG h0 => by cases h0; exact (aa HZ) ▸ asn _ W)))
  (ah (qo rfl (aT 6) (aT 9))
  Rg.bg))))))))))) ?_
 intro v6 V6 Ch hv6 Gp
 simp only [Rg.puts, Act.put, tA]
 have e10 : v6 10 = .bool true := hv6 10 de
 simp only [e10]
 have hO := Ch.1
 clear HO
 have HO := hide hO
 clear hO Ch hv6 Gp
 try clear e10
 go_upto_region 9 with fail
 refine Rg.di 1 54 (Rg.pick [ax zM]) (az w _ V6) dz [] kr rfl (Rg.ek.pick ⟨bf _, trivial⟩) (az.begin (aa HO))
  (ah (atz axc rfl rfl rfl)
  Rg.bg) ?_
 intro v7 V7 Bh hv7 En
 simp only [Rg.puts, Act.put, tA]
 have hO := Bh.1
 refine oo hO 3 [] zM zM [] rfl Au rfl (show ax zM V7 (v7 0) from hv7 0 de) rfl rfl rfl ?_
 intro bpb jb hk0
 replace hO := jb
 clear jb
 clear HO
 have HO := hide hO
 clear hO Bh hv7 En hk0
 go_wp2_with fail
 exact Im Tryz.results121 Hf rfl rfl (aa HO) Tn rfl rfl
end Sb


namespace Sb
def abw (L : List (ByteArray × Value)) : World → Value → Prop := fun W v => ∃ r, v = .map (some r) ∧ xx W r L
theorem Xa {L : List (ByteArray × Value)} : Rg.Da dz (abw L) := by
 rintro w w' v hb ⟨r, rfl, h⟩
 exact ⟨r, rfl, h.below hb⟩
theorem ahy (w : World) : Calls Tryz.prog 120 #[] w (ic (abw wu) w) :=
 (bcn w).mono fun e w' ⟨r, h1, h2, h3⟩ => ⟨_, h1, h2, r, rfl, h3⟩
theorem aqx {s : ByteArray} (w : World) (hf : ∀ W r, xx W r wu → Calls Tryz.prog 121 #[.map (some r), .string s] W (ic (jw [ax zM, Rg.au (.bool false)]) W)) :
  Calls Tryz.prog 50 #[.string s] w (ic (UnT ⟨z7, 0, 0, 4⟩) w) := by
 have HF := hide hf
 clear hf
 go_enter Tryz.func50, Tryz.ntmps50
 go_upto_region 1 with fail
 have hO := (Own.push (T := 44) (ls := zU) (Own.nil w) (fu.vs w [.int .i64 0, .int .i64 0, .int .i64 0, .int .i64 0, .int .i64 0, .int .i64 0, .int .i64 0, .int .i64 0, .int .i64 0] rfl) (w.heap.size) rfl)
 generalize w.alloc (.cells #[.int .i64 0, .int .i64 0, .int .i64 0, .int .i64 0, .int .i64 0, .int .i64 0, .int .i64 0, .int .i64 0, .int .i64 0] 44) = W0 at *
 have HO := hide hO
 clear hO
 go_upto_region 1 with fail
 refine Rg.di 7 19 (Rg.pick [abw wu, Rg.au (.string s), jw [ax zM, Rg.au (.bool false)], jw [ax zM, Rg.au (.bool false)], ax zM, Rg.au (.bool false), qj 118 zM W0.heap.size]) (az w _ W0) dz [6] kr rfl (Rg.ek.pick ⟨Xa, Rg.ae _, jm ⟨(bf _), (Rg.ae _), trivial⟩, jm ⟨(bf _), (Rg.ae _), trivial⟩, bf _, Rg.ae _, qz _ _ _, trivial⟩) (az.begin (aa HO))
  (ah (Pb Tryz.func120 kr rfl az.step  (fun W  hG  => ahy W))
  (ah (df rfl aF)
  (ah (sc2 Tryz.func121 (aT 0) (aT 1) (fun W v0 v1 hG h0 h1 => by obtain ⟨r, rfl, hm⟩ := h0; cases h1; exact (aa HF) W r hm))
  (ah (df rfl (aT 2))
  (ah (mf (ts := [ax zM, Rg.au (.bool false)]) rfl (aT 3) (of_decide_eq_true rfl) rfl)
  (ah (mf (ts := [ax zM, Rg.au (.bool false)]) rfl (aT 3) (of_decide_eq_true rfl) rfl)
  (ah (uh adu rfl az.step az.size rfl (xm (by intro j hj; simp at hj; (repeat' (first | (rcases hj with rfl | hj))) <;> first | (subst hj; exact ⟨_, _, _, rfl⟩) | exact ⟨_, _, _, rfl⟩)))
  Rg.bg))))))) ?_
 intro v1 V1 hG1 hv1 hne1
 simp only [Rg.puts, Act.put, tA]
 have e5 : v1 5 = .bool false := hv1 5 de
 obtain ⟨axe, e6, Bb, El⟩ := (show qj 118 zM W0.heap.size V1 (v1 6) from hv1 6 de)
 simp only [e5, e6]
 have hO := hG1.1
 replace hO := Own.add (aa HO) hG1.2 Bb El
 clear Bb El
 refine oo hO 0 [] zM zM [] rfl Au rfl (show ax zM V1 (v1 4) from hv1 4 de) rfl rfl rfl ?_
 intro Cg jb hk0
 replace hO := jb
 clear jb
 clear HO
 have HO := hide hO
 clear hO hG1 hv1 hne1 hk0
 try clear e5 e6
 go_upto_region 2 with fail
 refine Rg.di 2 19 (Rg.pick [Rg.au (.bool false), Rg.au (.bool true)]) (az w _ Cg) dz [] kr rfl (Rg.ek.pick ⟨Rg.ae _, Rg.ae _, trivial⟩) (az.begin (aa HO))
  (ah (df rfl aF)
  (ah (zw rfl (aT 0) rfl rfl)
  Rg.bg)) ?_
 intro v2 V2 hG2 hv2 hne2
 simp only [Rg.puts, Act.put, tA]
 have e1 : v2 1 = .bool true := hv2 1 de
 simp only [e1]
 have hO := hG2.1
 clear HO
 have HO := hide hO
 clear hO hG2 hv2 hne2
 try clear e1
 go_upto_region 3 with fail
 refine Rg.di 1 19 (Rg.pick [ax [.k (eK z7), iv 0, iv 0]]) (az w _ V2) dz [] kr rfl (Rg.ek.pick ⟨bf _, trivial⟩) (az.begin (aa HO))
  (ah (atv rfl rfl)
  Rg.bg) ?_
 intro v3 V3 hG3 hv3 mh
 simp only [Rg.puts, Act.put, tA]
 have hO := hG3.1
 refine oo hO 1 [] zU [.k (eK z7), iv 0, iv 0] [] rfl Bo rfl (show ax [.k (eK z7), iv 0, iv 0] V3 (v3 0) from hv3 0 de) rfl rfl rfl ?_
 intro Ou jb hk0
 replace hO := jb
 clear jb
 clear HO
 have HO := hide hO
 clear hO hG3 hv3 mh hk0
 go_wp2_with fail
 exact Im Tryz.results50 Ps rfl rfl (aa HO) wz rfl rfl
theorem aqy (w : World) : Calls Tryz.prog 50 #[.string ⟨#[109, 109, 105, 110]⟩] w (ic (UnT ⟨z7, 0, 0, 4⟩) w) :=
 aqx w fun W r hm => arx (b := 109) (ls := [109, 105, 110]) (f := fun j => if j = 2 then 1 else 0) (n := 60) (d := 1) (p := 1) (q := 1000) W hm rfl kr kr kr kr
end Sb


namespace Sb
theorem bev {s : ByteArray} {n d : Int} {c : Bool} (w : World) (u1 : Value) (h1 : ax [iv n, iv d] w u1) (hc : decide (n > 0) = c) :
  Calls Tryz.prog 116 #[.string s, u1, .int .i64 0] w (ic (Rg.au (.bool c)) w) := by
 have HC := hide hc
 clear hc
 have hu1 := Eo h1
 subst hu1
 go_enter Tryz.func116, Tryz.ntmps116
 go_upto_region 1 with fail
 have hO := (Own.push (T := 23) (ls := [iv n, iv d]) (Own.nil w) (fu.v (lh _) (fu.v (lh _) rfl)) (w.heap.size) rfl)
 generalize w.alloc (.cells #[.int .i64 n, .int .i64 d] 23) = W0 at *
 have HO := hide hO
 clear hO
 go_upto_region 1 with fail
 refine Rg.di 2 19 (Rg.pick [Rg.au (.int .i64 0), Rg.au (.bool true)]) (az w _ W0) dz [] kr rfl (Rg.ek.pick ⟨Rg.ae _, Rg.ae _, trivial⟩) (az.begin (aa HO))
  (ah (df rfl aF)
  (ah (Td rfl (aT 0) (Rg.je _) rfl rfl)
  Rg.bg)) ?_
 intro v1 V1 hG1 hv1 hne1
 simp only [Rg.puts, Act.put, tA]
 have e1 : v1 1 = .bool true := hv1 1 de
 simp only [e1]
 have hO := hG1.1
 clear HO
 have HO := hide hO
 clear hO hG1 hv1 hne1
 try clear e1
 go_upto_region 2 with fail
 refine Rg.di 4 19 (Rg.pick [Rg.au (.pointer (some ⟨w.heap.size, 0, none⟩)), Rg.au (.int .i64 n), Rg.au (.bool c), Rg.au (.bool c)]) (az w _ V1) dz [] kr rfl (Rg.ek.pick ⟨Rg.ae _, Rg.ae _, Rg.ae _, Rg.ae _, trivial⟩) (az.begin (aa HO))
  (ah (Kc (b := w.heap.size) (off := 0) rfl aF rfl rfl)
  (ah (Qv Hg me0 (aT 0) [] [iv d] rfl)
  (ah (Uz rfl (aT 1) (Rg.je _) rfl (aa HC))
  (ah (ik rfl (aT 2))
  Rg.bg)))) ?_
 intro v2 V2 hG2 hv2 hne2
 simp only [Rg.puts, Act.put, tA]
 have e2 : v2 2 = .bool c := hv2 2 de
 have e3 : v2 3 = .bool c := hv2 3 de
 simp only [e2, e3]
 have hO := hG2.1
 clear HO
 have HO := hide hO
 clear hO hG2 hv2 hne2
 try clear e2 e3
 go_wp2_with fail
 exact yz Tryz.results116 rfl (aa HO).bel rfl
end Sb


namespace Wd
def yx (c : UInt8) : Bool := decide (48 ≤ (c.toNat : Int)) && decide ((c.toNat : Int) ≤ 57)
def Co (l : List UInt8) (m : Int) : Bool := decide (1 ≤ (l.length : Int)) && decide ((l.length : Int) ≤ m) && l.all yx
def Bg (l : List UInt8) : Bool := Co l 20 && (l == [48] || !(l.head? == some 48))
end Wd
theorem Yn (s : ByteArray) (k : Nat) (h : k < s.size) : s.data.toList.take (k + 1) = s.data.toList.take k ++ [s[k]] := by
 rw [List.take_succ_eq_append_getElem (by simpa using h)]; rfl
theorem ou (s : ByteArray) : s.data.toList.length = s.size := Array.length_toList
theorem aso (s : ByteArray) (k : Nat) (h : k < s.size) (hd : Wd.yx s[k] = false) : s.data.toList.all Wd.yx = false := by
 rw [List.all_eq_false]
 refine ⟨s[k], ?_, by rw [hd]; decide⟩
 have h1 : k < s.data.toList.length := by rw [ou]; exact h
 have h2 : s[k] = s.data.toList[k] := rfl
 rw [h2]
 exact List.getElem_mem h1
theorem Tp (s : ByteArray) (m : Int) (w : World) (hs : s.size ≤ 9223372036854775807) :
  Calls Tryz.prog 158 #[.string s, .int .i64 m] w fun e w' => e = .returned (.bool (Wd.Co s.data.toList m)) ∧ w' = w := by
 unfold Wd.Co
 rw [ou]
 by_cases h1 : (s.size : Int) < 1
 ·
  have e : (decide (1 ≤ (s.size : Int)) && decide ((s.size : Int) ≤ m) && s.data.toList.all Wd.yx) = false := by rw [decide_eq_false (show ¬ 1 ≤ (s.size : Int) by omega)]; rfl
  rw [e]
  have d1 : decide ((s.size : Int) < 1) = true := decide_eq_true h1
  clear h1 hs e
  go_enter Tryz.func158, Tryz.ntmps158
  go_wp2
  go_ret
  exact ⟨rfl, rfl⟩
 ·
  have d1 : decide ((s.size : Int) < 1) = false := decide_eq_false h1
  by_cases h2 : m < s.size
  ·
   have e : (decide (1 ≤ (s.size : Int)) && decide ((s.size : Int) ≤ m) && s.data.toList.all Wd.yx) = false := by rw [decide_eq_false (show ¬ (s.size : Int) ≤ m by omega), Bool.and_false]; rfl
   rw [e]
   have d2 : decide (m < (s.size : Int)) = true := decide_eq_true h2
   clear h1 h2 hs e
   go_enter Tryz.func158, Tryz.ntmps158
   go_wp2
   go_ret
   exact ⟨rfl, rfl⟩
  ·
   have d2 : decide (m < (s.size : Int)) = false := decide_eq_false h2
   have e : (decide (1 ≤ (s.size : Int)) && decide ((s.size : Int) ≤ m)) = true := by rw [decide_eq_true (show 1 ≤ (s.size : Int) by omega), decide_eq_true (show (s.size : Int) ≤ m by omega)]; rfl
   rw [e, Bool.true_and]
   obtain ⟨r, hr⟩ : ∃ r, r = s.data.toList.all Wd.yx := ⟨_, rfl⟩
   rw [← hr]
   have HR := Lib.hid hr
   clear h1 h2 e hr
   go_enter Tryz.func158, Tryz.ntmps158
   go_wp2
   go_loop [17] (fun i => ∃ k : Nat, k ≤ s.size ∧ i = .int .i64 k ∧ (s.data.toList.take k).all Wd.yx = true) (fun i => s.size - (intOf i).toNat)
   case atStart => exact ⟨0, Nat.zero_le _, rfl, rfl⟩
   case round =>
    obtain ⟨k, hk, rfl, hall⟩ := hrel
    have bja := Lib.hid hall
    clear hall
    by_cases hlt : k < s.size
    ·
     have hts := Yn s k hlt
     have hf := aso s k hlt
     obtain ⟨c, hc⟩ : ∃ c, c = s[k] := ⟨_, rfl⟩
     by_cases c1 : (s[k].toNat : Int) < 48
     ·
      have e1 : decide ((s[k].toNat : Int) < 48) = true := decide_eq_true c1
      have HF := Lib.hid (HR.out.trans (hf (by unfold Wd.yx; rw [decide_eq_false (show ¬ 48 ≤ (s[k].toNat : Int) by omega)]; rfl)))
      clear hf hts hc
      go_wp2
      go_ret
      exact ⟨by rw [HF.out]; rfl, rfl⟩
     ·
      have e1 : decide ((s[k].toNat : Int) < 48) = false := decide_eq_false c1
      by_cases c2 : 57 < (s[k].toNat : Int)
      ·
       have e2 : decide (57 < (s[k].toNat : Int)) = true := decide_eq_true c2
       have HF := Lib.hid (HR.out.trans (hf (by unfold Wd.yx; rw [decide_eq_false (show ¬ (s[k].toNat : Int) ≤ 57 by omega), Bool.and_false])))
       clear hf hts hc
       go_wp2
       go_ret
       exact ⟨by rw [HF.out]; rfl, rfl⟩
      ·
       have e2 : decide (57 < (s[k].toNat : Int)) = false := decide_eq_false c2
       have HS := Lib.hid (show (s.data.toList.take (k + 1)).all Wd.yx = true by
        rw [hts, List.all_append, bja.out, List.all_cons, List.all_nil]
        unfold Wd.yx
        rw [decide_eq_true (show 48 ≤ (s[k].toNat : Int) by omega), decide_eq_true (show (s[k].toNat : Int) ≤ 57 by omega)]; rfl)
       clear hf hts hc
       go_wp2
       go_round
       case rel => exact ⟨k + 1, by omega, by go_num, HS.out⟩
       case measure => simp [intOf]; omega
    ·
     have HA := Lib.hid (show s.data.toList.all Wd.yx = true by
      have h := bja.out
      rwa [List.take_of_length_le (by rw [ou]; omega)] at h)
     have HA2 := Lib.hid (HR.out.trans HA.out)
     clear HA
     go_wp2
     go_ret
     exact ⟨by rw [HA2.out]; rfl, rfl⟩
theorem Gf (s : ByteArray) (w : World) (hs : s.size ≤ 9223372036854775807) :
  Calls Tryz.prog 156 #[.string s] w fun e w' => e = .returned (.bool (Wd.Bg s.data.toList)) ∧ w' = w := by
 have HD := hide (fun W => Tp s 20 W hs)
 unfold Wd.Bg
 by_cases hd : Wd.Co s.data.toList 20 = true
 ·
  have hl : 0 < s.size := by
   unfold Wd.Co at hd
   rw [ou] at hd
   rcases Nat.eq_zero_or_pos s.size with h | h
   ·
    rw [h] at hd; simp at hd
   ·
    exact h
  rw [hd] at HD ⊢
  rw [Bool.true_and]
  have hh : s.data.toList.head? = some s[0] := by
   have h1 : 0 < s.data.toList.length := by rw [ou]; exact hl
   rw [List.head?_eq_getElem?, List.getElem?_eq_getElem h1]; rfl
  have hs0 : s.toList = s.data.toList := Lib.toList_data s
  obtain ⟨r, hr⟩ : ∃ r, r = (s.data.toList == [48] || !(s.data.toList.head? == some 48)) := ⟨_, rfl⟩
  rw [← hr]
  by_cases h0 : s.data.toList = [48]
  ·
   have HR := Lib.hid (show r = true by rw [hr, h0]; rfl)
   have e1 : (s.toList == [48]) = true := by rw [hs0, h0]; rfl
   clear hd hr hh hs0 h0
   go_enter Tryz.func156, Tryz.ntmps156
   go_wp2_with (go_at_call 158; refine ((aa HD) _).mono ?_; rintro e w' ⟨rfl, rfl⟩)
   all_goals first | go_ret | skip
   all_goals exact ⟨by rw [HR.out]; rfl, rfl⟩
  ·
   have e1 : (s.toList == [48]) = false := by rw [hs0]; exact beq_eq_false_iff_ne.2 h0
   by_cases h1 : (s[0].toNat : Int) = 48
   ·
    have e2 : ((s[0].toNat : Int) != 48) = false := by rw [h1]; rfl
    have h2 : s[0] = 48 := UInt8.toNat_inj.1 (by show s[0].toNat = 48; omega)
    have HR := Lib.hid (show r = false by rw [hr, hh, h2, beq_eq_false_iff_ne.2 h0]; rfl)
    clear hd hr hh hs0 h0 h2
    go_enter Tryz.func156, Tryz.ntmps156
    go_wp2_with (go_at_call 158; refine ((aa HD) _).mono ?_; rintro e w' ⟨rfl, rfl⟩)
    all_goals first | go_ret | skip
    all_goals exact ⟨by rw [HR.out]; rfl, rfl⟩
   ·
    have e2 : ((s[0].toNat : Int) != 48) = true := by simp [h1]
    have h2 : ¬ s[0] = 48 := fun h => h1 (by rw [h]; rfl)
    have HR := Lib.hid (show r = true by
     have h3 : (some s[0] == some (48 : UInt8)) = false := beq_eq_false_iff_ne.2 (fun h => h2 (Option.some.inj h))
     rw [hr, hh, h3, beq_eq_false_iff_ne.2 h0]; rfl)
    clear hd hr hh hs0 h0 h2
    go_enter Tryz.func156, Tryz.ntmps156
    go_wp2_with (go_at_call 158; refine ((aa HD) _).mono ?_; rintro e w' ⟨rfl, rfl⟩)
    all_goals first | go_ret | skip
    all_goals exact ⟨by rw [HR.out]; rfl, rfl⟩
 ·
  have hd' : Wd.Co s.data.toList 20 = false := by cases h : Wd.Co s.data.toList 20 with
   | true => exact absurd h hd
   | false => rfl
  rw [hd'] at HD ⊢
  rw [Bool.false_and]
  clear hd hd'
  go_enter Tryz.func156, Tryz.ntmps156
  go_wp2_with (go_at_call 158; refine ((aa HD) _).mono ?_; rintro e w' ⟨rfl, rfl⟩)
  all_goals first | go_ret | skip
  all_goals exact ⟨rfl, rfl⟩

theorem amz (s sub : ByteArray) (c : UInt8) (hc : sub.data.toList = [c]) (w : World) :
  Calls Tryz.prog 224 #[.string s, .string sub] w fun e w' => e = .returned (.int .i64 (Lib.indexByte s.data.toList c)) ∧ w' = w := by
 have h1 : sub.size = 1 := by rw [← ou, hc]; rfl
 have hg : sub[0] = c := by
  have h2 : sub[0] = sub.data.toList[0]'(by rw [hc]; exact Nat.zero_lt_one) := rfl
  rw [h2]; simp only [hc, List.getElem_cons_zero]
 have hs0 : s.toList = s.data.toList := Lib.toList_data s
 have hs1 : sub.toList = [c] := (Lib.toList_data sub).trans hc
 obtain ⟨i, hi⟩ : ∃ i, i = Lib.indexByte s.data.toList c := ⟨_, rfl⟩
 have HB := hide (fun W => Tryz.stringslite_IndexByte s (sub[0].toNat : Int) W)
 have hcc : ((sub[0].toNat : Int)).toNat.toUInt8 = c := by rw [hg, Int.toNat_natCast]; exact UInt8.ofNat_toNat
 rw [hcc] at HB
 rw [← hi] at HB ⊢
 have e1 : ((sub.size : Int) == 0) = false := by rw [h1]; rfl
 have e2 : ((sub.size : Int) == 1) = true := by rw [h1]; rfl
 by_cases h0 : s.data.toList = [c]
 ·
  have HI := Lib.hid (show i = 0 by rw [hi, h0]; simp [Lib.indexByte])
  have e3 : (sub.toList == s.toList) = true := by rw [hs1, hs0, h0]; exact beq_self_eq_true _
  clear hc hg hs0 hs1 hi hcc h0
  go_enter Tryz.func224, Tryz.ntmps224
  go_wp2
  all_goals first | go_ret | skip
  all_goals exact ⟨by rw [HI.out]; rfl, rfl⟩
 ·
  have e3 : (sub.toList == s.toList) = false := by rw [hs1, hs0]; exact beq_eq_false_iff_ne.2 (fun h => h0 h.symm)
  have h2 : (0 : Int) < sub.size := by omega
  clear hc hg hs0 hs1 hi hcc h0
  go_enter Tryz.func224, Tryz.ntmps224
  go_wp2_with (go_at_call 242; refine ((aa HB) _).mono ?_; rintro e w' ⟨rfl, rfl⟩)
  all_goals first | go_ret | skip
  all_goals exact ⟨rfl, rfl⟩
def bjc (w : World) (s : ByteArray) (c : UInt8) (e : Ending) (w' : World) : Prop := ∃ (a b : ByteArray) (f : Bool), e = .returned (.tuple #[.string a, .string b, .bool f]) ∧ Below w.heap.size w w' ∧
 ((f = true ∧ s.data.toList = a.data.toList ++ c :: b.data.toList ∧ c ∉ a.data.toList) ∨ (f = false ∧ a = s ∧ b.data.toList = [] ∧ c ∉ s.data.toList))
theorem awx (s sub : ByteArray) (c : UInt8) (hc : sub.data.toList = [c]) (w : World) (hs : s.size ≤ 9223372036854775806) :
  Calls Tryz.prog 198 #[.string s, .string sub] w fun e w' => bjc w s c e w' := by
 have HI := hide (fun W => amz s sub c hc W)
 have h1 : sub.size = 1 := by rw [← ou, hc]; rfl
 rcases Int.lt_or_le (Lib.indexByte s.data.toList c) 0 with hn | hn
 ·
  have e0 : Lib.indexByte s.data.toList c = -1 := by have := Lib.indexByte_ge s.data.toList c; omega
  have hno : c ∉ s.data.toList := fun h => by
   obtain ⟨k, hk⟩ := List.getElem?_of_mem h
   exact Lib.indexByte_none e0 k hk
  rw [e0] at HI
  clear hn e0 hs
  go_enter Tryz.func198, Tryz.ntmps198
  go_wp2_with (go_at_call 224; refine ((aa HI) _).mono ?_; rintro e w' ⟨rfl, rfl⟩)
  all_goals first | go_ret3 | skip
  exact ⟨s, ⟨#[]⟩, false, rfl, Below.refl _ _, .inr ⟨rfl, rfl, rfl, hno⟩⟩
 ·
  obtain ⟨o, ho⟩ : ∃ o : Nat, Lib.indexByte s.data.toList c = o := ⟨_, (Int.toNat_of_nonneg hn).symm⟩
  obtain ⟨g1, g2⟩ := Lib.indexByte_some ho
  have hlt : o < s.data.toList.length := by
   rcases Nat.lt_or_ge o s.data.toList.length with h | h
   ·
    exact h
   ·
    rw [List.getElem?_eq_none h] at g1; cases g1
  have hlt2 : o < s.size := by rw [← ou]; exact hlt
  rw [ho] at HI
  have k1 : (s.extract 0 o).data.toList = s.data.toList.take o := by rw [Lib.extract_eq]; simp
  have k2 : (s.extract (o + sub.size) s.size).data.toList = s.data.toList.drop (o + 1) := by
   rw [Lib.extract_eq, h1]
   show List.take (s.size - (o + 1)) (List.drop (o + 1) s.data.toList) = _
   exact List.take_of_length_le (by rw [List.length_drop, ou]; exact Nat.le_refl _)
  have k3 : s.data.toList = (s.extract 0 o).data.toList ++ c :: (s.extract (o + sub.size) s.size).data.toList := by
   rw [k1, k2]
   have h2 : s.data.toList[o] = c := by rw [List.getElem?_eq_getElem hlt] at g1; exact Option.some.inj g1
   rw [← h2, ← List.drop_eq_getElem_cons hlt, List.take_append_drop]
  have k4 : c ∉ (s.extract 0 o).data.toList := fun h => by
   rw [k1] at h
   obtain ⟨k, hk⟩ := List.getElem?_of_mem h
   have hko : k < o := by
    rcases Nat.lt_or_ge k o with h | h
    ·
     exact h
    ·
     rw [List.getElem?_eq_none (by rw [List.length_take]; omega)] at hk; cases hk
   rw [List.getElem?_take_of_lt hko] at hk
   exact g2 k hko hk
  have c1 : (0 : Int) ≤ ↑o := by omega
  have c2 : (↑o : Int) ≤ ↑s.size := by omega
  have c3 : (0 : Int) ≤ ↑o + ↑sub.size := by omega
  have c4 : (↑o + ↑sub.size : Int) ≤ ↑s.size := by omega
  have K3 := Lib.hid k3
  have K4 := Lib.hid k4
  have H1 := Lib.hid h1
  clear k1 k2 k3 k4 g1 g2 hlt hlt2 hn ho hc h1
  go_enter Tryz.func198, Tryz.ntmps198
  go_wp2_with (go_at_call 224; refine ((aa HI) _).mono ?_; rintro e w' ⟨rfl, rfl⟩)
  go_region
  all_goals go_wp2
  all_goals first | go_ret3 | skip
  all_goals exact ⟨_, _, true, rfl, by first | exact Below.refl _ _ | exact (Below.refl _ _).drew, .inl ⟨rfl, K3.out, K4.out⟩⟩
theorem Kb (s sub : ByteArray) (c : UInt8) (hc : sub.data.toList = [c]) (w : World) (hs : s.size ≤ 9223372036854775806) :
  Calls Tryz.prog 155 #[.string s, .string sub] w fun e w' => bjc w s c e w' := by
 have HI := hide (fun W => awx s sub c hc W hs)
 clear hc hs
 go_enter Tryz.func155, Tryz.ntmps155
 go_wp2_with (go_at_call 198; refine ((aa HI) _).mono ?_; rintro e w' ⟨a, b, f, rfl, hb, hf⟩)
 all_goals first | go_ret3 | skip
 exact ⟨a, b, f, rfl, hb, hf⟩

theorem aad {w W : World} {B b : Nat} {z x : Int} {s2 : Int} {cu : Bool} {A2 : Option Addr} {c2 : Nat} {l2 : List Nat} (hq : Cs W b z) (hv : fw W s2 cu A2 c2 l2 x) (hb : Below B w W) (hB : B ≤ b) (hBW : B ≤ W.heap.size) :
  Cs (((W.setCell ⟨b, 0, none⟩ (.int .i64 s2)).setCell ⟨b, 1, none⟩ (.bool cu)).setCell ⟨b, 2, none⟩ (.slice A2 l2.length c2)) b x ∧ Below B w (((W.setCell ⟨b, 0, none⟩ (.int .i64 s2)).setCell ⟨b, 1, none⟩ (.bool cu)).setCell ⟨b, 2, none⟩ (.slice A2 l2.length c2)) := by
 obtain ⟨s1, cz, A1, c1, l1, h1, h2⟩ := hq
 have hg := il W b (.int .i64 s2) (.bool cu) (.slice A2 l2.length c2)
 exact ⟨⟨_, _, _, _, _, Yv h1, hv.upto h1 (qw _ _ _ _ _) hg⟩, hb.grown hg hBW (fun k hk => by injection hk with hk; omega)⟩
theorem Wd.apa {B K : Nat} {z : Int} (h : Wd.Sz B K z) (h1 : Wd.Sz B 1 1) : ∀ n : Nat, Wd.Sz B (K * n + 1) (z ^ n)
 | 0 => by rw [Int.pow_zero, Nat.mul_zero, Nat.zero_add]; exact h1
 | n + 1 => by
  have := (Wd.apa h h1 n).mul h
  rw [Int.pow_succ, Nat.mul_succ, Nat.add_right_comm]
  exact this
theorem bdu : Wd.Sz dh 1 1 := by unfold Wd.Sz; rw [Nat.pow_one, gm]; omega
namespace Wd
def uk (l : List UInt8) : Nat := l.foldl (fun a c => a * 10 + (c.toNat - 48)) 0
theorem Sr (l : List UInt8) (c : UInt8) : uk (l ++ [c]) = uk l * 10 + (c.toNat - 48) := by
 unfold uk; rw [List.foldl_append]; rfl
theorem ady {l : List UInt8} (h : l.all yx = true) {c : UInt8} (hc : c ∈ l) : 48 ≤ c.toNat ∧ c.toNat ≤ 57 := by
 have h1 := List.all_eq_true.1 h c hc
 unfold yx at h1
 rw [Bool.and_eq_true, decide_eq_true_eq, decide_eq_true_eq] at h1
 omega
theorem axf {l : List UInt8} (h : l.all yx = true) (k : Nat) : (l.take k).all yx = true :=
 List.all_eq_true.2 (fun x hx => List.all_eq_true.1 h x (List.mem_of_mem_take hx))
theorem ait (n : Nat) : ∀ l : List UInt8, l.length = n → l.all yx = true → uk l < 10 ^ l.length := by
 induction n with
 | zero => intro l hl _; rw [List.length_eq_zero_iff.1 hl]; exact Nat.zero_lt_one
 | succ n ih =>
  intro l hl h
  have hne : l ≠ [] := fun e => by rw [e] at hl; cases hl
  have e := List.dropLast_concat_getLast hne
  have hl' : l.dropLast.length = n := by rw [List.length_dropLast, hl]; rfl
  have h1 := ih l.dropLast hl' (List.all_eq_true.2 (fun x hx => List.all_eq_true.1 h x ((List.dropLast_sublist l).subset hx)))
  have h2 := ady h (List.getLast_mem hne)
  rw [← e, Sr, e, hl, Nat.pow_succ]
  rw [hl'] at h1
  omega
theorem ajk (l : List UInt8) (h : l.all yx = true) : uk l < 10 ^ l.length := ait _ l rfl h
end Wd
theorem ael {n : Nat} (h : n < 10 ^ 40) : Wd.Sz dh 3 (n : Int) := by
 have : (10 : Nat) ^ 40 < dh ^ 3 := by rw [gm]; decide
 unfold Wd.Sz; rw [Int.natAbs_natCast]; omega
theorem Yo : Wd.Sz dh 1 10 := by unfold Wd.Sz; rw [Nat.pow_one, gm]; omega
theorem bdv {n : Int} (h1 : 0 ≤ n) (h2 : n ≤ 9) : Wd.Sz dh 1 n := by unfold Wd.Sz; rw [Nat.pow_one, gm]; omega
theorem wrap_u8 {n : Int} (h1 : 0 ≤ n) (h2 : n < 256) : IntKind.u8.wrap n = n := by
 first
  | exact IntWalk.u8_in _ ⟨h1, by omega⟩
  | (simp [IntKind.wrap]; omega)

theorem Jv (s : ByteArray) (w : World) (hd : s.data.toList.all Wd.yx = true) (hl : s.size ≤ 40) :
  Calls Tryz.prog 157 #[.string s] w fun e w' => Be w (Wd.uk s.data.toList : Nat) e w' := by
 have HO := hide (fun W => Al 0 om om W)
 have bpf := hide (fun W => Al 10 om om W)
 have HD := hide hd
 clear hd
 go_enter Tryz.func157, Tryz.ntmps157
 go_upto_region 1 with fail
 obtain ⟨nr, hsz, hw0⟩ := He w (.cells #[.int .i64 0, .bool false, .slice none 0 0] 77)
 generalize w.alloc (.cells #[.int .i64 0, .bool false, .slice none 0 0] 77) = W0 at *
 have hq := lt_of_block nr
 clear hsz
 go_wp2_with fail
 refine ((aa HO) _).mono ?_
 rintro e W1 ⟨s5, qg, A5, c5, l5, rfl, g1, hb⟩
 replace nr := (hb.block _ (lt_of_block nr)).trans nr
 replace hq := Nat.lt_of_lt_of_le hq hb.size
 replace hw0 := ay hw0 hb
 clear hb
 go_upto_region 2 with fail
 have hbx := Cs.new g1 rfl
 have hb := ig (Below.refl W1.heap.size W1) (.cells #[.int .i64 s5, .bool qg, .slice A5 l5.length c5] 77)
 clear g1
 obtain ⟨bx, Xv⟩ : ∃ b, b = W1.heap.size := ⟨_, rfl⟩
 rw [← Xv] at hbx ⊢
 have hbB : w.heap.size < bx := by rw [Xv]; exact hq
 generalize W1.alloc (.cells #[.int .i64 s5, .bool qg, .slice A5 l5.length c5] 77) = W2 at *
 replace nr := (hb.block _ (lt_of_block nr)).trans nr
 replace hq := Nat.lt_of_lt_of_le hq hb.size
 replace hw0 := ay hw0 hb
 clear hb Xv
 have HW0 := hide hw0; have NR := hide nr; have HQ := hide hq
 clear hw0 nr hq
 go_wp2_with fail
 go_loopw [8] (fun iv wr => ∃ k : Nat, k ≤ s.size ∧ iv = .int .i64 (k : Int) ∧ Cs wr bx (Wd.uk (s.data.toList.take k) : Nat) ∧ Hid (Below (w.heap.size + 1) W2 wr)) (fun iv _ => s.size - (intOf iv).toNat)
 case atStart => exact ⟨0, Nat.zero_le _, by first | rfl | go_num, by exact hbx, hide (Below.refl _ _)⟩
 case round =>
  obtain ⟨k, hk, rfl, hbq, hgr⟩ := hrel
  have hwr : Below w.heap.size w wr := (aa HW0).trans ((aa hgr).mono om)
  have hq0 := aa HQ
  have hgs := (aa hgr).size
  by_cases hlt : k < s.size
  ·
   obtain ⟨s6, ug, A6, c6, l6, j1, Jc⟩ := hbq
   have hdk := Wd.ady (aa HD) (show s[k] ∈ s.data.toList from List.getElem_mem (by rw [ou]; exact hlt))
   have hts := Wd.Sr (s.data.toList.take k) s[k]
   rw [← Yn s k hlt] at hts
   have hlt2 := Wd.ajk (s.data.toList.take k) (Wd.axf (aa HD) k)
   rw [List.length_take, Nat.min_eq_left (by rw [ou]; omega)] at hlt2
   have h40 : 10 ^ k ≤ 10 ^ 40 := Nat.pow_le_pow_right om om
   have sz1 : Wd.Sz dh 3 ((Wd.uk (s.data.toList.take k) : Nat) : Int) := ael om
   have sz2 : Wd.Sz dh 4 (((Wd.uk (s.data.toList.take k) : Nat) : Int) * 10) := sz1.mul Yo
   obtain ⟨dv, hdv⟩ : ∃ dv : Int, dv = (s[k].toNat : Int) - 48 := ⟨_, rfl⟩
   have hdb : 0 ≤ dv ∧ dv ≤ 9 := by omega
   have HTD := hide (fun W => Al dv om om W)
   have szd : Wd.Sz dh 1 dv := bdv hdb.1 hdb.2
   obtain ⟨v, hv⟩ : ∃ v : Int, v = (Wd.uk (s.data.toList.take k) : Nat) := ⟨_, rfl⟩
   have hnext : ((Wd.uk (s.data.toList.take (k + 1)) : Nat) : Int) = v * 10 + dv := by rw [hts, hv, hdv]; omega
   rw [← hv] at Jc sz1 sz2
   have HM := hide (fun s2 cu A2 c2 l2 W (g1 : fw W s6 ug A6 c6 l6 v) (g2 : fw W s2 cu A2 c2 l2 10) => Xq s6 ug A6 c6 l6 v s2 cu A2 c2 l2 10 W g1 g2 (g1.fit sz1 (by rw [zo]; omega)) (g2.fit Yo (by rw [zo]; omega)))
   have HA := hide (fun s2 cu A2 c2 l2 s3 rz A3 c3 l3 W (g1 : fw W s2 cu A2 c2 l2 (v * 10)) (g2 : fw W s3 rz A3 c3 l3 dv) => agl s2 cu A2 c2 l2 (v * 10) s3 rz A3 c3 l3 dv W g1 g2 (g1.fit sz2 (by rw [zo]; omega)) (g2.fit szd (by rw [zo]; omega)))
   have afv : wr.cell? ⟨bx, 0, none⟩ = some (.int .i64 s6) := ag j1 0
   have aef := ai j1 0
   have afu : wr.cell? ⟨bx, 1, none⟩ = some (.bool ug) := ag j1 1
   have aee := ai j1 1
   have aft : wr.cell? ⟨bx, 2, none⟩ = some (.slice A6 l6.length c6) := ag j1 2
   have aed := ai j1 2
   have qx := lt_of_block j1
   have HN := Lib.hid hnext
   have w1 : IntKind.u8.wrap ((s[k].toNat : Int) - 48) = dv := by rw [← hdv]; exact wrap_u8 hdb.1 om
   have w2 : IntKind.i64.wrap dv = dv := IntWalk.i64_in _ om
   have w3 : wrap64 dv = dv := IntWalk.wrap64_in _ om
   have w4 : ((s[k].toNat : Int) - 48) % 256 = dv := by rw [← hdv]; omega
   have d1 : decide ((k : Int) < (s.size : Int)) = true := decide_eq_true om
   have d2 : decide (k < s.size) = true := decide_eq_true hlt
   have J1 := hide j1; have F1 := hide Jc
   clear hdk hts hlt2 h40 sz1 sz2 hdv hdb szd hv hnext j1 Jc
   go_upto_region 5 with fail
   go_region_with (first | (go_at_call_of 137 (Value.int .i64 10); refine ((aa bpf) _).mono ?_; rintro e w' ⟨s2, cu, A2, c2, l2, rfl, f2, hb2⟩; (try (first | replace f3 := fw.below f3 hb2 | replace f3 := (fw.below f3 (Below.drew (Below.refl _ _))).below hb2)); (try (first | replace f4 := fw.below f4 hb2 | replace f4 := (fw.below f4 (Below.drew (Below.refl _ _))).below hb2)); have hbw := bz (w := wr) (by (first | with_reducible assumption | (repeat (first | with_reducible exact Below.refl _ _ | with_reducible assumption | refine Below.drew ?_ | (refine Below.alloc ?_ (by simp <;> omega) _) | refine mi ?_ _)))) hb2; obtain ⟨hc, hfz⟩ := fe hbw) | (go_at_call_of 147 (Value.agg #[.int .i64 s6, .bool ug, .slice A6 l6.length c6]); refine ((aa HM) s2 cu A2 c2 l2 _ (by exact fw.below (aa F1) (by (first | with_reducible assumption | (repeat (first | with_reducible exact Below.refl _ _ | with_reducible assumption | refine Below.drew ?_ | (refine Below.alloc ?_ (by simp <;> omega) _) | refine mi ?_ _))))) (by (first | exact f2 | exact fw.below f2 (by (first | with_reducible assumption | (repeat (first | with_reducible exact Below.refl _ _ | with_reducible assumption | refine Below.drew ?_ | (refine Below.alloc ?_ (by simp <;> omega) _) | refine mi ?_ _))))))).mono ?_; rintro e w' ⟨s3, rz, A3, c3, l3, rfl, f3, hb3⟩; (try (first | replace f4 := fw.below f4 hb3 | replace f4 := (fw.below f4 (Below.drew (Below.refl _ _))).below hb3)); have hbw := bz (w := wr) (by (first | with_reducible assumption | (repeat (first | with_reducible exact Below.refl _ _ | with_reducible assumption | refine Below.drew ?_ | (refine Below.alloc ?_ (by simp <;> omega) _) | refine mi ?_ _)))) hb3; obtain ⟨hc, hfz⟩ := fe hbw) | (go_at_call_of 137 (Value.int .i64 dv); refine ((aa HTD) _).mono ?_; rintro e w' ⟨s4, Cy, A4, c4, l4, rfl, f4, hb4⟩; (try (first | replace f2 := fw.below f2 hb4 | replace f2 := (fw.below f2 (Below.drew (Below.refl _ _))).below hb4)); (try (first | replace f3 := fw.below f3 hb4 | replace f3 := (fw.below f3 (Below.drew (Below.refl _ _))).below hb4)); have hbw := bz (w := wr) (by (first | with_reducible assumption | (repeat (first | with_reducible exact Below.refl _ _ | with_reducible assumption | refine Below.drew ?_ | (refine Below.alloc ?_ (by simp <;> omega) _) | refine mi ?_ _)))) hb4; obtain ⟨hc, hfz⟩ := fe hbw) | (go_at_call_of 166 (Value.agg #[.int .i64 s3, .bool rz, .slice A3 l3.length c3]); refine ((aa HA) s3 rz A3 c3 l3 s4 Cy A4 c4 l4 _ (by (first | exact f3 | exact fw.below f3 (by (first | with_reducible assumption | (repeat (first | with_reducible exact Below.refl _ _ | with_reducible assumption | refine Below.drew ?_ | (refine Below.alloc ?_ (by simp <;> omega) _) | refine mi ?_ _)))))) (by (first | exact f4 | exact fw.below f4 (by (first | with_reducible assumption | (repeat (first | with_reducible exact Below.refl _ _ | with_reducible assumption | refine Below.drew ?_ | (refine Below.alloc ?_ (by simp <;> omega) _) | refine mi ?_ _))))))).mono ?_; rintro e w' ⟨s5, qg, A5, c5, l5, rfl, f5, hb5⟩; have hbw := bz (w := wr) (by (first | with_reducible assumption | (repeat (first | with_reducible exact Below.refl _ _ | with_reducible assumption | refine Below.drew ?_ | (refine Below.alloc ?_ (by simp <;> omega) _) | refine mi ?_ _)))) hb5; obtain ⟨hc, hfz⟩ := fe hbw))
   all_goals
    have hst := aad (Cs.below ⟨_, _, _, _, _, aa J1, aa F1⟩ hbw) f5 ((aa hgr).trans (hbw.mono om)) om (by have := hbw.size; omega)
    go_wp2_with fail
    go_roundw
    case rel => exact ⟨k + 1, by omega, by first | rfl | go_num, HN.out ▸ hst.1, hide hst.2⟩
    case measure => simp [intOf] <;> omega
  ·
   have hke : s.data.toList.take k = s.data.toList := List.take_of_length_le (by rw [ou]; omega)
   rw [hke] at hbq
   obtain ⟨s6, ug, A6, c6, l6, j1, Jc⟩ := hbq
   have jr := ((aa hgr).block w.heap.size om).trans (aa NR)
   have afv : wr.cell? ⟨bx, 0, none⟩ = some (.int .i64 s6) := ag j1 0
   have aef := ai j1 0
   have afu : wr.cell? ⟨bx, 1, none⟩ = some (.bool ug) := ag j1 1
   have aee := ai j1 1
   have aft : wr.cell? ⟨bx, 2, none⟩ = some (.slice A6 l6.length c6) := ag j1 2
   have aed := ai j1 2
   have qx := lt_of_block j1
   have r0 : wr.cell? ⟨w.heap.size, 0, none⟩ = some (.int .i64 0) := ag jr 0
   have Ob := ai jr 0
   have r1 : wr.cell? ⟨w.heap.size, 1, none⟩ = some (.bool false) := ag jr 1
   have Oa := ai jr 1
   have r2 : wr.cell? ⟨w.heap.size, 2, none⟩ = some (.slice none 0 0) := ag jr 2
   have Wq := ai jr 2
   have qr : w.heap.size < wr.heap.size := by omega
   have ky := Lib.hid jr
   have F1 := hide Jc
   have d1 : decide ((k : Int) < (s.size : Int)) = false := decide_eq_false om
   have d2 : decide (k < s.size) = false := decide_eq_false hlt
   clear j1 Jc jr hke hk hl
   go_wp2_with fail
   exact bodyPost_ret (v := (Value.agg #[.int .i64 s6, .bool ug, .slice A6 l6.length c6])) (by simp [results, Tryz.results157, go_sem, r0, r1, r2, qr]) rfl
    ⟨s6, ug, A6, c6, l6, rfl, (aa F1).upto ky.out (qw _ _ _ _ _) (il _ _ _ _ _), hwr.grown (il _ _ _ _ _) hwr.size (fun k hk => by injection hk with hk; omega)⟩


theorem agk (s1 : Int) (cz : Bool) (A1 : Option Addr) (c1 : Nat) (l1 : List Nat) (z : Int) (n K : Nat) (w : World) (h1 : fw w s1 cz A1 c1 l1 z) (sz : Wd.Sz dh K z) (hK : K * n + 1 ≤ lim) (hK2 : K ≤ lim) (hn : n ≤ 9223372036854775806) :
  Calls Tryz.prog 139 #[(Value.agg #[.int .i64 s1, .bool cz, .slice A1 l1.length c1]), .int .i64 n] w fun e w' => Be w (z ^ n) e w' := by
 have HX := hide h1; have Sd := hide sz; have HK := hide hK; have HK2 := hide hK2
 have HO := hide (fun W => Al 1 om om W)
 clear h1 sz hK hK2
 go_enter Tryz.func139, Tryz.ntmps139
 go_upto_region 1 with fail
 obtain ⟨nx, nr, hsz, hw0⟩ := yh w (.cells #[.int .i64 s1, .bool cz, .slice A1 l1.length c1] 77) (.cells #[.int .i64 0, .bool false, .slice none 0 0] 77)
 generalize ((w.alloc (.cells #[.int .i64 s1, .bool cz, .slice A1 l1.length c1] 77)).alloc (.cells #[.int .i64 0, .bool false, .slice none 0 0] 77)) = W0 at *
 have hq := lt_of_block nr
 clear hsz
 go_wp2_with fail
 refine ((aa HO) _).mono ?_
 rintro e W1 ⟨s5, qg, A5, c5, l5, rfl, g1, hb⟩
 replace nx := (hb.block _ (lt_of_block nx)).trans nx
 replace nr := (hb.block _ (lt_of_block nr)).trans nr
 replace hq := Nat.lt_of_lt_of_le hq hb.size
 replace hw0 := ay hw0 hb
 clear hb
 go_upto_region 2 with fail
 have hbx := Cs.new g1 rfl
 have hb := ig (Below.refl W1.heap.size W1) (.cells #[.int .i64 s5, .bool qg, .slice A5 l5.length c5] 77)
 clear g1
 obtain ⟨bx, Xv⟩ : ∃ b, b = W1.heap.size := ⟨_, rfl⟩
 rw [← Xv] at hbx ⊢
 have hbB : w.heap.size + 1 < bx := by rw [Xv]; exact hq
 generalize W1.alloc (.cells #[.int .i64 s5, .bool qg, .slice A5 l5.length c5] 77) = W2 at *
 replace nx := (hb.block _ (lt_of_block nx)).trans nx
 replace nr := (hb.block _ (lt_of_block nr)).trans nr
 replace hq := Nat.lt_of_lt_of_le hq hb.size
 replace hw0 := ay hw0 hb
 clear hb Xv
 have HW0 := hide hw0; have NX := hide nx; have NR := hide nr; have HQ := hide hq
 clear hw0 nx nr hq
 go_wp2_with fail
 go_loopw [8] (fun iv wr => ∃ k : Nat, k ≤ n ∧ iv = .int .i64 (k : Int) ∧ Cs wr bx (z ^ k) ∧ Hid (Below (w.heap.size + 2) W2 wr)) (fun iv _ => n - (intOf iv).toNat)
 case atStart => exact ⟨0, Nat.zero_le _, by first | rfl | go_num, by rw [Int.pow_zero]; exact hbx, hide (Below.refl _ _)⟩
 case round =>
  obtain ⟨k, hk, rfl, hbq, hgr⟩ := hrel
  have hwr : Below w.heap.size w wr := (aa HW0).trans ((aa hgr).mono om)
  have hq0 := aa HQ
  have hgs := (aa hgr).size
  by_cases hlt : k < n
  ·
   obtain ⟨s6, ug, A6, c6, l6, j1, Jc⟩ := hbq
   have jx := ((aa hgr).block w.heap.size om).trans (aa NX)
   have afv : wr.cell? ⟨bx, 0, none⟩ = some (.int .i64 s6) := ag j1 0
   have aef := ai j1 0
   have afu : wr.cell? ⟨bx, 1, none⟩ = some (.bool ug) := ag j1 1
   have aee := ai j1 1
   have aft : wr.cell? ⟨bx, 2, none⟩ = some (.slice A6 l6.length c6) := ag j1 2
   have aed := ai j1 2
   have qx := lt_of_block j1
   have buh : wr.cell? ⟨w.heap.size, 0, none⟩ = some (.int .i64 s1) := ag jx 0
   have bug : wr.cell? ⟨w.heap.size, 1, none⟩ = some (.bool cz) := ag jx 1
   have bue : wr.cell? ⟨w.heap.size, 2, none⟩ = some (.slice A1 l1.length c1) := ag jx 2
   have hX := (aa HX).below hwr
   have zk : Wd.Sz dh (K * k + 1) (z ^ k) := Wd.apa (aa Sd) bdu k
   have hk2 : K * k ≤ K * n := Nat.mul_le_mul_left K om
   have HM := hide (Xq s6 ug A6 c6 l6 (z ^ k) s1 cz A1 c1 l1 z wr Jc hX (Jc.fit zk (by have := aa HK; omega)) (hX.fit (aa Sd) (aa HK2)))
   have hps : z ^ (k + 1) = z ^ k * z := Int.pow_succ z k
   have HPS := Lib.hid hps
   have d1 : decide ((k : Int) < (n : Int)) = true := decide_eq_true om
   have d2 : decide (k < n) = true := decide_eq_true hlt
   have J1 := hide j1; have F1 := hide Jc
   clear hps zk hk2 hX j1 Jc jx
   go_wp2_with fail
   refine (aa HM).mono ?_
   rintro e w' ⟨s7, Tj, A7, c7, l7, rfl, g7, hb⟩
   have hst := aad (Cs.below ⟨_, _, _, _, _, aa J1, aa F1⟩ hb) g7 ((aa hgr).trans (hb.mono om)) om (by have := hb.size; omega)
   obtain ⟨hc, hfz⟩ := fe hb
   replace afv := (hc _ _ qx).trans afv
   replace afu := (hc _ _ qx).trans afu
   replace aft := (hc _ _ qx).trans aft
   replace aef := (hfz _ _ qx).trans aef
   replace aee := (hfz _ _ qx).trans aee
   replace aed := (hfz _ _ qx).trans aed
   clear g7 hb hc hfz HM
   go_wp2_with fail
   go_roundw
   case rel => exact ⟨k + 1, by omega, by first | rfl | go_num, HPS.out ▸ hst.1, hide hst.2⟩
   case measure => simp [intOf] <;> omega
  ·
   obtain rfl : k = n := by omega
   obtain ⟨s6, ug, A6, c6, l6, j1, Jc⟩ := hbq
   have jr := ((aa hgr).block (w.heap.size + 1) om).trans (aa NR)
   have afv : wr.cell? ⟨bx, 0, none⟩ = some (.int .i64 s6) := ag j1 0
   have aef := ai j1 0
   have afu : wr.cell? ⟨bx, 1, none⟩ = some (.bool ug) := ag j1 1
   have aee := ai j1 1
   have aft : wr.cell? ⟨bx, 2, none⟩ = some (.slice A6 l6.length c6) := ag j1 2
   have aed := ai j1 2
   have qx := lt_of_block j1
   have r0 : wr.cell? ⟨w.heap.size + 1, 0, none⟩ = some (.int .i64 0) := ag jr 0
   have Ob := ai jr 0
   have r1 : wr.cell? ⟨w.heap.size + 1, 1, none⟩ = some (.bool false) := ag jr 1
   have Oa := ai jr 1
   have r2 : wr.cell? ⟨w.heap.size + 1, 2, none⟩ = some (.slice none 0 0) := ag jr 2
   have Wq := ai jr 2
   have qr : w.heap.size + 1 < wr.heap.size := by omega
   have ky := Lib.hid jr
   have F1 := hide Jc
   have d1 : decide ((k : Int) < (k : Int)) = false := decide_eq_false om
   have d2 : decide (k < k) = false := decide_eq_false om
   clear j1 Jc jr hlt hk
   go_wp2_with fail
   exact bodyPost_ret (v := (Value.agg #[.int .i64 s6, .bool ug, .slice A6 l6.length c6])) (by simp [results, Tryz.results139, go_sem, r0, r1, r2, qr]) rfl
    ⟨s6, ug, A6, c6, l6, rfl, (aa F1).upto ky.out (qw _ _ _ _ _) (il _ _ _ _ _), hwr.grown (il _ _ _ _ _) hwr.size (fun k hk => by injection hk with hk; omega)⟩

end Go.Proofs.YtfgeaakhlcaibaaGreatDoor
