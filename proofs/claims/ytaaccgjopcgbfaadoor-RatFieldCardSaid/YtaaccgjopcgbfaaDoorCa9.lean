/- Part 9 of the texts beneath a law of layer 1: FieldB, Frame. -/
import Derived.Test.YtaaccgjopcgbfaaDoorCa8
import Derived.Deep.DeepCutAuto
import Derived.Test.YtaaccgjopcgbfaaDoorRows
import Derived.ProofKit
import Derived.OpenShut
import Derived.LaidMore
import Derived.Lay
import Derived.Lib.SmallJoins
import Derived.Stop.Joined
/- Sums and products: the walk where the first sum is not told. -/
namespace Go.Proofs.YtaaccgjopcgbfaaDoor
open Go.RowKit

set_option maxRecDepth 100000 in
set_option maxHeartbeats 16000000 in
theorem field_b (n1 d1 n2 d2 n3 d3 na da ea np dp ep nv dv ev ns ds es nl dl el nm dm em nr dr er : Int) (w : World) (hT : Tab w)
    (c1 : CT 26 n1 d1 n2 d2 na da ea) (c2 : CT 26 n2 d2 n1 d1 na da ea) (c4 : CT 28 n1 d1 n2 d2 np dp ep) (c5 : CT 28 n2 d2 n1 d1 np dp ep)
    (c6 : CT 29 np dp n2 d2 nv dv ev) (hv : ep ≠ 0 ∨ (ep = 0 ∧ n2 = 0) ∨ (ep = 0 ∧ n2 ≠ 0 ∧ nv = n1 ∧ dv = d1 ∧ ev = 0))
    (c7 : CT 26 n2 d2 n3 d3 ns ds es) (c8 : CT 28 n1 d1 ns ds nl dl el) (c9 : CT 28 n1 d1 n3 d3 nm dm em) (c10 : CT 26 np dp nm dm nr dr er)
    (hd : es = 0 → el = 0 → em = 0 → er = 0 → ep = 0 → nl = nr ∧ dl = dr)
    (hea : ¬ ea = 0) :
    Calls Tryd.prog 6 #[(Value.agg #[.int .i64 n1, .int .i64 d1]), (Value.agg #[.int .i64 n2, .int .i64 d2]), (Value.agg #[.int .i64 n3, .int .i64 d3])] w fun e w' => e = .returned (.bool true) ∧ Below w.heap.size w w' := by
  have C1 := hide c1
  have C2 := hide c2
  have C4 := hide c4
  have C5 := hide c5
  have C6 := hide c6
  have C7 := hide c7
  have C8 := hide c8
  have C9 := hide c9
  have C10 := hide c10
  have HV := Lib.hid hv
  have HD := Lib.hid hd
  have HT := hide hT
  have HK := hide known_any
  clear c1 c2 c4 c5 c6 c7 c8 c9 c10 hv hd hT
  have pa : (ea == 0) = false := beq_eq_false_iff_ne.2 hea
  clear hea
  go_enter Tryd.func6, Tryd.ntmps6
  go_upto_region 1 with fail
  obtain ⟨n0_, n1_, n2_, hsz, hw0⟩ := three_new w (.cells #[.int .i64 n1, .int .i64 d1] 23) (.cells #[.int .i64 n2, .int .i64 d2] 23) (.cells #[.int .i64 n3, .int .i64 d3] 23)
  generalize (((w.alloc (.cells #[.int .i64 n1, .int .i64 d1] 23)).alloc (.cells #[.int .i64 n2, .int .i64 d2] 23)).alloc (.cells #[.int .i64 n3, .int .i64 d3] 23)) = W0 at *
  clear hsz
  have jx := hide n0_
  have jy := hide n1_
  have jz := hide n2_
  have HB := Lib.hid hw0
  clear n0_ n1_ n2_ hw0
  have kx0 : W0.cell? ⟨w.heap.size, 0, none⟩ = some (.int .i64 n1) := cells_of (unhide jx) 0
  have kx1 : W0.cell? ⟨w.heap.size, 1, none⟩ = some (.int .i64 d1) := cells_of (unhide jx) 1
  have ky0 : W0.cell? ⟨w.heap.size + 1, 0, none⟩ = some (.int .i64 n2) := cells_of (unhide jy) 0
  have ky1 : W0.cell? ⟨w.heap.size + 1, 1, none⟩ = some (.int .i64 d2) := cells_of (unhide jy) 1
  go_wp2_with fail
  refine ((unhide C1) _ ((unhide HT).below HB.out)).mono ?_
  rintro e V1 ⟨rfl, hb⟩
  clear kx0 kx1 ky0 ky1
  go_upto_region 2 with fail
  have hn := heap_alloc_new V1 (.cells #[.int .i64 na, .int .i64 da] 23)
  replace hb := below_step' hb (below_alloc (Below.refl V1.heap.size V1) (.cells #[.int .i64 na, .int .i64 da] 23))
  generalize V1.alloc (.cells #[.int .i64 na, .int .i64 da] 23) = W1 at *
  obtain ⟨ba, hbn⟩ : ∃ b, b = V1.heap.size := ⟨_, rfl⟩
  rw [← hbn] at hn ⊢
  clear hbn
  replace jx := hide ((hb.block _ (lt_of_block (unhide jx))).trans (unhide jx))
  replace jy := hide ((hb.block _ (lt_of_block (unhide jy))).trans (unhide jy))
  replace jz := hide ((hb.block _ (lt_of_block (unhide jz))).trans (unhide jz))
  replace HB := Lib.hid (below_step' HB.out hb)
  have ja := hide hn
  clear hn hb
  have kx0 : W1.cell? ⟨w.heap.size, 0, none⟩ = some (.int .i64 n1) := cells_of (unhide jx) 0
  have kx1 : W1.cell? ⟨w.heap.size, 1, none⟩ = some (.int .i64 d1) := cells_of (unhide jx) 1
  have ky0 : W1.cell? ⟨w.heap.size + 1, 0, none⟩ = some (.int .i64 n2) := cells_of (unhide jy) 0
  have ky1 : W1.cell? ⟨w.heap.size + 1, 1, none⟩ = some (.int .i64 d2) := cells_of (unhide jy) 1
  go_wp2_with fail
  refine ((unhide C2) _ ((unhide HT).below HB.out)).mono ?_
  rintro e V2 ⟨rfl, hb⟩
  clear kx0 kx1 ky0 ky1
  go_upto_region 3 with fail
  have hn := heap_alloc_new V2 (.cells #[.int .i64 na, .int .i64 da] 23)
  replace hb := below_step' hb (below_alloc (Below.refl V2.heap.size V2) (.cells #[.int .i64 na, .int .i64 da] 23))
  generalize V2.alloc (.cells #[.int .i64 na, .int .i64 da] 23) = W2 at *
  obtain ⟨bb, hbn⟩ : ∃ b, b = V2.heap.size := ⟨_, rfl⟩
  rw [← hbn] at hn ⊢
  clear hbn
  replace jx := hide ((hb.block _ (lt_of_block (unhide jx))).trans (unhide jx))
  replace jy := hide ((hb.block _ (lt_of_block (unhide jy))).trans (unhide jy))
  replace jz := hide ((hb.block _ (lt_of_block (unhide jz))).trans (unhide jz))
  replace ja := hide ((hb.block _ (lt_of_block (unhide ja))).trans (unhide ja))
  replace HB := Lib.hid (below_step' HB.out hb)
  have jb := hide hn
  clear hn hb
  have ka0 : W2.cell? ⟨ba, 0, none⟩ = some (.int .i64 na) := cells_of (unhide ja) 0
  have ka1 : W2.cell? ⟨ba, 1, none⟩ = some (.int .i64 da) := cells_of (unhide ja) 1
  have kb0 : W2.cell? ⟨bb, 0, none⟩ = some (.int .i64 na) := cells_of (unhide jb) 0
  have kb1 : W2.cell? ⟨bb, 1, none⟩ = some (.int .i64 da) := cells_of (unhide jb) 1
  go_upto_region 5 with fail
  clear ka0 ka1 kb0 kb1
  clear jb
  go_upto_region 9 with fail
  clear ja
  have kx0 : W2.cell? ⟨w.heap.size, 0, none⟩ = some (.int .i64 n1) := cells_of (unhide jx) 0
  have kx1 : W2.cell? ⟨w.heap.size, 1, none⟩ = some (.int .i64 d1) := cells_of (unhide jx) 1
  have ky0 : W2.cell? ⟨w.heap.size + 1, 0, none⟩ = some (.int .i64 n2) := cells_of (unhide jy) 0
  have ky1 : W2.cell? ⟨w.heap.size + 1, 1, none⟩ = some (.int .i64 d2) := cells_of (unhide jy) 1
  go_wp2_with fail
  refine ((unhide C4) _ ((unhide HT).below HB.out)).mono ?_
  rintro e V3 ⟨rfl, hb⟩
  clear kx0 kx1 ky0 ky1
  go_upto_region 10 with fail
  have hn := heap_alloc_new V3 (.cells #[.int .i64 np, .int .i64 dp] 23)
  replace hb := below_step' hb (below_alloc (Below.refl V3.heap.size V3) (.cells #[.int .i64 np, .int .i64 dp] 23))
  generalize V3.alloc (.cells #[.int .i64 np, .int .i64 dp] 23) = W3 at *
  obtain ⟨bp, hbn⟩ : ∃ b, b = V3.heap.size := ⟨_, rfl⟩
  rw [← hbn] at hn ⊢
  clear hbn
  replace jx := hide ((hb.block _ (lt_of_block (unhide jx))).trans (unhide jx))
  replace jy := hide ((hb.block _ (lt_of_block (unhide jy))).trans (unhide jy))
  replace jz := hide ((hb.block _ (lt_of_block (unhide jz))).trans (unhide jz))
  replace HB := Lib.hid (below_step' HB.out hb)
  have jp := hide hn
  clear hn hb
  have kx0 : W3.cell? ⟨w.heap.size, 0, none⟩ = some (.int .i64 n1) := cells_of (unhide jx) 0
  have kx1 : W3.cell? ⟨w.heap.size, 1, none⟩ = some (.int .i64 d1) := cells_of (unhide jx) 1
  have ky0 : W3.cell? ⟨w.heap.size + 1, 0, none⟩ = some (.int .i64 n2) := cells_of (unhide jy) 0
  have ky1 : W3.cell? ⟨w.heap.size + 1, 1, none⟩ = some (.int .i64 d2) := cells_of (unhide jy) 1
  go_wp2_with fail
  refine ((unhide C5) _ ((unhide HT).below HB.out)).mono ?_
  rintro e V4 ⟨rfl, hb⟩
  clear kx0 kx1 ky0 ky1
  go_upto_region 11 with fail
  have hn := heap_alloc_new V4 (.cells #[.int .i64 np, .int .i64 dp] 23)
  replace hb := below_step' hb (below_alloc (Below.refl V4.heap.size V4) (.cells #[.int .i64 np, .int .i64 dp] 23))
  generalize V4.alloc (.cells #[.int .i64 np, .int .i64 dp] 23) = W4 at *
  obtain ⟨bq, hbn⟩ : ∃ b, b = V4.heap.size := ⟨_, rfl⟩
  rw [← hbn] at hn ⊢
  clear hbn
  replace jx := hide ((hb.block _ (lt_of_block (unhide jx))).trans (unhide jx))
  replace jy := hide ((hb.block _ (lt_of_block (unhide jy))).trans (unhide jy))
  replace jz := hide ((hb.block _ (lt_of_block (unhide jz))).trans (unhide jz))
  replace jp := hide ((hb.block _ (lt_of_block (unhide jp))).trans (unhide jp))
  replace HB := Lib.hid (below_step' HB.out hb)
  have jq := hide hn
  clear hn hb
  have kp0 : W4.cell? ⟨bp, 0, none⟩ = some (.int .i64 np) := cells_of (unhide jp) 0
  have kp1 : W4.cell? ⟨bp, 1, none⟩ = some (.int .i64 dp) := cells_of (unhide jp) 1
  have kq0 : W4.cell? ⟨bq, 0, none⟩ = some (.int .i64 np) := cells_of (unhide jq) 0
  have kq1 : W4.cell? ⟨bq, 1, none⟩ = some (.int .i64 dp) := cells_of (unhide jq) 1
  go_upto_region 13 with fail
  clear kp0 kp1 kq0 kq1
  clear jq
  have ky0 : W4.cell? ⟨w.heap.size + 1, 0, none⟩ = some (.int .i64 n2) := cells_of (unhide jy) 0
  have ky1 : W4.cell? ⟨w.heap.size + 1, 1, none⟩ = some (.int .i64 d2) := cells_of (unhide jy) 1
  have kp0 : W4.cell? ⟨bp, 0, none⟩ = some (.int .i64 np) := cells_of (unhide jp) 0
  have kp1 : W4.cell? ⟨bp, 1, none⟩ = some (.int .i64 dp) := cells_of (unhide jp) 1
  go_wp2_with fail
  refine ((unhide C6) _ ((unhide HT).below HB.out)).mono ?_
  rintro e V5 ⟨rfl, hb⟩
  clear ky0 ky1 kp0 kp1
  go_upto_region 14 with fail
  have hn := heap_alloc_new V5 (.cells #[.int .i64 nv, .int .i64 dv] 23)
  replace hb := below_step' hb (below_alloc (Below.refl V5.heap.size V5) (.cells #[.int .i64 nv, .int .i64 dv] 23))
  generalize V5.alloc (.cells #[.int .i64 nv, .int .i64 dv] 23) = W5 at *
  obtain ⟨bv, hbn⟩ : ∃ b, b = V5.heap.size := ⟨_, rfl⟩
  rw [← hbn] at hn ⊢
  clear hbn
  replace jx := hide ((hb.block _ (lt_of_block (unhide jx))).trans (unhide jx))
  replace jy := hide ((hb.block _ (lt_of_block (unhide jy))).trans (unhide jy))
  replace jz := hide ((hb.block _ (lt_of_block (unhide jz))).trans (unhide jz))
  replace jp := hide ((hb.block _ (lt_of_block (unhide jp))).trans (unhide jp))
  replace HB := Lib.hid (below_step' HB.out hb)
  have jv := hide hn
  clear hn hb
  have kx0 : W5.cell? ⟨w.heap.size, 0, none⟩ = some (.int .i64 n1) := cells_of (unhide jx) 0
  have kx1 : W5.cell? ⟨w.heap.size, 1, none⟩ = some (.int .i64 d1) := cells_of (unhide jx) 1
  have ky0 : W5.cell? ⟨w.heap.size + 1, 0, none⟩ = some (.int .i64 n2) := cells_of (unhide jy) 0
  have ky1 : W5.cell? ⟨w.heap.size + 1, 1, none⟩ = some (.int .i64 d2) := cells_of (unhide jy) 1
  have kv0 : W5.cell? ⟨bv, 0, none⟩ = some (.int .i64 nv) := cells_of (unhide jv) 0
  have kv1 : W5.cell? ⟨bv, 1, none⟩ = some (.int .i64 dv) := cells_of (unhide jv) 1
  go_cut [101] (fun s101 wx => s101 = .bool false ∧ wx = W5)
  case first =>
    rcases HV.out with hp | ⟨hp, h0⟩ | ⟨hp, h0, rfl, rfl, rfl⟩
    · have p1 : (ep == 0) = false := beq_eq_false_iff_ne.2 hp
      clear hp
      go_wp2_with fail
      go_meet
      exact ⟨rfl, rfl⟩
    · subst hp h0
      go_wp2_with fail
      go_meet
      exact ⟨rfl, rfl⟩
    · have p2 : (n2 == 0) = false := beq_eq_false_iff_ne.2 h0
      have p3 : (n2 != 0) = true := by simp [bne, p2]
      subst hp
      clear h0
      go_wp2_with fail
      go_meet
      exact ⟨rfl, rfl⟩
  case rest =>
    clear kx0 kx1 ky0 ky1 kv0 kv1
    obtain ⟨rfl, rfl⟩ := hcut
    clear jv
    go_upto_region 16 with fail
    have ky0 : wc.cell? ⟨w.heap.size + 1, 0, none⟩ = some (.int .i64 n2) := cells_of (unhide jy) 0
    have ky1 : wc.cell? ⟨w.heap.size + 1, 1, none⟩ = some (.int .i64 d2) := cells_of (unhide jy) 1
    have kz0 : wc.cell? ⟨w.heap.size + 1 + 1, 0, none⟩ = some (.int .i64 n3) := cells_of (unhide jz) 0
    have kz1 : wc.cell? ⟨w.heap.size + 1 + 1, 1, none⟩ = some (.int .i64 d3) := cells_of (unhide jz) 1
    go_wp2_with fail
    refine ((unhide C7) _ ((unhide HT).below HB.out)).mono ?_
    rintro e V6 ⟨rfl, hb⟩
    clear ky0 ky1 kz0 kz1
    go_upto_region 17 with fail
    have hn := heap_alloc_new V6 (.cells #[.int .i64 ns, .int .i64 ds] 23)
    replace hb := below_step' hb (below_alloc (Below.refl V6.heap.size V6) (.cells #[.int .i64 ns, .int .i64 ds] 23))
    generalize V6.alloc (.cells #[.int .i64 ns, .int .i64 ds] 23) = W6 at *
    obtain ⟨bs, hbn⟩ : ∃ b, b = V6.heap.size := ⟨_, rfl⟩
    rw [← hbn] at hn ⊢
    clear hbn
    replace jx := hide ((hb.block _ (lt_of_block (unhide jx))).trans (unhide jx))
    replace jy := hide ((hb.block _ (lt_of_block (unhide jy))).trans (unhide jy))
    replace jz := hide ((hb.block _ (lt_of_block (unhide jz))).trans (unhide jz))
    replace jp := hide ((hb.block _ (lt_of_block (unhide jp))).trans (unhide jp))
    replace HB := Lib.hid (below_step' HB.out hb)
    have js := hide hn
    clear hn hb
    have kx0 : W6.cell? ⟨w.heap.size, 0, none⟩ = some (.int .i64 n1) := cells_of (unhide jx) 0
    have kx1 : W6.cell? ⟨w.heap.size, 1, none⟩ = some (.int .i64 d1) := cells_of (unhide jx) 1
    have ks0 : W6.cell? ⟨bs, 0, none⟩ = some (.int .i64 ns) := cells_of (unhide js) 0
    have ks1 : W6.cell? ⟨bs, 1, none⟩ = some (.int .i64 ds) := cells_of (unhide js) 1
    go_wp2_with fail
    refine ((unhide C8) _ ((unhide HT).below HB.out)).mono ?_
    rintro e V7 ⟨rfl, hb⟩
    clear kx0 kx1 ks0 ks1
    go_upto_region 18 with fail
    have hn := heap_alloc_new V7 (.cells #[.int .i64 nl, .int .i64 dl] 23)
    replace hb := below_step' hb (below_alloc (Below.refl V7.heap.size V7) (.cells #[.int .i64 nl, .int .i64 dl] 23))
    generalize V7.alloc (.cells #[.int .i64 nl, .int .i64 dl] 23) = W7 at *
    obtain ⟨bl, hbn⟩ : ∃ b, b = V7.heap.size := ⟨_, rfl⟩
    rw [← hbn] at hn ⊢
    clear hbn
    replace jx := hide ((hb.block _ (lt_of_block (unhide jx))).trans (unhide jx))
    replace jy := hide ((hb.block _ (lt_of_block (unhide jy))).trans (unhide jy))
    replace jz := hide ((hb.block _ (lt_of_block (unhide jz))).trans (unhide jz))
    replace jp := hide ((hb.block _ (lt_of_block (unhide jp))).trans (unhide jp))
    replace js := hide ((hb.block _ (lt_of_block (unhide js))).trans (unhide js))
    replace HB := Lib.hid (below_step' HB.out hb)
    have jl := hide hn
    clear hn hb
    clear js
    have kx0 : W7.cell? ⟨w.heap.size, 0, none⟩ = some (.int .i64 n1) := cells_of (unhide jx) 0
    have kx1 : W7.cell? ⟨w.heap.size, 1, none⟩ = some (.int .i64 d1) := cells_of (unhide jx) 1
    have kz0 : W7.cell? ⟨w.heap.size + 1 + 1, 0, none⟩ = some (.int .i64 n3) := cells_of (unhide jz) 0
    have kz1 : W7.cell? ⟨w.heap.size + 1 + 1, 1, none⟩ = some (.int .i64 d3) := cells_of (unhide jz) 1
    go_wp2_with fail
    refine ((unhide C9) _ ((unhide HT).below HB.out)).mono ?_
    rintro e V8 ⟨rfl, hb⟩
    clear kx0 kx1 kz0 kz1
    go_upto_region 19 with fail
    have hn := heap_alloc_new V8 (.cells #[.int .i64 nm, .int .i64 dm] 23)
    replace hb := below_step' hb (below_alloc (Below.refl V8.heap.size V8) (.cells #[.int .i64 nm, .int .i64 dm] 23))
    generalize V8.alloc (.cells #[.int .i64 nm, .int .i64 dm] 23) = W8 at *
    obtain ⟨bm, hbn⟩ : ∃ b, b = V8.heap.size := ⟨_, rfl⟩
    rw [← hbn] at hn ⊢
    clear hbn
    replace jx := hide ((hb.block _ (lt_of_block (unhide jx))).trans (unhide jx))
    replace jy := hide ((hb.block _ (lt_of_block (unhide jy))).trans (unhide jy))
    replace jz := hide ((hb.block _ (lt_of_block (unhide jz))).trans (unhide jz))
    replace jp := hide ((hb.block _ (lt_of_block (unhide jp))).trans (unhide jp))
    replace jl := hide ((hb.block _ (lt_of_block (unhide jl))).trans (unhide jl))
    replace HB := Lib.hid (below_step' HB.out hb)
    have jm := hide hn
    clear hn hb
    have kp0 : W8.cell? ⟨bp, 0, none⟩ = some (.int .i64 np) := cells_of (unhide jp) 0
    have kp1 : W8.cell? ⟨bp, 1, none⟩ = some (.int .i64 dp) := cells_of (unhide jp) 1
    have km0 : W8.cell? ⟨bm, 0, none⟩ = some (.int .i64 nm) := cells_of (unhide jm) 0
    have km1 : W8.cell? ⟨bm, 1, none⟩ = some (.int .i64 dm) := cells_of (unhide jm) 1
    go_wp2_with fail
    refine ((unhide C10) _ ((unhide HT).below HB.out)).mono ?_
    rintro e V9 ⟨rfl, hb⟩
    clear kp0 kp1 km0 km1
    go_upto_region 20 with fail
    have hn := heap_alloc_new V9 (.cells #[.int .i64 nr, .int .i64 dr] 23)
    replace hb := below_step' hb (below_alloc (Below.refl V9.heap.size V9) (.cells #[.int .i64 nr, .int .i64 dr] 23))
    generalize V9.alloc (.cells #[.int .i64 nr, .int .i64 dr] 23) = W9 at *
    obtain ⟨br, hbn⟩ : ∃ b, b = V9.heap.size := ⟨_, rfl⟩
    rw [← hbn] at hn ⊢
    clear hbn
    replace jx := hide ((hb.block _ (lt_of_block (unhide jx))).trans (unhide jx))
    replace jy := hide ((hb.block _ (lt_of_block (unhide jy))).trans (unhide jy))
    replace jz := hide ((hb.block _ (lt_of_block (unhide jz))).trans (unhide jz))
    replace jp := hide ((hb.block _ (lt_of_block (unhide jp))).trans (unhide jp))
    replace jl := hide ((hb.block _ (lt_of_block (unhide jl))).trans (unhide jl))
    replace jm := hide ((hb.block _ (lt_of_block (unhide jm))).trans (unhide jm))
    replace HB := Lib.hid (below_step' HB.out hb)
    have jr := hide hn
    clear hn hb
    have kx0 : W9.cell? ⟨w.heap.size, 0, none⟩ = some (.int .i64 n1) := cells_of (unhide jx) 0
    have kx1 : W9.cell? ⟨w.heap.size, 1, none⟩ = some (.int .i64 d1) := cells_of (unhide jx) 1
    have ky0 : W9.cell? ⟨w.heap.size + 1, 0, none⟩ = some (.int .i64 n2) := cells_of (unhide jy) 0
    have ky1 : W9.cell? ⟨w.heap.size + 1, 1, none⟩ = some (.int .i64 d2) := cells_of (unhide jy) 1
    go_wp2_with fail
    refine ((unhide C4) _ ((unhide HT).below HB.out)).mono ?_
    rintro e V10 ⟨rfl, hb⟩
    clear kx0 kx1 ky0 ky1
    go_upto_region 21 with fail
    have hn := heap_alloc_new V10 (.cells #[.int .i64 np, .int .i64 dp] 23)
    replace hb := below_step' hb (below_alloc (Below.refl V10.heap.size V10) (.cells #[.int .i64 np, .int .i64 dp] 23))
    generalize V10.alloc (.cells #[.int .i64 np, .int .i64 dp] 23) = W10 at *
    obtain ⟨bk, hbn⟩ : ∃ b, b = V10.heap.size := ⟨_, rfl⟩
    rw [← hbn] at hn ⊢
    clear hbn
    replace jx := hide ((hb.block _ (lt_of_block (unhide jx))).trans (unhide jx))
    replace jy := hide ((hb.block _ (lt_of_block (unhide jy))).trans (unhide jy))
    replace jz := hide ((hb.block _ (lt_of_block (unhide jz))).trans (unhide jz))
    replace jp := hide ((hb.block _ (lt_of_block (unhide jp))).trans (unhide jp))
    replace jl := hide ((hb.block _ (lt_of_block (unhide jl))).trans (unhide jl))
    replace jm := hide ((hb.block _ (lt_of_block (unhide jm))).trans (unhide jm))
    replace jr := hide ((hb.block _ (lt_of_block (unhide jr))).trans (unhide jr))
    replace HB := Lib.hid (below_step' HB.out hb)
    have jk := hide hn
    clear hn hb
    have kl0 : W10.cell? ⟨bl, 0, none⟩ = some (.int .i64 nl) := cells_of (unhide jl) 0
    have kl1 : W10.cell? ⟨bl, 1, none⟩ = some (.int .i64 dl) := cells_of (unhide jl) 1
    have kr0 : W10.cell? ⟨br, 0, none⟩ = some (.int .i64 nr) := cells_of (unhide jr) 0
    have kr1 : W10.cell? ⟨br, 1, none⟩ = some (.int .i64 dr) := cells_of (unhide jr) 1
    go_cut [154] (fun s154 wx => s154 = .bool false ∧ wx = W10)
    case first =>
      by_cases g0 : es = 0
      rotate_left
      · have p0 : (es == 0) = false := beq_eq_false_iff_ne.2 g0
        clear g0
        go_wp2_with fail
        go_meet
        exact ⟨rfl, rfl⟩
      subst g0
      by_cases g1 : el = 0
      rotate_left
      · have p1 : (el == 0) = false := beq_eq_false_iff_ne.2 g1
        clear g1
        go_wp2_with fail
        go_meet
        exact ⟨rfl, rfl⟩
      subst g1
      by_cases g2 : em = 0
      rotate_left
      · have p2 : (em == 0) = false := beq_eq_false_iff_ne.2 g2
        clear g2
        go_wp2_with fail
        go_meet
        exact ⟨rfl, rfl⟩
      subst g2
      by_cases g3 : er = 0
      rotate_left
      · have p3 : (er == 0) = false := beq_eq_false_iff_ne.2 g3
        clear g3
        go_wp2_with fail
        go_meet
        exact ⟨rfl, rfl⟩
      subst g3
      by_cases g4 : ep = 0
      rotate_left
      · have p4 : (ep == 0) = false := beq_eq_false_iff_ne.2 g4
        clear g4
        go_wp2_with fail
        go_meet
        exact ⟨rfl, rfl⟩
      subst g4
      obtain ⟨rfl, rfl⟩ := HD.out rfl rfl rfl rfl rfl
      go_wp2_with fail
      go_meet
      exact ⟨rfl, rfl⟩
    case rest =>
      clear kl0 kl1 kr0 kr1
      obtain ⟨rfl, rfl⟩ := hcut
      go_upto_region 23 with fail
      go_wp2_with fail
      refine ((unhide HK) _ ((unhide HT).below HB.out)).mono ?_
      rintro e W9 ⟨rfl, hb⟩
      have hb9 := below_step' HB.out hb
      go_wp2
      go_ret
      exact ⟨rfl, hb9⟩

end Go.Proofs.YtaaccgjopcgbfaaDoor
/- The frame of the laws' rows: numbers as arguments; the listed table; a call that only makes new memory. -/
namespace Go.Proofs.YtaaccgjopcgbfaaDoor
open Go.Joins Go.ChangeShapes Go.WideShapes Go.ChangeAt Go.RowKit

theorem own : ownKnob Tryd.prog.godebug = none := by kernel_rfl
/-- What the rows list: one table. -/
def laidL {H : Type} : List (String × DataW H) := [("math/bits.deBruijn64tab", Rows.laid_math_bits_deBruijn64tab)]
theorem tab_list : (Rows.laid_math_bits_deBruijn64tab : DataW Unit) = .agg (Lib.deBruijn64tab.map fun (n : Nat) => .lit (.int .u8 (n : Int))) := by kernel_rfl
theorem tab_of {W : World} (h : laidMetH Tryd.prog laidL W) : Tab W := by
  rw [MakeChecks.laidMetH_plain _ _ _ (by kernel_rfl)] at h
  obtain ⟨ps, ⟨g, t, cs, fuel, p, q, hg, ht, hv, hd, _, _⟩, _, _⟩ := h
  obtain rfl := Option.some.inj ((show Tryd.prog.globalNamed "math/bits.deBruijn64tab" = some 0 by kernel_rfl).symm.trans hg)
  obtain rfl := Option.some.inj ((show (Tryd.prog.globals[0]?).map (·.type) = some 130 by kernel_rfl).symm.trans ht)
  obtain ⟨xs, m, _, ex, hcl, hl, hel⟩ := DataW.trod_array Tryd.underlying130 hd
  have c5 : Tryd.prog.cellsOf 5 = 1 := by kernel_rfl
  have hlen : Lib.deBruijn64tab.length = 64 := by kernel_rfl
  rw [tab_list] at ex
  have e3 : (xs.map (·.1)) = Lib.deBruijn64tab.map fun (n : Nat) => .lit (.int .u8 (n : Int)) := (DataW.agg.inj (Prod.mk.inj ex).1).symm
  have cell : ∀ r : Nat, r < 64 → W.cell? ⟨0, r, none⟩ = some (.int .u8 (Lib.deBruijn64tab.getD r 0)) := fun r hr => by
    have hE := hel r hr
    rw [c5, Nat.mul_one, List.getElem?_eq_getElem (by omega)] at hE
    obtain ⟨z, e1, e2, _⟩ := DataW.trod_int Tryd.underlying5 hE
    have e4 : (xs.map (·.1))[r]? = (Lib.deBruijn64tab.map fun (n : Nat) => (DataW.lit (.int .u8 (n : Int)) : DataW Unit))[r]? := by rw [e3]
    rw [List.getElem?_map, List.getElem?_map, List.getElem?_eq_getElem (by omega : r < xs.length), List.getElem?_eq_getElem (by omega : r < Lib.deBruijn64tab.length), e2] at e4
    have hz : z = (Lib.deBruijn64tab.getD r 0 : Nat) := by
      simp only [Option.map_some, Option.some.injEq, DataW.lit.injEq, Lit.int.injEq, true_and] at e4
      rw [e4, List.getD, List.getElem?_eq_getElem (by omega : r < Lib.deBruijn64tab.length)]; rfl
    rw [World.var?_cell hg hv r, ← hz]
    have : cs.toList[r]? = some (.int .u8 z) := by
      have h0 : ((cs.toList.drop r).take 1)[0]? = some (.int .u8 z) := by rw [e1]; rfl
      simpa using h0
    simpa using this
  refine ⟨fun j hj => cell j (by omega), ?_⟩
  have h0 := cell 0 (by omega)
  rcases Nat.lt_or_ge 0 W.heap.size with hlt | hge
  · exact hlt
  · simp [World.cell?, Array.getElem?_eq_none hge] at h0

set_option maxRecDepth 100000 in
/-- A number as an argument: two ints. -/
theorem open_rat {H : Type} {enc : TypeId × Value → H} {w : World} {base : Nat} {spare : Nat → Bool} {held : Bool} {r : Reach} {b0 : Nat} {v : Value} {d : DataW H} {p : List MemPlace}
    (hv : Value.okWide Tryd.prog w r b0 23 v) (h : DataW.Trod enc Tryd.prog w base spare held 23 v d p) :
    ∃ n m : Int, v = .agg #[.int .i64 n, .int .i64 m] ∧ d = .agg [.lit (.int .i64 n), .lit (.int .i64 m)] ∧ p = [] ∧ (Lit.int .i64 n).wf = true ∧ (Lit.int .i64 m).wf = true := by
  obtain ⟨v0, v1, y0, y1, k, rfl, rfl, rfl, h0, h1⟩ := open_agg2 Tryd.underlying23 (by kernel_rfl) (by kernel_rfl) hv h
  obtain ⟨n, e0, rfl, w0⟩ := DataW.trod_int Tryd.underlying3 h0
  obtain ⟨m, e1, rfl, w1⟩ := DataW.trod_int Tryd.underlying3 h1
  simp only [List.cons.injEq, and_true] at e0 e1
  subst e0 e1
  exact ⟨n, m, rfl, rfl, rfl, w0, w1⟩
set_option maxRecDepth 100000 in
theorem shut_rat {H : Type} {enc : TypeId × Value → H} {w : World} {base : Nat} {spare : Nat → Bool} {held : Bool} {n m : Int} (w0 : (Lit.int .i64 n).wf = true) (w1 : (Lit.int .i64 m).wf = true) :
    DataW.Trod enc Tryd.prog w base spare held 23 (.agg #[.int .i64 n, .int .i64 m]) (.agg [.lit (.int .i64 n), .lit (.int .i64 m)]) [] := by
  have i0 : ∀ k : Int, (Lit.int .i64 k).wf = true → ∃ f, DataW.trod enc Tryd.prog w base spare held f 3 [.int .i64 k] = some (.lit (.int .i64 k), []) := fun k hk => shut_int Tryd.underlying3 hk
  exact shut_agg2 (y0 := (.lit (.int .i64 n), [])) (y1 := (.lit (.int .i64 m), [])) Tryd.underlying23 (by kernel_rfl) (by kernel_rfl) (i0 n w0) (i0 m w1)
theorem wf_bounds {n : Int} (h : (Lit.int .i64 n).wf = true) : -9223372036854775808 ≤ n ∧ n ≤ 9223372036854775807 := bounds_i64 h

/-- A call that only makes new memory, and hands back what the law asks. -/
theorem post_below {H : Type} {enc : TypeId × Value → H} {P : Program} {f : Func} {s : ChangeSpec} {apart : Bool} {W W' : World} {args : Array Value} {v : Value} {ds gs : List (DataW H)}
    (hW : DataW.Whole enc P f.params.toList s.vars apart W args.toList ds gs [])
    (hres : DataW.TrodAll enc P W' W.heap.size (fun _ => false) false f.resultTypes.toList (v.resultList f.resultTypes.size) (s.fn H (ds ++ gs)).results [])
    (hargs : DataW.TrodAll enc P W' 0 (fun b => decide (b < W.heap.size)) true f.params.toList args.toList (s.fn H (ds ++ gs)).args [])
    (hvars : DataW.TrodVars enc P W' (fun b => decide (b < W.heap.size)) s.vars (s.fn H (ds ++ gs)).vars []) (hb : Below W.heap.size W W') :
    s.post enc P f apart true false false W args v W' :=
  ⟨ds, gs, [], [], [], [], hW, hres, hargs, hvars, hb.frame _, fun h => by cases h⟩
end Go.Proofs.YtaaccgjopcgbfaaDoor
