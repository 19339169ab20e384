/- Texts beneath a law of layer 1. -/
import Derived.Test.YtjdnmdlnaoedoaaGreatDoorCs8
set_option maxRecDepth 100000
namespace Go.Proofs.YtjdnmdlnaoedoaaGreatDoor
open Go.RowKit

set_option maxHeartbeats 2000000 in
theorem adp (Ax Ay : Option Addr) (cx cy : Nat) (xl yl : List Nat) (n m : Nat) (w : World) (hx : si w Ax cx xl n) (hy : si w Ay cy yl m) (hk : xl.length + 1 ≤ 35184372088832) (hk2 : yl.length + 1 ≤ 35184372088832) :
  Calls Tryz.prog 161 #[.slice Ax xl.length cx, .slice Ay yl.length cy] w fun e w' => ane w (n + m) e w' := by
 obtain ⟨M, hM⟩ : ∃ M, M = max xl.length yl.length := ⟨_, rfl⟩
 have hMx : xl.length ≤ M := by omega
 have hMy : yl.length ≤ M := by omega
 have hMd : M = xl.length ∨ M = yl.length := by omega
 have hM2 : M + 1 ≤ 35184372088832 := by omega
 have e0 : max (xl.length : Int) (yl.length : Int) = (M : Int) := by omega
 have hmk := aea (M + 1) hM2
 have abt := age w (M + 1) hM2 156
 obtain ⟨C, hC⟩ : ∃ C, C = M + 1 := ⟨_, rfl⟩
 have Ni : (w.alloc (.cells (xy .u32 (List.replicate (M + 1) 0)) 156)).ownsRow w.heap.size 156 1 (.slice (some ⟨w.heap.size, 0, none⟩) 0 C) 0 (yz .u32 []) := by rw [hC]; exact abt
 have hmk' : ∀ W : World, (Instr.makeSlice 59 (.int .i64 0) (.int .i64 ((M : Int) + 1))).run Tryz.prog W = .ok (.slice (some ⟨W.heap.size, 0, none⟩) 0 C) (W.alloc (.cells (xy .u32 (List.replicate (M + 1) 0)) 156)) := by
  intro W; rw [hC]; have := hmk W; simp only [Int.natCast_add, Int.cast_ofNat_Int] at this; exact this
 have HC := Lib.hid hC
 clear hmk abt hC
 obtain ⟨i0, hi0, hz0, hz1, hz2⟩ := info_parts abo
 have hx1 := hx.uu; have hx2 := hx.cap2; have hy1 := hy.uu; have hy2 := hy.cap2
 clear hM
 go_enter Tryz.func161, Tryz.ntmps161
 go_wp2_with fail
 go_loopw [5, 6, 7] (fun ov cv iv wr => ∃ (i c : Nat) (l : List Nat), i ≤ M ∧ ov = .slice (some ⟨w.heap.size, 0, none⟩) i C ∧ cv = .int .u64 ((c : Nat) : Int) ∧ iv = .int .i64 ((i : Nat) : Int) ∧ Hid (Wd.Im dm xl yl l i c) ∧ wr.ownsRow w.heap.size 156 1 (.slice (some ⟨w.heap.size, 0, none⟩) i C) i (yz .u32 l) ∧ Below w.heap.size w wr) (fun _ _ iv _ => M - (intOf iv).toNat)
 case atStart => exact ⟨0, 0, [], Nat.zero_le _, rfl, rfl, rfl, Wd.Im.start _ _ _, Ni, (Below.refl _ _).alloc (Nat.le_refl _) _⟩
 case round =>
  obtain ⟨i, c, l, hi, rfl, rfl, rfl, HI, hown, hg⟩ := hrel
  have hCi : i + 1 ≤ C := by have := HC.out; omega
  have hcB := HI.out.c1
  have amm : c < dw := by rw [jb]; omega
  have b64 : ∀ t : Nat, t < dm → t < dw := fun t ht => by rw [gp] at ht; rw [jb]; omega
  have hli := HI.out.len
  have hgl := agf hown
  obtain ⟨x, Fy⟩ : ∃ x, x = Wd.g xl i := ⟨_, rfl⟩
  obtain ⟨y, Nc⟩ : ∃ y, y = Wd.g yl i := ⟨_, rfl⟩
  have zb : x < dm := by rw [Fy]; exact Wd.getD_lt (by rw [gp]; omega) _ hx.lt i
  have Ck : y < dm := by rw [Nc]; exact Wd.getD_lt (by rw [gp]; omega) _ hy.lt i
  obtain ⟨s1, hs1⟩ : ∃ t, t = c + x := ⟨_, rfl⟩
  obtain ⟨s, hs⟩ : ∃ t, t = s1 + y := ⟨_, rfl⟩
  obtain ⟨d, hd⟩ : ∃ t, t = s % dm := ⟨_, rfl⟩
  obtain ⟨q, hq⟩ : ∃ t, t = s / dm := ⟨_, rfl⟩
  have hsB : s < dw := by rw [gp] at zb Ck; rw [jb]; omega
  have ahc : s1 < dw := by rw [gp] at zb Ck; rw [jb]; omega
  have e1 : IntKind.u64.wrap (x : Int) = (x : Int) := jy rfl (b64 _ zb)
  have e2 : IntKind.u64.wrap (y : Int) = (y : Int) := jy rfl (b64 _ Ck)
  have e3 : IntKind.u64.wrap ((c : Int) + (x : Int)) = (s1 : Int) := jy (by rw [hs1]; simp) ahc
  have e4 : IntKind.u64.wrap ((s1 : Int) + (y : Int)) = (s : Int) := jy (by rw [hs]; simp) hsB
  have e5 : IntKind.u32.wrap (s : Int) = (d : Int) := by rw [Cn, hd]
  have e5' : (s : Int) % 4294967296 = (d : Int) := by rw [hd, gp]; omega
  have e6 : (s : Int) / 4294967296 = (q : Int) := by rw [hq, gp]; omega
  have hst := HI.out.step Bc (by rw [← Wd.uf]; exact Fy) zb (by rw [← Wd.uf]; exact Nc) Ck (s := s) om
  rw [← hd, ← hq] at hst
  have HST := hide hst
  have Sq : i < xl.length → ∃ b o, Ax = some ⟨b, o, none⟩ ∧ wr.cell? ⟨b, o + i, none⟩ = some (.int .u32 (x : Int)) := fun h => by
   obtain ⟨b, o, rfl, hbb, hc⟩ := hx.ws om
   exact ⟨b, o, rfl, by rw [Fy]; exact (hg.cell (p := ⟨b, o + i, none⟩) hbb).trans (hc i h)⟩
  have Iz : i < yl.length → ∃ b o, Ay = some ⟨b, o, none⟩ ∧ wr.cell? ⟨b, o + i, none⟩ = some (.int .u32 (y : Int)) := fun h => by
   obtain ⟨b, o, rfl, hbb, hc⟩ := hy.ws om
   exact ⟨b, o, rfl, by rw [Nc]; exact (hg.cell (p := ⟨b, o + i, none⟩) hbb).trans (hc i h)⟩
  have hx0 : ¬ i < xl.length → x = 0 := fun h => by rw [Fy]; simp [Wd.g, List.getD, h]
  have hy0 : ¬ i < yl.length → y = 0 := fun h => by rw [Nc]; simp [Wd.g, List.getD, h]
  have hsz := hg.size
  by_cases hlx : i < xl.length
  ·
   by_cases hly : i < yl.length
   ·
    have dx : decide ((i : Int) < (xl.length : Int)) = true := decide_eq_true om
    have dy : decide ((i : Int) < (yl.length : Int)) = true := decide_eq_true om
    have dx' : decide (i < xl.length) = true := decide_eq_true om
    have dy' : decide (i < yl.length) = true := decide_eq_true om
    obtain ⟨bx, ox, rfl, Fb⟩ := Sq om
    obtain ⟨by', oy, rfl, Py⟩ := Iz om
    clear Sq Iz hx0 hy0 Fy Nc hs1 hs hd hq hst zb Ck hsB ahc amm b64 Ni hmk' hz0 hz2
    go_wp2_with (first | (at_builtin; refine wpList_append_fits _ rfl _ _ 59 rfl w.heap.size 156 i0 1 Tryz.underlying59 hi0 hz1 w.heap.size _ C (yz .u32 l) rfl (hown.alloc _) ⟨_, 0, none⟩ 1 1 [.int .u32 ((d : Nat) : Int)] rfl rfl (one_cell _ _ _) (Ox _) om ?_; intro w1 hown1 hgrow1) | fail)
    obtain ⟨r1, r2⟩ := El rfl (hg.alloc hsz _) (by simp <;> omega) hown1 hgrow1
    clear hown1 hgrow1 hown hg
    go_wp2_with fail
    go_roundw
    case rel => exact ⟨i + 1, q, l ++ [d], by omega, rfl, rfl, by go_num, aa HST, r1, r2⟩
    case measure => simp [intOf] <;> omega
   ·
    have dx : decide ((i : Int) < (xl.length : Int)) = true := decide_eq_true om
    have dy : decide ((i : Int) < (yl.length : Int)) = false := decide_eq_false om
    have dx' : decide (i < xl.length) = true := decide_eq_true om
    have dy' : decide (i < yl.length) = false := decide_eq_false om
    obtain ⟨bx, ox, rfl, Fb⟩ := Sq om
    obtain rfl : s = s1 := by have := hy0 om; omega
    clear Sq Iz hx0 hy0 Fy Nc hs1 hs hd hq hst zb Ck hsB ahc amm b64 Ni hmk' hz0 hz2
    go_wp2_with (first | (at_builtin; refine wpList_append_fits _ rfl _ _ 59 rfl w.heap.size 156 i0 1 Tryz.underlying59 hi0 hz1 w.heap.size _ C (yz .u32 l) rfl (hown.alloc _) ⟨_, 0, none⟩ 1 1 [.int .u32 ((d : Nat) : Int)] rfl rfl (one_cell _ _ _) (Ox _) om ?_; intro w1 hown1 hgrow1) | fail)
    obtain ⟨r1, r2⟩ := El rfl (hg.alloc hsz _) (by simp <;> omega) hown1 hgrow1
    clear hown1 hgrow1 hown hg
    go_wp2_with fail
    go_roundw
    case rel => exact ⟨i + 1, q, l ++ [d], by omega, rfl, rfl, by go_num, aa HST, r1, r2⟩
    case measure => simp [intOf] <;> omega
  ·
   by_cases hly : i < yl.length
   ·
    have dx : decide ((i : Int) < (xl.length : Int)) = false := decide_eq_false om
    have dy : decide ((i : Int) < (yl.length : Int)) = true := decide_eq_true om
    have dx' : decide (i < xl.length) = false := decide_eq_false om
    have dy' : decide (i < yl.length) = true := decide_eq_true om
    obtain ⟨by', oy, rfl, Py⟩ := Iz om
    obtain rfl : s1 = c := by have := hx0 om; omega
    clear Sq Iz hx0 hy0 Fy Nc hs1 hs hd hq hst zb Ck hsB ahc amm b64 Ni hmk' hz0 hz2
    go_wp2_with (first | (at_builtin; refine wpList_append_fits _ rfl _ _ 59 rfl w.heap.size 156 i0 1 Tryz.underlying59 hi0 hz1 w.heap.size _ C (yz .u32 l) rfl (hown.alloc _) ⟨_, 0, none⟩ 1 1 [.int .u32 ((d : Nat) : Int)] rfl rfl (one_cell _ _ _) (Ox _) om ?_; intro w1 hown1 hgrow1) | fail)
    obtain ⟨r1, r2⟩ := El rfl (hg.alloc hsz _) (by simp <;> omega) hown1 hgrow1
    clear hown1 hgrow1 hown hg
    go_wp2_with fail
    go_roundw
    case rel => exact ⟨i + 1, q, l ++ [d], by omega, rfl, rfl, by go_num, aa HST, r1, r2⟩
    case measure => simp [intOf] <;> omega
   ·
    have dx : decide ((i : Int) < (xl.length : Int)) = false := decide_eq_false om
    have dy : decide ((i : Int) < (yl.length : Int)) = false := decide_eq_false om
    have dx' : decide (i < xl.length) = false := decide_eq_false om
    have dy' : decide (i < yl.length) = false := decide_eq_false om
    have hv := HI.out.done om om
    rw [hx.val, hy.val] at hv
    have hcc : IntKind.u32.wrap (c : Int) = (c : Int) := by rw [IntKind.wrap_u32]; omega
    have bpe : (c : Int) % 4294967296 = (c : Int) := by omega
    have hlt := Wd.Zw HI.out.lt (show c < dm by rw [gp]; omega)
    have HV := Lib.hid hv; have yc := hide hlt
    clear hv hlt Sq Iz hx0 hy0 Fy Nc hs1 hs hd hq hst zb Ck hsB ahc amm b64 Ni hmk' hz0 hz2 e1 e2 e3 e4 e5 e5' e6 HST
    go_wp2_with (first | (at_builtin; refine wpList_append_fits _ rfl _ _ 59 rfl w.heap.size 156 i0 1 Tryz.underlying59 hi0 hz1 w.heap.size _ C (yz .u32 l) rfl (hown.alloc _) ⟨_, 0, none⟩ 1 1 [.int .u32 ((c : Nat) : Int)] rfl rfl (one_cell _ _ _) (Ox _) om ?_; intro w1 hown1 hgrow1) | fail)
    obtain ⟨r1, r2⟩ := El rfl (hg.alloc hsz _) (by simp <;> omega) hown1 hgrow1
    have hlen : i + 1 = (l ++ [c]).length := by simp; omega
    obtain ⟨hws, hcap, hmax⟩ := apj hlen r1 (agf r1)
    have htr := Cr (some ⟨w.heap.size, 0, none⟩) C (l ++ [c]) w1.heap.size w1 hws hcap (by have := HC.out; omega)
    rw [← hlen] at htr
    have HTR := hide htr; have HWS := hide hws
    clear hown1 hgrow1 hown hg r1 htr hws hcap hmax
    go_wp2_with fail
    refine (aa HTR).mono ?_
    rintro e w' ⟨⟨k, rfl, ht, hk2⟩, rfl⟩
    dsimp only
    go_wp2_with fail
    go_ret
    have hk3 : k = ((l ++ [c]).take k).length := by rw [List.length_take]; omega
    refine ⟨some ⟨w.heap.size, 0, none⟩, C, (l ++ [c]).take k, Fv hk3, ?_, r2⟩
    have := si.aaz (cap := C) (aa HWS) (aa yc) ht om om (by have := HC.out; omega)
    rwa [HV.out] at this

end Go.Proofs.YtjdnmdlnaoedoaaGreatDoor
namespace Go.Proofs.YtjdnmdlnaoedoaaGreatDoor
open Go.RowKit

theorem aps {x b : Nat} (hx : x < dm) (hb : b ≤ 1) (y : Nat) (hy : y < dm) : ∃ (t v d b' : Nat), IntKind.u64.wrap ((x : Int) - (b : Int)) = (t : Int) ∧ IntKind.u64.wrap ((t : Int) - (y : Int)) = (v : Int) ∧ IntKind.u32.wrap (v : Int) = (d : Int) ∧ (v : Int) % 4294967296 = (d : Int) ∧ (v : Int) / 9223372036854775808 = (b' : Int) ∧ d < dm ∧ b' ≤ 1 ∧ d + y + b = x + dm * b' ∧ (y = 0 → v = t) ∧ t < dw := by
 simp only [IntKind.wrap_u64, IntKind.wrap_u32]
 rw [gp] at *
 rw [jb]
 by_cases h1 : b ≤ x
 ·
  by_cases h2 : b + y ≤ x
  ·
   exact ⟨x - b, x - b - y, x - b - y, 0, by omega, by omega, by omega, by omega, by omega, by omega, by omega, by omega, by omega, by omega⟩
  ·
   exact ⟨x - b, 18446744073709551616 + x - b - y, 4294967296 + x - b - y, 1, by omega, by omega, by omega, by omega, by omega, by omega, by omega, by omega, by omega, by omega⟩
 ·
  exact ⟨18446744073709551616 + x - b, 18446744073709551616 + x - b - y, 4294967296 + x - b - y, 1, by omega, by omega, by omega, by omega, by omega, by omega, by omega, by omega, by omega, by omega⟩

set_option maxHeartbeats 2000000 in
theorem adq (Ax Ay : Option Addr) (cx cy : Nat) (xl yl : List Nat) (n m : Nat) (w : World) (hx : si w Ax cx xl n) (hy : si w Ay cy yl m) (hk : xl.length ≤ 35184372088832) (hle : m ≤ n) :
  Calls Tryz.prog 163 #[.slice Ax xl.length cx, .slice Ay yl.length cy] w fun e w' => ane w (n - m) e w' := by
 have hyx : yl.length ≤ xl.length := hy.len (Nat.lt_of_le_of_lt hle hx.Nb)
 have hmk := aea xl.length hk
 have abt := age w xl.length hk 156
 obtain ⟨C, hC⟩ : ∃ C, C = xl.length := ⟨_, rfl⟩
 have Ni : (w.alloc (.cells (xy .u32 (List.replicate xl.length 0)) 156)).ownsRow w.heap.size 156 1 (.slice (some ⟨w.heap.size, 0, none⟩) 0 C) 0 (yz .u32 []) := by rw [hC]; exact abt
 have hmk' : ∀ W : World, (Instr.makeSlice 59 (.int .i64 0) (.int .i64 (xl.length : Int))).run Tryz.prog W = .ok (.slice (some ⟨W.heap.size, 0, none⟩) 0 C) (W.alloc (.cells (xy .u32 (List.replicate xl.length 0)) 156)) := by rw [hC]; exact hmk
 have HC := Lib.hid hC
 clear hmk abt hC
 obtain ⟨i0, hi0, hz0, hz1, hz2⟩ := info_parts abo
 have hx1 := hx.uu; have hx2 := hx.cap2; have hy1 := hy.uu; have hy2 := hy.cap2
 go_enter Tryz.func163, Tryz.ntmps163
 go_wp2_with fail
 go_loopw [5, 6, 7] (fun ov cv iv wr => ∃ (i c : Nat) (l : List Nat), i ≤ xl.length ∧ ov = .slice (some ⟨w.heap.size, 0, none⟩) i C ∧ cv = .int .u64 ((c : Nat) : Int) ∧ iv = .int .i64 ((i : Nat) : Int) ∧ Hid (Wd.Ip dm xl yl l i c) ∧ wr.ownsRow w.heap.size 156 1 (.slice (some ⟨w.heap.size, 0, none⟩) i C) i (yz .u32 l) ∧ Below w.heap.size w wr) (fun _ _ iv _ => xl.length - (intOf iv).toNat)
 case atStart => exact ⟨0, 0, [], Nat.zero_le _, rfl, rfl, rfl, Wd.Ip.start _ _ _, Ni, (Below.refl _ _).alloc (Nat.le_refl _) _⟩
 case round =>
  obtain ⟨i, c, l, hi, rfl, rfl, rfl, HI, hown, hg⟩ := hrel
  have hli := HI.out.len
  have hgl := agf hown
  have hsz := hg.size
  clear Ni hmk'
  by_cases hlx : i < xl.length
  ·
   have dx : decide ((i : Int) < (xl.length : Int)) = true := decide_eq_true om
   have dx' : decide (i < xl.length) = true := decide_eq_true om
   have hCi : i + 1 ≤ C := by have := HC.out; omega
   have hcB := HI.out.b1
   obtain ⟨x, Fy⟩ : ∃ x, x = Wd.g xl i := ⟨_, rfl⟩
   obtain ⟨y, Nc⟩ : ∃ y, y = Wd.g yl i := ⟨_, rfl⟩
   have zb : x < dm := by rw [Fy]; exact Wd.getD_lt (by rw [gp]; omega) _ hx.lt i
   have Ck : y < dm := by rw [Nc]; exact Wd.getD_lt (by rw [gp]; omega) _ hy.lt i
   have b64 : ∀ t : Nat, t < dm → t < dw := fun t ht => by rw [gp] at ht; rw [jb]; omega
   have e1 : IntKind.u64.wrap (x : Int) = (x : Int) := jy rfl (b64 _ zb)
   have e2 : IntKind.u64.wrap (y : Int) = (y : Int) := jy rfl (b64 _ Ck)
   obtain ⟨t, v, d, b', e3, e4, e5, e5', e6, hdB, hb', heq, hv0, Vg⟩ := aps zb hcB y Ck
   have hst := HI.out.step (by rw [← Wd.uf]; exact Fy) (by rw [← Wd.uf]; exact Nc) hdB hb' heq
   have HST := hide hst
   obtain ⟨bx, ox, rfl, hbx, hcx⟩ := hx.ws om
   have Fb : wr.cell? ⟨bx, ox + i, none⟩ = some (.int .u32 (x : Int)) := by rw [Fy]; exact (hg.cell (p := ⟨bx, ox + i, none⟩) hbx).trans (hcx i hlx)
   have hy0 : ¬ i < yl.length → y = 0 := fun h => by rw [Nc]; simp [Wd.g, List.getD, h]
   have Iz : i < yl.length → ∃ b o, Ay = some ⟨b, o, none⟩ ∧ wr.cell? ⟨b, o + i, none⟩ = some (.int .u32 (y : Int)) := fun h => by
    obtain ⟨b, o, rfl, hbb, hc⟩ := hy.ws om
    exact ⟨b, o, rfl, by rw [Nc]; exact (hg.cell (p := ⟨b, o + i, none⟩) hbb).trans (hc i h)⟩
   clear hcx Fy Nc hst heq hdB b64 zb Ck hz0 hz2
   by_cases hly : i < yl.length
   ·
    have dy : decide ((i : Int) < (yl.length : Int)) = true := decide_eq_true om
    have dy' : decide (i < yl.length) = true := decide_eq_true om
    obtain ⟨by', oy, rfl, Py⟩ := Iz om
    clear Iz hy0 hv0
    go_wp2_with (first | (at_builtin; refine wpList_append_fits _ rfl _ _ 59 rfl w.heap.size 156 i0 1 Tryz.underlying59 hi0 hz1 w.heap.size _ C (yz .u32 l) rfl (hown.alloc _) ⟨_, 0, none⟩ 1 1 [.int .u32 ((d : Nat) : Int)] rfl rfl (one_cell _ _ _) (Ox _) om ?_; intro w1 hown1 hgrow1) | fail)
    obtain ⟨r1, r2⟩ := El rfl (hg.alloc hsz _) (by simp <;> omega) hown1 hgrow1
    clear hown1 hgrow1 hown hg
    go_wp2_with fail
    go_roundw
    case rel => exact ⟨i + 1, b', l ++ [d], by omega, rfl, rfl, by go_num, aa HST, r1, r2⟩
    case measure => simp [intOf] <;> omega
   ·
    have dy : decide ((i : Int) < (yl.length : Int)) = false := decide_eq_false om
    have dy' : decide (i < yl.length) = false := decide_eq_false om
    obtain rfl : v = t := hv0 (hy0 om)
    clear Iz hy0 hv0
    go_wp2_with (first | (at_builtin; refine wpList_append_fits _ rfl _ _ 59 rfl w.heap.size 156 i0 1 Tryz.underlying59 hi0 hz1 w.heap.size _ C (yz .u32 l) rfl (hown.alloc _) ⟨_, 0, none⟩ 1 1 [.int .u32 ((d : Nat) : Int)] rfl rfl (one_cell _ _ _) (Ox _) om ?_; intro w1 hown1 hgrow1) | fail)
    obtain ⟨r1, r2⟩ := El rfl (hg.alloc hsz _) (by simp <;> omega) hown1 hgrow1
    clear hown1 hgrow1 hown hg
    go_wp2_with fail
    go_roundw
    case rel => exact ⟨i + 1, b', l ++ [d], by omega, rfl, rfl, by go_num, aa HST, r1, r2⟩
    case measure => simp [intOf] <;> omega
  ·
   have e : i = xl.length := by omega
   subst e
   have hv := HI.out.done rfl hyx (by rw [hx.val, hy.val]; exact hle)
   rw [hx.val, hy.val] at hv
   have HV := Lib.hid hv; have yc := hide HI.out.lt
   obtain ⟨hws, hcap, hmax⟩ := apj hli.symm hown hgl
   have htr := Cr (some ⟨w.heap.size, 0, none⟩) C l wr.heap.size wr hws hcap (by have := HC.out; omega)
   rw [hli] at htr
   have HTR := hide htr; have HWS := hide hws
   clear hv hown htr hws hmax hz0 hz2
   go_wp2_with fail
   refine (aa HTR).mono ?_
   rintro e w' ⟨⟨k, rfl, ht, hk2⟩, rfl⟩
   dsimp only
   go_wp2_with fail
   go_ret
   have hk3 : k = (l.take k).length := by rw [List.length_take]; omega
   refine ⟨some ⟨w.heap.size, 0, none⟩, C, l.take k, Fv hk3, ?_, hg⟩
   have := si.aaz (cap := C) (aa HWS) (aa yc) ht om (by have := HC.out; omega) (by have := HC.out; omega)
   rwa [HV.out] at this
end Go.Proofs.YtjdnmdlnaoedoaaGreatDoor
namespace Go.Proofs.YtjdnmdlnaoedoaaGreatDoor
open Go.RowKit

theorem add_same {z1 z2 : Int} {m : Bool} (h1 : m = decide (z1 < 0)) (h2 : m = decide (z2 < 0)) : (if m then -((z1.natAbs + z2.natAbs : Nat) : Int) else ((z1.natAbs + z2.natAbs : Nat) : Int)) = z1 + z2 := by
 subst h1
 by_cases a : z1 < 0 <;> by_cases b : z2 < 0 <;> simp [a, b] at h2 ⊢ <;> omega
theorem aeq {z1 z2 : Int} {m m' : Bool} (hne : m ≠ m') (h1 : m = decide (z1 < 0)) (h2 : m' = decide (z2 < 0)) (h : z2.natAbs ≤ z1.natAbs) : (if m then -((z1.natAbs - z2.natAbs : Nat) : Int) else ((z1.natAbs - z2.natAbs : Nat) : Int)) = z1 + z2 := by
 subst h1 h2
 by_cases a : z1 < 0 <;> by_cases b : z2 < 0 <;> simp [a, b] at hne ⊢ <;> omega

set_option maxHeartbeats 8000000 in
theorem anz (A1 : Option Addr) (c1 : Nat) (l1 : List Nat) (m1 : Bool) (z1 : Int) (A2 : Option Addr) (c2 : Nat) (l2 : List Nat) (m2 : Bool) (z2 : Int) (w : World) (h1 : je w A1 c1 l1 m1 z1) (h2 : je w A2 c2 l2 m2 z2) (hk : l1.length + l2.length + 1 ≤ 35184372088832) (hs : m1 = m2) :
  Calls Tryz.prog 119 #[.agg #[.slice A1 l1.length c1, .bool m1], .agg #[.slice A2 l2.length c2, .bool m2]] w fun e w' => Bl w (z1 + z2) e w' := by
 have hv := add_same h1.sign (hs ▸ h2.sign)
 have SG : (m1 == m2) = true := by rw [hs]; exact beq_self_eq_true _
 have HT := hide (fun W (hW : Below w.heap.size w W) => adp A1 A2 c1 c2 l1 l2 z1.natAbs z2.natAbs W (h1.nat.below hW) (h2.nat.below hW) om om)
 obtain ⟨p, hp⟩ : ∃ p, p = z1.natAbs + z2.natAbs := ⟨_, rfl⟩
 obtain ⟨z, hz⟩ : ∃ z, z = z1 + z2 := ⟨_, rfl⟩
 rw [← hp] at HT hv
 rw [← hz] at hv ⊢
 have HV := Lib.hid hv
 clear h1 h2 hk hp hz hv hs
 go_enter Tryz.func119, Tryz.ntmps119
 go_wp2_with fail
 obtain ⟨n0, n1, n2, hsz, hw0⟩ := pz w (.cells #[.slice A1 l1.length c1, .bool m1] 61) (.cells #[.slice A2 l2.length c2, .bool m2] 61) (.cells #[.slice none 0 0, .bool false] 61)
 generalize (((w.alloc (.cells #[.slice A1 l1.length c1, .bool m1] 61)).alloc (.cells #[.slice A2 l2.length c2, .bool m2] 61)).alloc (.cells #[.slice none 0 0, .bool false] 61)) = W0 at *
 have q0 := lt_of_block n0; have q1 := lt_of_block n1; have q2 := lt_of_block n2
 have KEEP : ∀ X, Below W0.heap.size W0 X → (fun w' => w'.cell? ⟨w.heap.size, 0, none⟩ = some (.slice A1 l1.length c1) ∧ w'.cell? ⟨w.heap.size, 1, none⟩ = some (.bool m1) ∧ w'.cell? ⟨w.heap.size + 1, 0, none⟩ = some (.slice A2 l2.length c2) ∧ w'.cell? ⟨w.heap.size + 1, 1, none⟩ = some (.bool m2)) X := fun X hX => ⟨(hX.cell (p := ⟨w.heap.size, 0, none⟩) q0).trans (ah n0 0), (hX.cell (p := ⟨w.heap.size, 1, none⟩) q0).trans (ah n0 1), (hX.cell (p := ⟨w.heap.size + 1, 0, none⟩) q1).trans (ah n1 0), (hX.cell (p := ⟨w.heap.size + 1, 1, none⟩) q1).trans (ah n1 1)⟩
 obtain ⟨k0, k1, k2, k3⟩ := KEEP W0 (Below.refl _ _)
 have r0 : W0.cell? ⟨w.heap.size + 1 + 1, 0, none⟩ = some (.slice none 0 0) := ah n2 0
 have r1 : W0.cell? ⟨w.heap.size + 1 + 1, 1, none⟩ = some (.bool false) := ah n2 1
 have f0 := az n2 0
 have f1 := az n2 1
 have NR := Lib.hid n2; have HKE := hide KEEP
 clear n0 n1 n2 hsz KEEP
 go_wp2_with fail
 go_region_held3 (fun w' => w'.cell? ⟨w.heap.size, 0, none⟩ = some (.slice A1 l1.length c1) ∧ w'.cell? ⟨w.heap.size, 1, none⟩ = some (.bool m1) ∧ w'.cell? ⟨w.heap.size + 1, 0, none⟩ = some (.slice A2 l2.length c2) ∧ w'.cell? ⟨w.heap.size + 1, 1, none⟩ = some (.bool m2)) (first | with_reducible exact ⟨(zz _ _ _ _ om).trans ((hc _ _ q0).trans k0), (zz _ _ _ _ om).trans ((hc _ _ q0).trans k1), (zz _ _ _ _ om).trans ((hc _ _ q1).trans k2), (zz _ _ _ _ om).trans ((hc _ _ q1).trans k3)⟩ | exact (aa HKE) _ (by (first | with_reducible assumption | (repeat (first | with_reducible exact Below.refl _ _ | with_reducible assumption | refine Below.drew ?_ | (refine Below.alloc ?_ (by simp <;> omega) _) | refine qj ?_ _))))) (first | (go_at_call 161; refine ((aa HT) _ (bz hw0 (by (first | with_reducible assumption | (repeat (first | with_reducible exact Below.refl _ _ | with_reducible assumption | refine Below.drew ?_ | (refine Below.alloc ?_ (by simp <;> omega) _) | refine qj ?_ _)))))).mono ?_; rintro e w' ⟨A5, c5, l5, rfl, zm, hb⟩; have hbw := df (w := W0) (by (first | with_reducible assumption | (repeat (first | with_reducible exact Below.refl _ _ | with_reducible assumption | refine Below.drew ?_ | (refine Below.alloc ?_ (by simp <;> omega) _) | refine qj ?_ _)))) hb; obtain ⟨hc, hfz⟩ := dz hbw) | (go_at_call 159; refine (Au A5 c5 l5 p m1 _ (by exact zm)).mono ?_; rw [HV.out]; rintro e w' ⟨A6, c6, l6, m6, rfl, Cu, hb⟩; have hbw := df (w := W0) (by (first | with_reducible assumption | (repeat (first | with_reducible exact Below.refl _ _ | with_reducible assumption | refine Below.drew ?_ | (refine Below.alloc ?_ (by simp <;> omega) _) | refine qj ?_ _)))) hb; obtain ⟨hc, hfz⟩ := dz hbw))
 all_goals
  have hblk : w'.heap[w.heap.size + 1 + 1]? = some (.cells #[.slice none 0 0, .bool false] 61 (0, 0)) := (hbw.block _ q2).trans NR.out
  have mr := Lib.hid hblk
  have ku : Below w.heap.size w w' := bz hw0 hbw
  clear hblk
  go_wp2_with fail
  exact bodyPost_ret (v := .agg #[.slice A6 l6.length c6, .bool m6]) (by simp [results, Tryz.results119, go_sem, hc, r0, r1, q2]) rfl
   ⟨A6, c6, l6, m6, rfl, Cu.upto mr.out (Es _ _ _ _) (nk _ _ _ _), ku.grown (nk _ _ _ _) ku.size (fun k hk => by injection hk with hk; omega)⟩

set_option maxHeartbeats 8000000 in
theorem axx (A1 : Option Addr) (c1 : Nat) (l1 : List Nat) (m1 : Bool) (z1 : Int) (A2 : Option Addr) (c2 : Nat) (l2 : List Nat) (m2 : Bool) (z2 : Int) (w : World) (h1 : je w A1 c1 l1 m1 z1) (h2 : je w A2 c2 l2 m2 z2) (hk : l1.length + l2.length + 1 ≤ 35184372088832) (hs : m1 ≠ m2) (ho : z2.natAbs ≤ z1.natAbs) :
  Calls Tryz.prog 119 #[.agg #[.slice A1 l1.length c1, .bool m1], .agg #[.slice A2 l2.length c2, .bool m2]] w fun e w' => Bl w (z1 + z2) e w' := by
 have hv := aeq hs h1.sign h2.sign ho
 have HT := hide (fun W (hW : Below w.heap.size w W) => adq A1 A2 c1 c2 l1 l2 z1.natAbs z2.natAbs W (h1.nat.below hW) (h2.nat.below hW) om ho)
 have ho3 : 0 ≤ wm z1.natAbs z2.natAbs := by unfold wm; (repeat' split) <;> omega
 have SG : (m1 == m2) = false := beq_eq_false_iff_ne.2 hs
 have HO := hide (fun W (hW : Below w.heap.size w W) => Ic A1 A2 c1 c2 l1 l2 z1.natAbs z2.natAbs W (h1.nat.below hW) (h2.nat.below hW))
 obtain ⟨o, hoo⟩ : ∃ o, o = wm z1.natAbs z2.natAbs := ⟨_, rfl⟩
 rw [← hoo] at HO ho3
 have d1 : decide ((0 : Int) ≤ o) = true := decide_eq_true ho3
 obtain ⟨p, hp⟩ : ∃ p, p = z1.natAbs - z2.natAbs := ⟨_, rfl⟩
 obtain ⟨z, hz⟩ : ∃ z, z = z1 + z2 := ⟨_, rfl⟩
 rw [← hp] at HT hv
 rw [← hz] at hv ⊢
 have HV := Lib.hid hv
 clear h1 h2 hk hp hz hv hs ho ho3 hoo
 go_enter Tryz.func119, Tryz.ntmps119
 go_wp2_with fail
 obtain ⟨n0, n1, n2, hsz, hw0⟩ := pz w (.cells #[.slice A1 l1.length c1, .bool m1] 61) (.cells #[.slice A2 l2.length c2, .bool m2] 61) (.cells #[.slice none 0 0, .bool false] 61)
 generalize (((w.alloc (.cells #[.slice A1 l1.length c1, .bool m1] 61)).alloc (.cells #[.slice A2 l2.length c2, .bool m2] 61)).alloc (.cells #[.slice none 0 0, .bool false] 61)) = W0 at *
 have q0 := lt_of_block n0; have q1 := lt_of_block n1; have q2 := lt_of_block n2
 have KEEP : ∀ X, Below W0.heap.size W0 X → (fun w' => w'.cell? ⟨w.heap.size, 0, none⟩ = some (.slice A1 l1.length c1) ∧ w'.cell? ⟨w.heap.size, 1, none⟩ = some (.bool m1) ∧ w'.cell? ⟨w.heap.size + 1, 0, none⟩ = some (.slice A2 l2.length c2) ∧ w'.cell? ⟨w.heap.size + 1, 1, none⟩ = some (.bool m2)) X := fun X hX => ⟨(hX.cell (p := ⟨w.heap.size, 0, none⟩) q0).trans (ah n0 0), (hX.cell (p := ⟨w.heap.size, 1, none⟩) q0).trans (ah n0 1), (hX.cell (p := ⟨w.heap.size + 1, 0, none⟩) q1).trans (ah n1 0), (hX.cell (p := ⟨w.heap.size + 1, 1, none⟩) q1).trans (ah n1 1)⟩
 obtain ⟨k0, k1, k2, k3⟩ := KEEP W0 (Below.refl _ _)
 have r0 : W0.cell? ⟨w.heap.size + 1 + 1, 0, none⟩ = some (.slice none 0 0) := ah n2 0
 have r1 : W0.cell? ⟨w.heap.size + 1 + 1, 1, none⟩ = some (.bool false) := ah n2 1
 have f0 := az n2 0
 have f1 := az n2 1
 have NR := Lib.hid n2; have HKE := hide KEEP
 clear n0 n1 n2 hsz KEEP
 go_wp2_with fail
 refine ((aa HO) _ hw0).mono ?_
 rintro e w1 ⟨rfl, hw1⟩
 obtain ⟨kk, rfl⟩ := hw1
 have hk0 : Below W0.heap.size W0 (W0.drewN kk) := qj (Below.refl _ _) kk
 go_wp2_with fail
 go_region_held3 (fun w' => w'.cell? ⟨w.heap.size, 0, none⟩ = some (.slice A1 l1.length c1) ∧ w'.cell? ⟨w.heap.size, 1, none⟩ = some (.bool m1) ∧ w'.cell? ⟨w.heap.size + 1, 0, none⟩ = some (.slice A2 l2.length c2) ∧ w'.cell? ⟨w.heap.size + 1, 1, none⟩ = some (.bool m2)) (first | with_reducible exact ⟨(zz _ _ _ _ om).trans ((hc _ _ q0).trans k0), (zz _ _ _ _ om).trans ((hc _ _ q0).trans k1), (zz _ _ _ _ om).trans ((hc _ _ q1).trans k2), (zz _ _ _ _ om).trans ((hc _ _ q1).trans k3)⟩ | exact (aa HKE) _ (by (first | with_reducible assumption | (repeat (first | with_reducible exact Below.refl _ _ | with_reducible assumption | refine Below.drew ?_ | (refine Below.alloc ?_ (by simp <;> omega) _) | refine qj ?_ _))))) (first | (go_at_call 163; refine ((aa HT) _ (bz hw0 (by (first | with_reducible assumption | (repeat (first | with_reducible exact Below.refl _ _ | with_reducible assumption | refine Below.drew ?_ | (refine Below.alloc ?_ (by simp <;> omega) _) | refine qj ?_ _)))))).mono ?_; rintro e w' ⟨A5, c5, l5, rfl, zm, hb⟩; have hbw := df (w := W0) (by (first | with_reducible assumption | (repeat (first | with_reducible exact Below.refl _ _ | with_reducible assumption | refine Below.drew ?_ | (refine Below.alloc ?_ (by simp <;> omega) _) | refine qj ?_ _)))) hb; obtain ⟨hc, hfz⟩ := dz hbw) | (go_at_call 159; refine (Au A5 c5 l5 p m1 _ (by exact zm)).mono ?_; rw [HV.out]; rintro e w' ⟨A6, c6, l6, m6, rfl, Cu, hb⟩; have hbw := df (w := W0) (by (first | with_reducible assumption | (repeat (first | with_reducible exact Below.refl _ _ | with_reducible assumption | refine Below.drew ?_ | (refine Below.alloc ?_ (by simp <;> omega) _) | refine qj ?_ _)))) hb; obtain ⟨hc, hfz⟩ := dz hbw))
 all_goals
  have hblk : w'.heap[w.heap.size + 1 + 1]? = some (.cells #[.slice none 0 0, .bool false] 61 (0, 0)) := (hbw.block _ q2).trans NR.out
  have mr := Lib.hid hblk
  have ku : Below w.heap.size w w' := bz hw0 hbw
  clear hblk
  go_wp2_with fail
  exact bodyPost_ret (v := .agg #[.slice A6 l6.length c6, .bool m6]) (by simp [results, Tryz.results119, go_sem, hc, r0, r1, q2]) rfl
   ⟨A6, c6, l6, m6, rfl, Cu.upto mr.out (Es _ _ _ _) (nk _ _ _ _), ku.grown (nk _ _ _ _) ku.size (fun k hk => by injection hk with hk; omega)⟩

set_option maxHeartbeats 8000000 in
theorem axw (A1 : Option Addr) (c1 : Nat) (l1 : List Nat) (m1 : Bool) (z1 : Int) (A2 : Option Addr) (c2 : Nat) (l2 : List Nat) (m2 : Bool) (z2 : Int) (w : World) (h1 : je w A1 c1 l1 m1 z1) (h2 : je w A2 c2 l2 m2 z2) (hk : l1.length + l2.length + 1 ≤ 35184372088832) (hs : m1 ≠ m2) (ho : ¬ z2.natAbs ≤ z1.natAbs) :
  Calls Tryz.prog 119 #[.agg #[.slice A1 l1.length c1, .bool m1], .agg #[.slice A2 l2.length c2, .bool m2]] w fun e w' => Bl w (z1 + z2) e w' := by
 have hv := aeq (Ne.symm hs) h2.sign h1.sign om
 rw [Int.add_comm z2 z1] at hv
 have HT := hide (fun W (hW : Below w.heap.size w W) => adq A2 A1 c2 c1 l2 l1 z2.natAbs z1.natAbs W (h2.nat.below hW) (h1.nat.below hW) om om)
 have ho3 : ¬ 0 ≤ wm z1.natAbs z2.natAbs := by unfold wm; (repeat' split) <;> omega
 have SG : (m1 == m2) = false := beq_eq_false_iff_ne.2 hs
 have HO := hide (fun W (hW : Below w.heap.size w W) => Ic A1 A2 c1 c2 l1 l2 z1.natAbs z2.natAbs W (h1.nat.below hW) (h2.nat.below hW))
 obtain ⟨o, hoo⟩ : ∃ o, o = wm z1.natAbs z2.natAbs := ⟨_, rfl⟩
 rw [← hoo] at HO ho3
 have d1 : decide ((0 : Int) ≤ o) = false := decide_eq_false ho3
 obtain ⟨p, hp⟩ : ∃ p, p = z2.natAbs - z1.natAbs := ⟨_, rfl⟩
 obtain ⟨z, hz⟩ : ∃ z, z = z1 + z2 := ⟨_, rfl⟩
 rw [← hp] at HT hv
 rw [← hz] at hv ⊢
 have HV := Lib.hid hv
 clear h1 h2 hk hp hz hv hs ho ho3 hoo
 go_enter Tryz.func119, Tryz.ntmps119
 go_wp2_with fail
 obtain ⟨n0, n1, n2, hsz, hw0⟩ := pz w (.cells #[.slice A1 l1.length c1, .bool m1] 61) (.cells #[.slice A2 l2.length c2, .bool m2] 61) (.cells #[.slice none 0 0, .bool false] 61)
 generalize (((w.alloc (.cells #[.slice A1 l1.length c1, .bool m1] 61)).alloc (.cells #[.slice A2 l2.length c2, .bool m2] 61)).alloc (.cells #[.slice none 0 0, .bool false] 61)) = W0 at *
 have q0 := lt_of_block n0; have q1 := lt_of_block n1; have q2 := lt_of_block n2
 have KEEP : ∀ X, Below W0.heap.size W0 X → (fun w' => w'.cell? ⟨w.heap.size, 0, none⟩ = some (.slice A1 l1.length c1) ∧ w'.cell? ⟨w.heap.size, 1, none⟩ = some (.bool m1) ∧ w'.cell? ⟨w.heap.size + 1, 0, none⟩ = some (.slice A2 l2.length c2) ∧ w'.cell? ⟨w.heap.size + 1, 1, none⟩ = some (.bool m2)) X := fun X hX => ⟨(hX.cell (p := ⟨w.heap.size, 0, none⟩) q0).trans (ah n0 0), (hX.cell (p := ⟨w.heap.size, 1, none⟩) q0).trans (ah n0 1), (hX.cell (p := ⟨w.heap.size + 1, 0, none⟩) q1).trans (ah n1 0), (hX.cell (p := ⟨w.heap.size + 1, 1, none⟩) q1).trans (ah n1 1)⟩
 obtain ⟨k0, k1, k2, k3⟩ := KEEP W0 (Below.refl _ _)
 have r0 : W0.cell? ⟨w.heap.size + 1 + 1, 0, none⟩ = some (.slice none 0 0) := ah n2 0
 have r1 : W0.cell? ⟨w.heap.size + 1 + 1, 1, none⟩ = some (.bool false) := ah n2 1
 have f0 := az n2 0
 have f1 := az n2 1
 have NR := Lib.hid n2; have HKE := hide KEEP
 clear n0 n1 n2 hsz KEEP
 go_wp2_with fail
 refine ((aa HO) _ hw0).mono ?_
 rintro e w1 ⟨rfl, hw1⟩
 obtain ⟨kk, rfl⟩ := hw1
 have hk0 : Below W0.heap.size W0 (W0.drewN kk) := qj (Below.refl _ _) kk
 go_wp2_with fail
 go_region_held3 (fun w' => w'.cell? ⟨w.heap.size, 0, none⟩ = some (.slice A1 l1.length c1) ∧ w'.cell? ⟨w.heap.size, 1, none⟩ = some (.bool m1) ∧ w'.cell? ⟨w.heap.size + 1, 0, none⟩ = some (.slice A2 l2.length c2) ∧ w'.cell? ⟨w.heap.size + 1, 1, none⟩ = some (.bool m2)) (first | with_reducible exact ⟨(zz _ _ _ _ om).trans ((hc _ _ q0).trans k0), (zz _ _ _ _ om).trans ((hc _ _ q0).trans k1), (zz _ _ _ _ om).trans ((hc _ _ q1).trans k2), (zz _ _ _ _ om).trans ((hc _ _ q1).trans k3)⟩ | exact (aa HKE) _ (by (first | with_reducible assumption | (repeat (first | with_reducible exact Below.refl _ _ | with_reducible assumption | refine Below.drew ?_ | (refine Below.alloc ?_ (by simp <;> omega) _) | refine qj ?_ _))))) (first | (go_at_call 163; refine ((aa HT) _ (bz hw0 (by (first | with_reducible assumption | (repeat (first | with_reducible exact Below.refl _ _ | with_reducible assumption | refine Below.drew ?_ | (refine Below.alloc ?_ (by simp <;> omega) _) | refine qj ?_ _)))))).mono ?_; rintro e w' ⟨A5, c5, l5, rfl, zm, hb⟩; have hbw := df (w := W0) (by (first | with_reducible assumption | (repeat (first | with_reducible exact Below.refl _ _ | with_reducible assumption | refine Below.drew ?_ | (refine Below.alloc ?_ (by simp <;> omega) _) | refine qj ?_ _)))) hb; obtain ⟨hc, hfz⟩ := dz hbw) | (go_at_call 159; refine (Au A5 c5 l5 p m2 _ (by exact zm)).mono ?_; rw [HV.out]; rintro e w' ⟨A6, c6, l6, m6, rfl, Cu, hb⟩; have hbw := df (w := W0) (by (first | with_reducible assumption | (repeat (first | with_reducible exact Below.refl _ _ | with_reducible assumption | refine Below.drew ?_ | (refine Below.alloc ?_ (by simp <;> omega) _) | refine qj ?_ _)))) hb; obtain ⟨hc, hfz⟩ := dz hbw))
 all_goals
  have hblk : w'.heap[w.heap.size + 1 + 1]? = some (.cells #[.slice none 0 0, .bool false] 61 (0, 0)) := (hbw.block _ q2).trans NR.out
  have mr := Lib.hid hblk
  have ku : Below w.heap.size w w' := bz hw0 hbw
  clear hblk
  go_wp2_with fail
  exact bodyPost_ret (v := .agg #[.slice A6 l6.length c6, .bool m6]) (by simp [results, Tryz.results119, go_sem, hc, r0, r1, q2]) rfl
   ⟨A6, c6, l6, m6, rfl, Cu.upto mr.out (Es _ _ _ _) (nk _ _ _ _), ku.grown (nk _ _ _ _) ku.size (fun k hk => by injection hk with hk; omega)⟩

theorem ass (A1 : Option Addr) (c1 : Nat) (l1 : List Nat) (m1 : Bool) (z1 : Int) (A2 : Option Addr) (c2 : Nat) (l2 : List Nat) (m2 : Bool) (z2 : Int) (w : World) (h1 : je w A1 c1 l1 m1 z1) (h2 : je w A2 c2 l2 m2 z2) (hk : l1.length + l2.length + 1 ≤ 35184372088832) :
  Calls Tryz.prog 119 #[.agg #[.slice A1 l1.length c1, .bool m1], .agg #[.slice A2 l2.length c2, .bool m2]] w fun e w' => Bl w (z1 + z2) e w' := by
 by_cases hs : m1 = m2
 ·
  exact anz A1 c1 l1 m1 z1 A2 c2 l2 m2 z2 w h1 h2 hk hs
 ·
  by_cases ho : z2.natAbs ≤ z1.natAbs
  ·
   exact axx A1 c1 l1 m1 z1 A2 c2 l2 m2 z2 w h1 h2 hk hs ho
  ·
   exact axw A1 c1 l1 m1 z1 A2 c2 l2 m2 z2 w h1 h2 hk hs ho
end Go.Proofs.YtjdnmdlnaoedoaaGreatDoor
namespace Go.Proofs.YtjdnmdlnaoedoaaGreatDoor
open Go.RowKit

structure Ti (Wp W : World) (b : Nat) : Prop where
 old : Wp.heap.size ≤ b
 zero : W.heap[b]? = some (.cells #[.slice none 0 0, .bool false] 61 (0, 0))
theorem Ti.lt {Wp W : World} {b : Nat} (h : Ti Wp W b) : b < W.heap.size := lt_of_block h.zero
theorem Ti.drew {Wp W : World} {b : Nat} (h : Ti Wp W b) : Ti Wp W.drew b := ⟨h.old, h.zero⟩
theorem Ti.below {Wp W w' : World} {b : Nat} (h : Ti Wp W b) (hb : Below W.heap.size W w') : Ti Wp w' b := ⟨h.old, (hb.block _ h.lt).trans h.zero⟩
theorem Ti.new {Wp W : World} {b : Nat} (hb : Below Wp.heap.size Wp W) (e : b = W.heap.size) : Ti Wp (W.alloc (.cells #[.slice none 0 0, .bool false] 61 (0, 0))) b := by
 subst e; exact ⟨hb.size, heap_alloc_new W _⟩
theorem Ti.alloc {Wp W : World} {b : Nat} {o : Obj} (h : Ti Wp W b) : Ti Wp (W.alloc o) b := ⟨h.old, (Below.heap_alloc W _ b h.lt).trans h.zero⟩
theorem Fs.new {W : World} {b : Nat} {A1 : Option Addr} {c1 : Nat} {l1 : List Nat} {m1 : Bool} {z1 : Int} (h1 : je W A1 c1 l1 m1 z1) (e : b = W.heap.size) : Fs (W.alloc (.cells #[.slice A1 l1.length c1, .bool m1] 61)) b z1 := by
 subst e; exact ⟨A1, c1, l1, m1, heap_alloc_new W _, h1.below ((Below.refl _ _).alloc (Nat.le_refl _) _)⟩
theorem Fs.alloc {W : World} {b : Nat} {z : Int} {o : Obj} (h : Fs W b z) : Fs (W.alloc o) b z := h.below ((Below.refl _ _).alloc (Nat.le_refl _) _)
theorem je.alloc {W : World} {o : Obj} {A1 : Option Addr} {c1 : Nat} {l1 : List Nat} {m1 : Bool} {z1 : Int} (h1 : je W A1 c1 l1 m1 z1) : je (W.alloc o) A1 c1 l1 m1 z1 := h1.below ((Below.refl _ _).alloc (Nat.le_refl _) _)
def avw (w : World) (F : Nat) (a b c : Int) : Prop := ∀ (A1 : Option Addr) (c1 : Nat) (l1 : List Nat) (m1 : Bool) (A2 : Option Addr) (c2 : Nat) (l2 : List Nat) (m2 : Bool) (W : World), Below w.heap.size w W → je W A1 c1 l1 m1 a → je W A2 c2 l2 m2 b → Calls Tryz.prog F #[(Value.agg #[.slice A1 l1.length c1, .bool m1]), (Value.agg #[.slice A2 l2.length c2, .bool m2])] W fun e w' => Bl W c e w'
def beh (w : World) (F : Nat) (a b : Int) (q : Rat) : Prop := ∀ (A1 : Option Addr) (c1 : Nat) (l1 : List Nat) (m1 : Bool) (A2 : Option Addr) (c2 : Nat) (l2 : List Nat) (m2 : Bool) (W : World), Below w.heap.size w W → je W A1 c1 l1 m1 a → je W A2 c2 l2 m2 b → Calls Tryz.prog F #[(Value.agg #[.slice A1 l1.length c1, .bool m1]), (Value.agg #[.slice A2 l2.length c2, .bool m2])] W fun e w' => QR W q e w'
theorem Fz {w : World} {g : Nat} (u0 u1 u2 u3 : Value) (b o : Nat) (h : b ≠ g) : ((((w.setCell ⟨g, 0, none⟩ u0).setCell ⟨g, 1, none⟩ u1).setCell ⟨g, 2, none⟩ u2).setCell ⟨g, 3, none⟩ u3).cell? ⟨b, o, none⟩ = w.cell? ⟨b, o, none⟩ := by
 rw [Cc _ _ _ _ h, Cc _ _ _ _ h, Cc _ _ _ _ h, Cc _ _ _ _ h]

end Go.Proofs.YtjdnmdlnaoedoaaGreatDoor
namespace Go.Proofs.YtjdnmdlnaoedoaaGreatDoor
open Go.RowKit

set_option maxHeartbeats 8000000 in
theorem aat (A1 : Option Addr) (c1 : Nat) (l1 : List Nat) (m1 : Bool) (n : Int) (A2 : Option Addr) (c2 : Nat) (l2 : List Nat) (m2 : Bool) (d : Int) (K : Nat) (w : World) (h1 : je w A1 c1 l1 m1 n) (h2 : je w A2 c2 l2 m2 d) (hd : d ≠ 0) (hn : n.natAbs < dm ^ K) (hdK : d.natAbs < dm ^ K) (hK : K + 1 ≤ 35184372088832) :
  Calls Tryz.prog 115 #[.agg #[.slice A1 l1.length c1, .bool m1], .agg #[.slice A2 l2.length c2, .bool m2]] w fun e w' => QR w (Rat.divInt n d) e w' := by
 have hl : ¬ l2.length = 0 := fun e => by have := h2.nat.Gz.2 e; omega
 have HI := hide (fun W => Zn A2 c2 l2.length m2 W)
 rw [decide_eq_false hl] at HI
 obtain ⟨n', d', q, hq, hq2, hd', hn', bcc, hneg⟩ : ∃ (n' d' : Int) (q : Rat), q = Rat.divInt n d ∧ q = Rat.divInt n' d' ∧ 0 < d' ∧ n'.natAbs < dm ^ K ∧ d'.natAbs < dm ^ K ∧ ((m2 = true ∧ n' = -n ∧ d' = -d) ∨ (m2 = false ∧ n' = n ∧ d' = d)) := by
  by_cases h : d < 0
  ·
   exact ⟨-n, -d, _, rfl, (afa n d hd).symm, by omega, by rw [Int.natAbs_neg]; exact hn, by rw [Int.natAbs_neg]; exact hdK, .inl ⟨by rw [h2.sign]; exact decide_eq_true h, rfl, rfl⟩⟩
  ·
   exact ⟨n, d, _, rfl, rfl, by omega, hn, hdK, .inr ⟨by rw [h2.sign]; exact decide_eq_false h, rfl, rfl⟩⟩
 rw [← hq]
 have HQ2 := Lib.hid hq2
 have HDP := hide hd'; have HNK := hide hn'; have HDK := hide bcc; have ang := hide hneg; have HK := hide hK
 have H1 := hide h1; have H2 := hide h2
 have HN1 := hide (fun W (hW : Below w.heap.size w W) => Zm A1 c1 l1 m1 n W (h1.below hW))
 have HN2 := hide (fun W (hW : Below w.heap.size w W) => Zm A2 c2 l2 m2 d W (h2.below hW))
 clear h1 h2 hd hn hdK hl hq hq2 hd' hn' bcc hneg hK
 go_enter Tryz.func115, Tryz.ntmps115
 go_wp2_with fail
 obtain ⟨n0, n1, n2, hsz, hw0⟩ := pz w (.cells #[.slice A1 l1.length c1, .bool m1] 61) (.cells #[.slice A2 l2.length c2, .bool m2] 61) (.cells #[.slice none 0 0, .bool false, .slice none 0 0, .bool false] 63)
 generalize (((w.alloc (.cells #[.slice A1 l1.length c1, .bool m1] 61)).alloc (.cells #[.slice A2 l2.length c2, .bool m2] 61)).alloc (.cells #[.slice none 0 0, .bool false, .slice none 0 0, .bool false] 63)) = W0 at *
 have hS0 : Xc w W0 n d := ⟨⟨_, _, _, _, n0, (aa H1).below hw0⟩, ⟨_, _, _, _, n1, (aa H2).below hw0⟩, n2, hw0⟩
 refine ((aa HI) _).mono ?_
 rintro e W1 ⟨rfl, hb⟩
 have hS1 := hS0.below hb
 have j0 := (hb.block _ (lt_of_block n0)).trans n0
 have j1 := (hb.block _ (lt_of_block n1)).trans n1
 have hw1 := bz hw0 hb
 clear hS0 hb n0 n1 n2 hw0 hsz HI
 have k0 : W1.cell? ⟨w.heap.size, 0, none⟩ = some (.slice A1 l1.length c1) := ah j0 0
 have k1 : W1.cell? ⟨w.heap.size, 1, none⟩ = some (.bool m1) := ah j0 1
 have k2 : W1.cell? ⟨w.heap.size + 1, 0, none⟩ = some (.slice A2 l2.length c2) := ah j1 0
 have k3 : W1.cell? ⟨w.heap.size + 1, 1, none⟩ = some (.bool m2) := ah j1 1
 have HS := hide hS1; have J := hide (And.intro j0 j1); have HW1 := Lib.hid hw1
 clear hS1 hw1 j0 j1
 go_upto_if 14 with (fail)
 go_cut [] (fun wx => Xc w wx n' d')
 case first =>
  rcases aa ang with ⟨e1, e2, e3⟩ | ⟨e1, e2, e3⟩
  ·
   subst e1 e2 e3
   have q0 : w.heap.size < W1.heap.size := lt_of_block (aa J).1
   have q1 : w.heap.size + 1 < W1.heap.size := lt_of_block (aa J).2
   have KEEP : ∀ X, Below W1.heap.size W1 X → (fun w' => w'.cell? ⟨w.heap.size, 0, none⟩ = some (.slice A1 l1.length c1) ∧ w'.cell? ⟨w.heap.size, 1, none⟩ = some (.bool m1) ∧ w'.cell? ⟨w.heap.size + 1, 0, none⟩ = some (.slice A2 l2.length c2) ∧ w'.cell? ⟨w.heap.size + 1, 1, none⟩ = some (.bool true)) X := fun X hX => ⟨(hX.cell (p := ⟨w.heap.size, 0, none⟩) q0).trans k0, (hX.cell (p := ⟨w.heap.size, 1, none⟩) q0).trans k1, (hX.cell (p := ⟨w.heap.size + 1, 0, none⟩) q1).trans k2, (hX.cell (p := ⟨w.heap.size + 1, 1, none⟩) q1).trans k3⟩
   have HKE := hide KEEP
   have f0 := az (aa J).1 0
   have f1 := az (aa J).1 1
   have f2 := az (aa J).2 0
   have f3 := az (aa J).2 1
   clear ang KEEP
   go_wp2_with fail
   go_region_with (first | (go_at_call_of 156 (Value.agg #[.slice A1 l1.length c1, .bool m1]); refine ((aa HN1) _ (bz HW1.out (by (first | with_reducible assumption | (repeat (first | with_reducible exact Below.refl _ _ | with_reducible assumption | refine Below.drew ?_ | (refine Below.alloc ?_ (by simp <;> omega) _))))))).mono ?_; rintro e w' ⟨A5, c5, l5, m5, rfl, bca, hb⟩; (try (first | replace zo := je.below zo hb | replace zo := (je.below zo (Below.drew (Below.refl _ _))).below hb)); (try (first | replace Cu := je.below Cu hb | replace Cu := (je.below Cu (Below.drew (Below.refl _ _))).below hb)); have zo := bca; clear bca; have hbw := df (w := W1) (by (first | with_reducible assumption | (repeat (first | with_reducible exact Below.refl _ _ | with_reducible assumption | refine Below.drew ?_ | (refine Below.alloc ?_ (by simp <;> omega) _))))) hb; obtain ⟨hc, hfz⟩ := dz hbw) | (go_at_call_of 156 (Value.agg #[.slice A2 l2.length c2, .bool true]); refine ((aa HN2) _ (bz HW1.out (by (first | with_reducible assumption | (repeat (first | with_reducible exact Below.refl _ _ | with_reducible assumption | refine Below.drew ?_ | (refine Below.alloc ?_ (by simp <;> omega) _))))))).mono ?_; rintro e w' ⟨A6, c6, l6, m6, rfl, bbz, hb⟩; (try (first | replace zo := je.below zo hb | replace zo := (je.below zo (Below.drew (Below.refl _ _))).below hb)); (try (first | replace Cu := je.below Cu hb | replace Cu := (je.below Cu (Below.drew (Below.refl _ _))).below hb)); have Cu := bbz; clear bbz; have hbw := df (w := W1) (by (first | with_reducible assumption | (repeat (first | with_reducible exact Below.refl _ _ | with_reducible assumption | refine Below.drew ?_ | (refine Below.alloc ?_ (by simp <;> omega) _))))) hb; obtain ⟨hc, hfz⟩ := dz hbw))
   all_goals
    go_wp2_with fail
    go_meet
    case rel =>
     have HS9 := (aa HS).below hbw
     exact HS9.put zo Cu
  ·
   subst e1 e2 e3
   clear ang
   go_wp2_with fail
   go_meet
   case rel => exact aa HS
 case rest =>
  clear ang k0 k1 k2 k3 HS J HW1 HN1 HN2 H1 H2
  obtain ⟨⟨A3, c3, l3, m3, kn, fn⟩, ⟨A4, c4, l4, m4, kd, fd⟩, kq, hb⟩ := hcut
  have w0 : wc.cell? ⟨w.heap.size, 0, none⟩ = some (.slice A3 l3.length c3) := ah kn 0
  have w1 : wc.cell? ⟨w.heap.size, 1, none⟩ = some (.bool m3) := ah kn 1
  have w2 : wc.cell? ⟨w.heap.size + 1, 0, none⟩ = some (.slice A4 l4.length c4) := ah kd 0
  have w3 : wc.cell? ⟨w.heap.size + 1, 1, none⟩ = some (.bool m4) := ah kd 1
  have p0 : wc.cell? ⟨w.heap.size + 1 + 1, 0, none⟩ = some (.slice none 0 0) := ah kq 0
  have p1 : wc.cell? ⟨w.heap.size + 1 + 1, 1, none⟩ = some (.bool false) := ah kq 1
  have p2 : wc.cell? ⟨w.heap.size + 1 + 1, 2, none⟩ = some (.slice none 0 0) := ah kq 2
  have p3 : wc.cell? ⟨w.heap.size + 1 + 1, 3, none⟩ = some (.bool false) := ah kq 3
  have u0 := az kn 0; have u1 := az kn 1; have u2 := az kd 0; have u3 := az kd 1
  have v0 := az kq 0; have v1 := az kq 1; have v2 := az kq 2; have v3 := az kq 3
  have q0 := lt_of_block kn; have q1 := lt_of_block kd; have q2 := lt_of_block kq
  have hSW : Xc w wc n' d' := ⟨⟨A3, c3, l3, m3, kn, fn⟩, ⟨A4, c4, l4, m4, kd, fd⟩, kq, hb⟩
  have ho := aau A4 c4 l4 m4 d' wc fd
  have FN := hide fn; have FD := hide fd; have KQ := Lib.hid kq; have HB := hide hb; have HSW := hide hSW
  obtain ⟨acz, hden⟩ := amq n' d' (aa HDP)
  rw [← HQ2.out] at acz hden
  obtain ⟨g, hg⟩ : ∃ g, g = n'.natAbs.gcd d'.natAbs := ⟨_, rfl⟩
  rw [← hg] at acz hden
  have anf := Lib.hid acz.symm; have anh := Lib.hid hden.symm; have HGG := Lib.hid hg
  clear kn kd kq fn fd hb hSW acz hden
  by_cases hd1 : d' = 1
  ·
   rw [decide_eq_true hd1] at ho
   have HO := hide ho
   have hg1 : g = 1 := by rw [hg, hd1]; simp
   have e1 : q.num = n' := by
    rw [← anf.out, hg1, Nat.div_one]
    by_cases h : n' < 0
    ·
     rw [if_pos (decide_eq_true h)]; omega
    ·
     rw [if_neg (by simpa using h)]; omega
   have e2 : (q.den : Int) = d' := by
    rw [← anh.out, hg1, Nat.div_one]; have := aa HDP; omega
   have E := hide (And.intro e1 e2)
   clear ho hg hg1 hd1 e1 e2
   go_wp2_with fail
   refine (aa HO).mono ?_
   rintro e W2 ⟨rfl, hb2⟩
   obtain ⟨hc, hfz⟩ := dz hb2
   have hblk := (hb2.block _ q2).trans KQ.out
   have mr := Lib.hid hblk; have HB2 := hide hb2
   clear hblk hb2
   go_wp2_with fail
   exact bodyPost_ret (v := .agg #[.slice A3 l3.length c3, .bool m3, .slice A4 l4.length c4, .bool m4]) (by simp [results, Tryz.results115, go_sem, hc, p0, p1, p2, p3, q2]) rfl
    ⟨A3, c3, l3, m3, A4, c4, l4, m4, rfl, by rw [(aa E).1]; exact ((aa FN).below (aa HB2)).upto mr.out (Bt _ _ _ _ _ _ _ _) (qg _ _ _ _ _ _), by rw [(aa E).2]; exact ((aa FD).below (aa HB2)).upto mr.out (Bt _ _ _ _ _ _ _ _) (qg _ _ _ _ _ _), (bz (aa HB) (aa HB2)).grown (qg _ _ _ _ _ _) (bz (aa HB) (aa HB2)).size (fun k hk => by injection hk with hk; omega)⟩
  ·
   rw [decide_eq_false hd1] at ho
   have hdv := fun W (hW : Below wc.heap.size wc W) => ajj A3 A4 c3 c4 l3 l4 n'.natAbs d'.natAbs K W ((aa FN).nat.below hW) ((aa FD).nat.below hW) (aa HNK) (aa HDK) (aa HK)
   rw [← hg] at hdv
   have HO := hide ho; have HDV := hide hdv
   have hg0 : 0 < g := by rw [hg]; exact Nat.gcd_pos_of_pos_right _ (by have := aa HDP; omega)
   have hgl : g ≤ d'.natAbs := by rw [hg]; exact Nat.gcd_le_right _ (by have := aa HDP; omega)
   have HG0 := hide hg0; have HGL := hide hgl
   have hln := (aa FN).nat.len (aa HNK); have hld := (aa FD).nat.len (aa HDK)
   have HLN := hide hln; have HLD := hide hld
   clear ho hdv hg hg0 hgl hd1 hln hld
   go_wp2_with fail
   refine (aa HO).mono ?_
   rintro e W2 ⟨rfl, hb2⟩
   obtain ⟨hc2, hf2⟩ := dz hb2
   have HB2 := hide hb2
   clear hb2
   go_wp2_with fail
   refine ((aa HDV) _ (aa HB2)).mono ?_
   rintro e W3 ⟨A5, c5, l5, rfl, h5, hb3⟩
   have ada := bz (aa HB2) hb3
   replace hb3 := ada
   obtain ⟨hc3, hf3⟩ := dz hb3
   have hlg := h5.len (Nat.lt_of_le_of_lt (aa HGL) (aa HDK))
   have H5 := hide h5; have HLG := hide hlg; have HB3 := hide hb3
   clear hc2 hf2 ada hlg HDV HO HB2
   by_cases hl5 : l5.length = 1
   ·
    obtain ⟨b5, o5, rfl, hb5, hc5⟩ := h5.ws om
    have hcell := hc5 0 om
    rw [Nat.add_zero, show Wd.g l5 0 = g by rw [Uf dm l5 hl5]; exact h5.val] at hcell
    have bjy : ((l5.length : Int) != 1) = false := by rw [hl5]; rfl
    have boy : 0 < l5.length := by omega
    have hcap := h5.uu; have hcap2 := h5.cap2
    by_cases hg1 : g = 1
    ·
     have e1 : q.num = n' := by
      rw [← anf.out, hg1, Nat.div_one]
      by_cases h : n' < 0
      ·
       rw [if_pos (decide_eq_true h)]; omega
      ·
       rw [if_neg (by simpa using h)]; omega
     have e2 : (q.den : Int) = d' := by
      rw [← anh.out, hg1, Nat.div_one]; have := aa HDP; omega
     have E := hide (And.intro e1 e2)
     have hblk := (hb3.block _ q2).trans KQ.out
     have mr := Lib.hid hblk
     rw [hg1] at hcell
     clear hblk hg1 e1 e2 h5 hc5 hb3 hl5 hb5
     go_wp2_with fail
     exact bodyPost_ret (v := .agg #[.slice A3 l3.length c3, .bool m3, .slice A4 l4.length c4, .bool m4]) (by simp [results, Tryz.results115, go_sem, hc3, p0, p1, p2, p3, q2]) rfl
      ⟨A3, c3, l3, m3, A4, c4, l4, m4, rfl, by rw [(aa E).1]; exact ((aa FN).below (aa HB3)).upto mr.out (Bt _ _ _ _ _ _ _ _) (qg _ _ _ _ _ _), by rw [(aa E).2]; exact ((aa FD).below (aa HB3)).upto mr.out (Bt _ _ _ _ _ _ _ _) (qg _ _ _ _ _ _), (bz (aa HB) (aa HB3)).grown (qg _ _ _ _ _ _) (bz (aa HB) (aa HB3)).size (fun k hk => by injection hk with hk; omega)⟩
    ·
     have hgb : ((g : Int) == 1) = false := beq_eq_false_iff_ne.2 om
     have bpc : ((g : Int) != 1) = true := by simp; omega
     obtain ⟨AG, hAG⟩ : ∃ A : Option Addr, A = some ⟨b5, o5, none⟩ := ⟨_, rfl⟩
     have hp1 := Fw A3 (some ⟨b5, o5, none⟩) c3 c5 l3 l5 n'.natAbs g W3 ((aa FN).nat.below hb3) (aa H5) (aa HG0) (by have := aa HLN; have := aa HK; omega) (by have := aa HLG; have := aa HK; omega)
     have HP1 := hide hp1
     clear hg1 h5 hc5 hb3 hl5 hb5 hp1 hAG AG
     go_wp2_with fail
     refine (aa HP1).mono ?_
     rintro e W4 ⟨A6, c6, l6, A7, c7, l7, rfl, h6, h7, hb4⟩
     have Uv := bz (aa HB3) hb4
     have h5' := (aa H5).below hb4
     obtain ⟨hc4, hf4⟩ := dz Uv
     have hp2 := Fw A4 (some ⟨b5, o5, none⟩) c4 c5 l4 l5 d'.natAbs g W4 ((aa FD).nat.below Uv) h5' (aa HG0) (by have := aa HLD; have := aa HK; omega) (by have := aa HLG; have := aa HK; omega)
     have HP2 := hide hp2; have H6 := hide h6; have HB4 := hide Uv
     clear hp2 h6 h7 hb4 Uv h5' hc3 hf3 HP1
     go_wp2_with fail
     refine (aa HP2).mono ?_
     rintro e W5 ⟨A8, c8, l8, A9, c9, l9, rfl, h8, h9, hb5⟩
     have aag := bz (aa HB4) hb5
     obtain ⟨hc5, zo⟩ := dz aag
     have hs1 := Au A6 c6 l6 (n'.natAbs / g) m3 W5 ((aa H6).below hb5)
     have Qb : (if m3 = true then -((n'.natAbs / g : Nat) : Int) else ((n'.natAbs / g : Nat) : Int)) = q.num := by rw [(aa FN).sign]; exact anf.out
     rw [Qb] at hs1
     have ru := hide hs1; have H8 := hide h8; have HB5 := hide aag
     clear hs1 h8 h9 hb5 aag hc4 hf4 Qb HP2
     go_wp2_with fail
     refine (aa ru).mono ?_
     rintro e W6 ⟨Vi, c10, l10, m10, rfl, h10, hb6⟩
     have aaf := bz (aa HB5) hb6
     obtain ⟨hc6, Cu⟩ := dz aaf
     have hs2 := Au A8 c8 l8 (d'.natAbs / g) false W6 ((aa H8).below hb6)
     rw [if_neg Bool.false_ne_true, anh.out] at hs2
     have HS2 := hide hs2; have H10 := hide h10; have HB6 := hide aaf
     clear hs2 h10 hb6 aaf hc5 zo ru
     go_wp2_with fail
     refine (aa HS2).mono ?_
     rintro e W7 ⟨A11, c11, l11, m11, rfl, h11, Nj⟩
     have aae := bz (aa HB6) Nj
     obtain ⟨hc7, hf7⟩ := dz aae
     have ahb := (aa HSW).below aae
     have aam := hide ahb
     have aiy := hide ((aa H10).below Nj); have H11 := hide h11
     clear h11 Nj aae hc6 Cu ahb HS2
     go_wp2_with fail
     have hS9 := (aa aam).put (aa aiy) (aa H11)
     have hk1 := (aa aam).keep (.slice Vi l10.length c10) (.bool m10) (.slice A11 l11.length c11) (.bool m11) (aa aiy)
     have hk2 := (aa aam).keep (.slice Vi l10.length c10) (.bool m10) (.slice A11 l11.length c11) (.bool m11) (aa H11)
     exact bodyPost_ret (v := .agg #[.slice Vi l10.length c10, .bool m10, .slice A11 l11.length c11, .bool m11]) (by simp [results, Tryz.results115, go_sem, hc7, p0, p1, p2, p3, q2]) rfl
      ⟨Vi, c10, l10, m10, A11, c11, l11, m11, rfl, hk1.upto hS9.bq (Bt _ _ _ _ _ _ _ _) (qg _ _ _ _ _ _), hk2.upto hS9.bq (Bt _ _ _ _ _ _ _ _) (qg _ _ _ _ _ _), hS9.hb.grown (qg _ _ _ _ _ _) hS9.hb.size (fun k hk => by injection hk with hk; omega)⟩
   ·
    have bjy : ((l5.length : Int) != 1) = true := by simp; omega
    have bow : ((l5.length : Int) == 1) = false := beq_eq_false_iff_ne.2 om
    have hcap := h5.uu; have hcap2 := h5.cap2
    have hp1 := Fw A3 A5 c3 c5 l3 l5 n'.natAbs g W3 ((aa FN).nat.below hb3) (aa H5) (aa HG0) (by have := aa HLN; have := aa HK; omega) (by have := aa HLG; have := aa HK; omega)
    have HP1 := hide hp1
    clear h5 hb3 hl5 hp1
    go_wp2_with fail
    refine (aa HP1).mono ?_
    rintro e W4 ⟨A6, c6, l6, A7, c7, l7, rfl, h6, h7, hb4⟩
    have Uv := bz (aa HB3) hb4
    have h5' := (aa H5).below hb4
    obtain ⟨hc4, hf4⟩ := dz Uv
    have hp2 := Fw A4 A5 c4 c5 l4 l5 d'.natAbs g W4 ((aa FD).nat.below Uv) h5' (aa HG0) (by have := aa HLD; have := aa HK; omega) (by have := aa HLG; have := aa HK; omega)
    have HP2 := hide hp2; have H6 := hide h6; have HB4 := hide Uv
    clear hp2 h6 h7 hb4 Uv h5' hc3 hf3 HP1
    go_wp2_with fail
    refine (aa HP2).mono ?_
    rintro e W5 ⟨A8, c8, l8, A9, c9, l9, rfl, h8, h9, hb5⟩
    have aag := bz (aa HB4) hb5
    obtain ⟨hc5, zo⟩ := dz aag
    have hs1 := Au A6 c6 l6 (n'.natAbs / g) m3 W5 ((aa H6).below hb5)
    have Qb : (if m3 = true then -((n'.natAbs / g : Nat) : Int) else ((n'.natAbs / g : Nat) : Int)) = q.num := by rw [(aa FN).sign]; exact anf.out
    rw [Qb] at hs1
    have ru := hide hs1; have H8 := hide h8; have HB5 := hide aag
    clear hs1 h8 h9 hb5 aag hc4 hf4 Qb HP2
    go_wp2_with fail
    refine (aa ru).mono ?_
    rintro e W6 ⟨Vi, c10, l10, m10, rfl, h10, hb6⟩
    have aaf := bz (aa HB5) hb6
    obtain ⟨hc6, Cu⟩ := dz aaf
    have hs2 := Au A8 c8 l8 (d'.natAbs / g) false W6 ((aa H8).below hb6)
    rw [if_neg Bool.false_ne_true, anh.out] at hs2
    have HS2 := hide hs2; have H10 := hide h10; have HB6 := hide aaf
    clear hs2 h10 hb6 aaf hc5 zo ru
    go_wp2_with fail
    refine (aa HS2).mono ?_
    rintro e W7 ⟨A11, c11, l11, m11, rfl, h11, Nj⟩
    have aae := bz (aa HB6) Nj
    obtain ⟨hc7, hf7⟩ := dz aae
    have ahb := (aa HSW).below aae
    have aam := hide ahb
    have aiy := hide ((aa H10).below Nj); have H11 := hide h11
    clear h11 Nj aae hc6 Cu ahb HS2
    go_wp2_with fail
    have hS9 := (aa aam).put (aa aiy) (aa H11)
    have hk1 := (aa aam).keep (.slice Vi l10.length c10) (.bool m10) (.slice A11 l11.length c11) (.bool m11) (aa aiy)
    have hk2 := (aa aam).keep (.slice Vi l10.length c10) (.bool m10) (.slice A11 l11.length c11) (.bool m11) (aa H11)
    exact bodyPost_ret (v := .agg #[.slice Vi l10.length c10, .bool m10, .slice A11 l11.length c11, .bool m11]) (by simp [results, Tryz.results115, go_sem, hc7, p0, p1, p2, p3, q2]) rfl
     ⟨Vi, c10, l10, m10, A11, c11, l11, m11, rfl, hk1.upto hS9.bq (Bt _ _ _ _ _ _ _ _) (qg _ _ _ _ _ _), hk2.upto hS9.bq (Bt _ _ _ _ _ _ _ _) (qg _ _ _ _ _ _), hS9.hb.grown (qg _ _ _ _ _ _) hS9.hb.size (fun k hk => by injection hk with hk; omega)⟩
end Go.Proofs.YtjdnmdlnaoedoaaGreatDoor
namespace Go.Proofs.YtjdnmdlnaoedoaaGreatDoor
open Go.RowKit

end Go.Proofs.YtjdnmdlnaoedoaaGreatDoor
namespace Go.Proofs.YtjdnmdlnaoedoaaGreatDoor
open Go.RowKit

set_option maxHeartbeats 8000000 in
theorem acp (n d : Int) (w : World) (b1 : -9223372036854775808 ≤ n) (b2 : n ≤ 9223372036854775807) (b3 : -9223372036854775808 ≤ d) (b4 : d ≤ 9223372036854775807) :
  Calls Tryz.prog 57 #[(.agg #[.int .i64 n, .int .i64 d])] w fun e w' => Io w n d e w' := by
 have HN1 := hide (fun W => Ky n b1 b2 W)
 have HN2 := hide (fun W => Ky d b3 b4 W)
 clear b1 b2 b3 b4
 go_enter Tryz.func57, Tryz.ntmps57
 go_wp2_with fail
 obtain ⟨n0, n1, hsz, hw0⟩ := wy w (.cells #[.int .i64 n, .int .i64 d] 23) (.cells #[.int .i64 0, .bool false, .slice none 0 0, .int .i64 0, .bool false, .slice none 0 0] 74)
 generalize ((w.alloc (.cells #[.int .i64 n, .int .i64 d] 23)).alloc (.cells #[.int .i64 0, .bool false, .slice none 0 0, .int .i64 0, .bool false, .slice none 0 0] 74)) = W0 at *
 have yu : W0.cell? ⟨w.heap.size, 0, none⟩ = some (.int .i64 n) := ah n0 0
 have yo : W0.cell? ⟨w.heap.size, 1, none⟩ = some (.int .i64 d) := ah n0 1
 have q0 : w.heap.size < W0.heap.size := by omega
 have Am : W0.cell? ⟨w.heap.size + 1, 0, none⟩ = some (.int .i64 0) := ah n1 0
 have Al : W0.cell? ⟨w.heap.size + 1, 1, none⟩ = some (.bool false) := ah n1 1
 have Ey : W0.cell? ⟨w.heap.size + 1, 2, none⟩ = some (.slice none 0 0) := ah n1 2
 have Mh : W0.cell? ⟨w.heap.size + 1, 3, none⟩ = some (.int .i64 0) := ah n1 3
 have Un : W0.cell? ⟨w.heap.size + 1, 4, none⟩ = some (.bool false) := ah n1 4
 have Um : W0.cell? ⟨w.heap.size + 1, 5, none⟩ = some (.slice none 0 0) := ah n1 5
 have q1 : w.heap.size + 1 < W0.heap.size := by omega
 have Nu := az n1 0
 have Nt := az n1 1
 have aic := az n1 2
 have aib := az n1 3
 have avc := az n1 4
 have avb := az n1 5
 have NR := Lib.hid n1
 clear n0 n1
 go_region_held3 (fun w' => w'.cell? ⟨w.heap.size, 0, none⟩ = some (.int .i64 n) ∧ w'.cell? ⟨w.heap.size, 1, none⟩ = some (.int .i64 d)) ((first | with_reducible exact ⟨(hc _ _ q0).trans yu, (hc _ _ q0).trans yo⟩ | with_reducible exact ⟨yu, yo⟩ | with_reducible exact ⟨(mi _ _ _ _ _ _ _ _ om).trans ((hc _ _ q0).trans yu), (mi _ _ _ _ _ _ _ _ om).trans ((hc _ _ q0).trans yo)⟩ | exact ⟨(hc _ _ q0).trans yu, (hc _ _ q0).trans yo⟩ | exact ⟨yu, yo⟩ | exact ⟨(mi _ _ _ _ _ _ _ _ om).trans ((hc _ _ q0).trans yu), (mi _ _ _ _ _ _ _ _ om).trans ((hc _ _ q0).trans yo)⟩)) (first | (go_at_call 124; refine ((aa HN1) _).mono ?_; clear HN1; rintro e w' ⟨s5, Ce, A5, c5, l5, rfl, zo, hb⟩; have hbw := df (w := W0) bem hb; obtain ⟨hc, hfz⟩ := dz hbw) | (go_at_call 124; refine ((aa HN2) _).mono ?_; rintro e w' ⟨s6, Po, A6, c6, l6, rfl, Cu, hb⟩; have zo := zo.below hb; have hbw := df (w := W0) bem hb; obtain ⟨hc, hfz⟩ := dz hbw))
 have hblk : w'.heap[w.heap.size + 1]? = some (.cells #[.int .i64 0, .bool false, .slice none 0 0, .int .i64 0, .bool false, .slice none 0 0] 74 (0, 0)) := (hbw.block _ q1).trans NR.out
 have mr := Lib.hid hblk
 have ku : Below w.heap.size w w' := bz hw0 hbw
 clear hblk
 go_wp2_with fail
 exact bodyPost_ret (v := (Value.agg #[.int .i64 s5, .bool Ce, .slice A5 l5.length c5, .int .i64 s6, .bool Po, .slice A6 l6.length c6])) (by simp [results, Tryz.results57, go_sem, hc, Am, Al, Ey, Mh, Un, Um, q1]) rfl
  ⟨s5, Ce, A5, c5, l5, s6, Po, A6, c6, l6, rfl, (zo).upto mr.out (Da _ _ _ _ _ _ _ _ _ _) (uw _ _ _ _ _ _ _ _), (Cu).upto mr.out (Da _ _ _ _ _ _ _ _ _ _) (uw _ _ _ _ _ _ _ _), ku.grown (uw _ _ _ _ _ _ _ _) ku.size (fun k hk => by injection hk with hk; omega)⟩

end Go.Proofs.YtjdnmdlnaoedoaaGreatDoor
namespace Go.Proofs.YtjdnmdlnaoedoaaGreatDoor
open Go.RowKit

end Go.Proofs.YtjdnmdlnaoedoaaGreatDoor
namespace Go.Proofs.YtjdnmdlnaoedoaaGreatDoor
open Go.RowKit

def bky (w : World) (q : Rat) (e : Ending) (w' : World) : Prop := ∃ (n d : Int) (ok : Bool), e = .returned (.tuple #[.agg #[.int .i64 n, .int .i64 d], .bool ok]) ∧ Below w.heap.size w w' ∧ ((ok = true ∧ Wd.told q = ⟨n, d, 0⟩) ∨ (ok = false ∧ Wd.told q = ⟨0, 0, 3⟩))

end Go.Proofs.YtjdnmdlnaoedoaaGreatDoor
namespace Go.Proofs.YtjdnmdlnaoedoaaGreatDoor
open Go.RowKit

end Go.Proofs.YtjdnmdlnaoedoaaGreatDoor
namespace Go.Proofs.YtjdnmdlnaoedoaaGreatDoor
open Go.RowKit

end Go.Proofs.YtjdnmdlnaoedoaaGreatDoor
namespace Go.Proofs.YtjdnmdlnaoedoaaGreatDoor
open Go.RowKit

structure Tj (Wp W : World) (b : Nat) : Prop where
 old : Wp.heap.size ≤ b
 zero : W.heap[b]? = some (.cells #[.slice none 0 0, .bool false, .slice none 0 0, .bool false] 63 (0, 0))
theorem Tj.lt {Wp W : World} {b : Nat} (h : Tj Wp W b) : b < W.heap.size := lt_of_block h.zero
theorem Tj.drew {Wp W : World} {b : Nat} (h : Tj Wp W b) : Tj Wp W.drew b := ⟨h.old, h.zero⟩
theorem Tj.below {Wp W w' : World} {b : Nat} (h : Tj Wp W b) (hb : Below W.heap.size W w') : Tj Wp w' b := ⟨h.old, (hb.block _ h.lt).trans h.zero⟩
theorem Tj.new {Wp W : World} {b : Nat} (hb : Below Wp.heap.size Wp W) (e : b = W.heap.size) : Tj Wp (W.alloc (.cells #[.slice none 0 0, .bool false, .slice none 0 0, .bool false] 63 (0, 0))) b := by
 subst e; exact ⟨hb.size, heap_alloc_new W _⟩
theorem Tj.alloc {Wp W : World} {b : Nat} {o : Obj} (h : Tj Wp W b) : Tj Wp (W.alloc o) b := ⟨h.old, (Below.heap_alloc W _ b h.lt).trans h.zero⟩
theorem QV.upto {w w' : World} {g : Nat} {qf : Option Addr} {c1a : Nat} {qd : List Nat} {Bg : Bool} {qz : Option Addr} {qy : Nat} {qw : List Nat} {Bv : Bool} {x1 : Rat} {T : TypeId} {cs : Array Value} (h : QV w qf c1a qd Bg qz qy qw Bv x1) (hg : w.heap[g]? = some (.cells cs T (0, 0))) (hn : aal cs) (hgr : w.grownBy w' (some g)) : QV w' qf c1a qd Bg qz qy qw Bv x1 := by
 obtain ⟨d, h2, h3⟩ := h.den
 exact ⟨h.num.upto hg hn hgr, d, h2.upto hg hn hgr, h3⟩
theorem QV.alloc {W : World} {o : Obj} {qf : Option Addr} {c1a : Nat} {qd : List Nat} {Bg : Bool} {qz : Option Addr} {qy : Nat} {qw : List Nat} {Bv : Bool} {x1 : Rat} (h1 : QV W qf c1a qd Bg qz qy qw Bv x1) : QV (W.alloc o) qf c1a qd Bg qz qy qw Bv x1 := h1.below ((Below.refl _ _).alloc (Nat.le_refl _) _)
def Gn (w : World) (b : Nat) (x : Rat) : Prop := ∃ A c l m A' c' l' m', w.heap[b]? = some (.cells #[.slice A (List.length l) c, .bool m, .slice A' (List.length l') c', .bool m'] 63 (0, 0)) ∧ QV w A c l m A' c' l' m' x
theorem Gn.below {w w' : World} {b : Nat} {x : Rat} (h : Gn w b x) (hb : Below w.heap.size w w') : Gn w' b x := by
 obtain ⟨A, c, l, m, A', c', l', m', h1, h2⟩ := h
 exact ⟨A, c, l, m, A', c', l', m', (hb.block _ (lt_of_block h1)).trans h1, h2.below hb⟩
theorem Gn.new {W : World} {b : Nat} {qf : Option Addr} {c1a : Nat} {qd : List Nat} {Bg : Bool} {qz : Option Addr} {qy : Nat} {qw : List Nat} {Bv : Bool} {x1 : Rat} (h1 : QV W qf c1a qd Bg qz qy qw Bv x1) (e : b = W.heap.size) : Gn (W.alloc (.cells #[.slice qf qd.length c1a, .bool Bg, .slice qz qw.length qy, .bool Bv] 63)) b x1 := by
 subst e; exact ⟨_, _, _, _, _, _, _, _, heap_alloc_new W _, h1.alloc⟩
theorem Gn.alloc {W : World} {b : Nat} {x : Rat} {o : Obj} (h : Gn W b x) : Gn (W.alloc o) b x := h.below ((Below.refl _ _).alloc (Nat.le_refl _) _)
theorem ali {W : World} {b : Nat} {a0 a1 a2 a3 u0 u1 u2 u3 : Value} {T : TypeId} (h : W.heap[b]? = some (.cells #[a0, a1, a2, a3] T (0, 0))) : ((((W.setCell ⟨b, 0, none⟩ u0).setCell ⟨b, 1, none⟩ u1).setCell ⟨b, 2, none⟩ u2).setCell ⟨b, 3, none⟩ u3).heap[b]? = some (.cells #[u0, u1, u2, u3] T (0, 0)) := by
 simp [World.setCell, Array.getElem?_modify, h]
end Go.Proofs.YtjdnmdlnaoedoaaGreatDoor
namespace Go.Proofs.YtjdnmdlnaoedoaaGreatDoor
open Go.RowKit

namespace Sb
def Pn (u : Value) : Prop := (∀ n : Int, u ≠ .int .u64 n) ∧ u.oneCell' = true ∧ (∀ n : Int, u ≠ .int .u32 n)
def Gl (cs : List Value) : Prop := ∀ u ∈ cs, Pn u
structure Kind where
 size : Nat
 ok : World → List Value → Prop
 noW : ∀ {W : World} {c : List Value}, ok W c → Gl c
 below : ∀ {W W' : World} {c : List Value}, Below W.heap.size W W' → ok W c → ok W' c
 upto : ∀ {W W' : World} {g : Nat} {T : TypeId} {cs c : List Value}, W.heap[g]? = some (.cells cs.toArray T (0, 0)) → Gl cs → W.grownBy W' (some g) → ok W c → ok W' c
 len : ∀ {W : World} {c : List Value}, ok W c → c.length = size
inductive Leaf where
 | v (u : Value)
 | z (n : Int)
 | q (x : Rat)
 | r (x : Rat)
 | k (κ : Kind)
def Leaf.size : Leaf → Nat
 | .v _ => 1
 | .z _ => 3
 | .q _ => 6
 | .r _ => 4
 | .k κ => κ.size
def lsize : List Leaf → Nat
 | [] => 0
 | l :: ls => l.size + lsize ls
def Hy (W : World) : Leaf → List Value → Prop
 | .v u, c => c = [u] ∧ Pn u
 | .z n, c => ∃ s1 n1 A1 c1 l1, c = [.int .i64 s1, .bool n1, .slice A1 (List.length l1) c1] ∧ jc W s1 n1 A1 c1 l1 n
 | .q x, c => ∃ s1 n1 A1 c1 l1 s2 n2 A2 c2 l2, c = [.int .i64 s1, .bool n1, .slice A1 (List.length l1) c1, .int .i64 s2, .bool n2, .slice A2 (List.length l2) c2] ∧ jc W s1 n1 A1 c1 l1 x.num ∧ jc W s2 n2 A2 c2 l2 (x.den : Int)
 | .r x, c => ∃ A1 c1 l1 m1 A2 c2 l2 m2, c = [.slice A1 (List.length l1) c1, .bool m1, .slice A2 (List.length l2) c2, .bool m2] ∧ QV W A1 c1 l1 m1 A2 c2 l2 m2 x
 | .k κ, c => κ.ok W c
def ek (W : World) : List Leaf → List Value → Prop
 | [], cs => cs = []
 | l :: ls, cs => ∃ c r, cs = c ++ r ∧ Hy W l c ∧ ek W ls r
theorem kg (n : Int) : Pn (.int .i64 n) := ⟨fun m h => by simp at h, rfl, fun m h => by simp at h⟩
theorem Vw (b : Bool) : Pn (.bool b) := ⟨fun m h => by simp at h, rfl, fun m h => by simp at h⟩
theorem Vv (A : Option Addr) (n c : Nat) : Pn (.slice A n c) := ⟨fun m h => by simp at h, rfl, fun m h => by simp at h⟩
theorem bay (A : Option Addr) : Pn (.pointer A) := ⟨fun m h => by simp at h, rfl, fun m h => by simp at h⟩
theorem Gl.arr {cs : List Value} (h : Gl cs) : Te cs.toArray := fun i n he => (h (.int .u64 n) (List.mem_of_getElem? (i := i) (by simpa using he))).1 n rfl
theorem Gl.bdt {cs : List Value} (h : Gl cs) : aal cs.toArray := fun i n he => (h (.int .u32 n) (List.mem_of_getElem? (i := i) (by simpa using he))).2.2 n rfl
theorem Hy.noW {W : World} {l : Leaf} {c : List Value} (h : Hy W l c) : Gl c := by
 cases l with
 | v u => obtain ⟨rfl, h⟩ := h; intro u' hu; rw [List.mem_singleton.1 hu]; exact h
 | z n =>
  obtain ⟨_, _, _, _, _, rfl, _⟩ := h
  intro u hu
  simp only [List.mem_cons, List.not_mem_nil, or_false] at hu
  rcases hu with rfl | rfl | rfl
  all_goals first | exact kg _ | exact Vw _ | exact Vv _ _ _
 | q x =>
  obtain ⟨_, _, _, _, _, _, _, _, _, _, rfl, _⟩ := h
  intro u hu
  simp only [List.mem_cons, List.not_mem_nil, or_false] at hu
  rcases hu with rfl | rfl | rfl | rfl | rfl | rfl
  all_goals first | exact kg _ | exact Vw _ | exact Vv _ _ _
 | r x =>
  obtain ⟨_, _, _, _, _, _, _, _, rfl, _⟩ := h
  intro u hu
  simp only [List.mem_cons, List.not_mem_nil, or_false] at hu
  rcases hu with rfl | rfl | rfl | rfl
  all_goals first | exact kg _ | exact Vw _ | exact Vv _ _ _
 | k κ => exact κ.noW h
theorem Hy.below {W W' : World} {l : Leaf} {c : List Value} (hb : Below W.heap.size W W') (h : Hy W l c) : Hy W' l c := by
 cases l with
 | v u => exact h
 | z n =>
  obtain ⟨s1, n1, A1, c1, l1, rfl, h1⟩ := h
  exact ⟨_, _, _, _, _, rfl, h1.below hb⟩
 | q x =>
  obtain ⟨s1, n1, A1, c1, l1, s2, n2, A2, c2, l2, rfl, h1, h2⟩ := h
  exact ⟨_, _, _, _, _, _, _, _, _, _, rfl, h1.below hb, h2.below hb⟩
 | r x =>
  obtain ⟨A1, c1, l1, m1, A2, c2, l2, m2, rfl, h1⟩ := h
  exact ⟨_, _, _, _, _, _, _, _, rfl, h1.below hb⟩
 | k κ => exact κ.below hb h
theorem Hy.upto {W W' : World} {g : Nat} {l : Leaf} {c : List Value} {T : TypeId} {cs : List Value} (hg : W.heap[g]? = some (.cells cs.toArray T (0, 0))) (hn : Gl cs) (hgr : W.grownBy W' (some g)) (h : Hy W l c) : Hy W' l c := by
 cases l with
 | v u => exact h
 | z n =>
  obtain ⟨s1, n1, A1, c1, l1, rfl, h1⟩ := h
  exact ⟨_, _, _, _, _, rfl, h1.upto hg hn.arr hgr⟩
 | q x =>
  obtain ⟨s1, n1, A1, c1, l1, s2, n2, A2, c2, l2, rfl, h1, h2⟩ := h
  exact ⟨_, _, _, _, _, _, _, _, _, _, rfl, h1.upto hg hn.arr hgr, h2.upto hg hn.arr hgr⟩
 | r x =>
  obtain ⟨A1, c1, l1, m1, A2, c2, l2, m2, rfl, h1⟩ := h
  exact ⟨_, _, _, _, _, _, _, _, rfl, h1.upto hg hn.bdt hgr⟩
 | k κ => exact κ.upto hg hn hgr h
theorem Hy.len {W : World} {l : Leaf} {c : List Value} (h : Hy W l c) : c.length = l.size := by
 cases l with
 | v u => rw [h.1]; rfl
 | z n => obtain ⟨_, _, _, _, _, rfl, _⟩ := h; rfl
 | q x => obtain ⟨_, _, _, _, _, _, _, _, _, _, rfl, _⟩ := h; rfl
 | r x => obtain ⟨_, _, _, _, _, _, _, _, rfl, _⟩ := h; rfl
 | k κ => exact κ.len h
theorem ek.noW {W : World} : ∀ {ls : List Leaf} {cs : List Value}, ek W ls cs → Gl cs
 | [], _, h => by cases h; intro u hu; cases hu
 | _ :: ls, _, ⟨c, r, e, hq, h⟩ => by
  subst e
  intro u' hm
  rcases List.mem_append.1 hm with hm | hm
  ·
   exact hq.noW _ hm
  ·
   exact ek.noW (ls := ls) h _ hm
theorem ek.below {W W' : World} (hb : Below W.heap.size W W') : ∀ {ls : List Leaf} {cs : List Value}, ek W ls cs → ek W' ls cs
 | [], _, h => h
 | _ :: ls, _, ⟨c, r, e, hq, h⟩ => ⟨c, r, e, hq.below hb, ek.below hb (ls := ls) h⟩
theorem ek.upto {W W' : World} {g : Nat} {T : TypeId} {ds : List Value} (hg : W.heap[g]? = some (.cells ds.toArray T (0, 0))) (hn : Gl ds) (hgr : W.grownBy W' (some g)) : ∀ {ls : List Leaf} {cs : List Value}, ek W ls cs → ek W' ls cs
 | [], _, h => h
 | _ :: ls, _, ⟨c, r, e, hq, h⟩ => ⟨c, r, e, hq.upto hg hn hgr, ek.upto hg hn hgr (ls := ls) h⟩
theorem ek.len {W : World} : ∀ {ls : List Leaf} {cs : List Value}, ek W ls cs → cs.length = lsize ls
 | [], _, h => by cases h; rfl
 | _ :: ls, _, ⟨c, r, e, hq, h⟩ => by subst e; rw [List.length_append, hq.len, ek.len (ls := ls) h]; rfl
theorem ek.app {W : World} {ks : List Leaf} {ds : List Value} (hd : ek W ks ds) : ∀ {ls : List Leaf} {cs : List Value}, ek W ls cs → ek W (ls ++ ks) (cs ++ ds)
 | [], _, h => by cases h; exact hd
 | _ :: ls, _, ⟨c, r, e, hq, h⟩ => ⟨c, r ++ ds, by rw [e, List.append_assoc], hq, ek.app hd (ls := ls) h⟩
theorem ek.cut {W : World} {ks : List Leaf} : ∀ {ls : List Leaf} {cs : List Value}, ek W (ls ++ ks) cs → ∃ c d, cs = c ++ d ∧ ek W ls c ∧ ek W ks d
 | [], cs, h => ⟨[], cs, rfl, rfl, h⟩
 | _ :: ls, _, ⟨c0, r, e, hq, h⟩ => by
  obtain ⟨c, d, e2, h1, h2⟩ := ek.cut (ls := ls) h
  exact ⟨c0 ++ c, d, by rw [e, e2, List.append_assoc], ⟨c0, c, rfl, hq, h1⟩, h2⟩
theorem ek.v {W : World} {u : Value} {ls : List Leaf} {cs : List Value} (hu : Pn u) (h : ek W ls cs) : ek W (.v u :: ls) (u :: cs) := ⟨[u], cs, rfl, ⟨rfl, hu⟩, h⟩
theorem ek.z {W : World} {n : Int} {s1 : Int} {n1 : Bool} {A1 : Option Addr} {c1 : Nat} {l1 : List Nat} {ls : List Leaf} {cs : List Value} (h1 : jc W s1 n1 A1 c1 l1 n) (h : ek W ls cs) : ek W (.z n :: ls) (.int .i64 s1 :: .bool n1 :: .slice A1 l1.length c1 :: cs) := ⟨[_, _, _], cs, rfl, ⟨_, _, _, _, _, rfl, h1⟩, h⟩
theorem ek.q {W : World} {x : Rat} {s1 : Int} {n1 : Bool} {A1 : Option Addr} {c1 : Nat} {l1 : List Nat} {s2 : Int} {n2 : Bool} {A2 : Option Addr} {c2 : Nat} {l2 : List Nat} {ls : List Leaf} {cs : List Value} (h1 : jc W s1 n1 A1 c1 l1 x.num) (h2 : jc W s2 n2 A2 c2 l2 (x.den : Int)) (h : ek W ls cs) : ek W (.q x :: ls) (.int .i64 s1 :: .bool n1 :: .slice A1 l1.length c1 :: .int .i64 s2 :: .bool n2 :: .slice A2 l2.length c2 :: cs) := ⟨[_, _, _, _, _, _], cs, rfl, ⟨_, _, _, _, _, _, _, _, _, _, rfl, h1, h2⟩, h⟩
theorem ek.r {W : World} {x : Rat} {A1 : Option Addr} {c1 : Nat} {l1 : List Nat} {m1 : Bool} {A2 : Option Addr} {c2 : Nat} {l2 : List Nat} {m2 : Bool} {ls : List Leaf} {cs : List Value} (h1 : QV W A1 c1 l1 m1 A2 c2 l2 m2 x) (h : ek W ls cs) : ek W (.r x :: ls) (.slice A1 l1.length c1 :: .bool m1 :: .slice A2 l2.length c2 :: .bool m2 :: cs) := ⟨[_, _, _, _], cs, rfl, ⟨_, _, _, _, _, _, _, _, rfl, h1⟩, h⟩
theorem ek.k {W : World} {κ : Kind} {c : List Value} {ls : List Leaf} {cs : List Value} (h1 : κ.ok W c) (h : ek W ls cs) : ek W (.k κ :: ls) (c ++ cs) := ⟨c, cs, rfl, h1, h⟩
theorem ek.Xt {W : World} {x : Rat} {ls : List Leaf} {cs : List Value} (h : ek W (.r x :: ls) cs) : ∃ A1 c1 l1 m1 A2 c2 l2 m2 r, cs = .slice A1 (List.length l1) c1 :: .bool m1 :: .slice A2 (List.length l2) c2 :: .bool m2 :: r ∧ QV W A1 c1 l1 m1 A2 c2 l2 m2 x ∧ ek W ls r := by
 obtain ⟨c, r, rfl, ⟨A1, c1, l1, m1, A2, c2, l2, m2, rfl, h1⟩, h⟩ := h
 exact ⟨A1, c1, l1, m1, A2, c2, l2, m2, r, rfl, h1, h⟩
theorem ek.Xk {W : World} {u : Value} {ls : List Leaf} {cs : List Value} (h : ek W (.v u :: ls) cs) : ∃ r, cs = u :: r ∧ Pn u ∧ ek W ls r := by
 obtain ⟨c, r, rfl, ⟨rfl, hu⟩, h⟩ := h
 exact ⟨r, rfl, hu, h⟩
theorem ek.akw {W : World} {n : Int} {ls : List Leaf} {cs : List Value} (h : ek W (.z n :: ls) cs) : ∃ s1 n1 A1 c1 l1 r, cs = .int .i64 s1 :: .bool n1 :: .slice A1 (List.length l1) c1 :: r ∧ jc W s1 n1 A1 c1 l1 n ∧ ek W ls r := by
 obtain ⟨c, r, rfl, ⟨s1, n1, A1, c1, l1, rfl, h1⟩, h⟩ := h
 exact ⟨s1, n1, A1, c1, l1, r, rfl, h1, h⟩
theorem ek.alp {W : World} {x : Rat} {ls : List Leaf} {cs : List Value} (h : ek W (.q x :: ls) cs) : ∃ s1 n1 A1 c1 l1 s2 n2 A2 c2 l2 r, cs = .int .i64 s1 :: .bool n1 :: .slice A1 (List.length l1) c1 :: .int .i64 s2 :: .bool n2 :: .slice A2 (List.length l2) c2 :: r ∧ jc W s1 n1 A1 c1 l1 x.num ∧ jc W s2 n2 A2 c2 l2 (x.den : Int) ∧ ek W ls r := by
 obtain ⟨c, r, rfl, ⟨s1, n1, A1, c1, l1, s2, n2, A2, c2, l2, rfl, h1, h2⟩, h⟩ := h
 exact ⟨s1, n1, A1, c1, l1, s2, n2, A2, c2, l2, r, rfl, h1, h2, h⟩

def ai (ls : List Leaf) : World → Value → Prop := fun W v => ∃ cs : List Value, v = .agg cs.toArray ∧ ek W ls cs
theorem au (ls : List Leaf) : Rg.Ez ik (ai ls) := by
 rintro w w' v hb ⟨cs, rfl, h⟩
 exact ⟨cs, rfl, h.below hb⟩
def Gy (W : World) : List (World → Value → Prop) → List Value → Prop
 | [], vs => vs = []
 | t :: ts, vs => ∃ u r, vs = u :: r ∧ t W u ∧ Gy W ts r
def tq (ts : List (World → Value → Prop)) : World → Value → Prop := fun W v => ∃ vs : List Value, v = .tuple vs.toArray ∧ Gy W ts vs
theorem Gy.below {W W' : World} (hb : ik W W') : ∀ {ts : List (World → Value → Prop)} {vs : List Value}, Rg.gm ik ts → Gy W ts vs → Gy W' ts vs
 | [], _, _, h => h
 | _ :: ts, _, hs, ⟨u, r, e, h1, h2⟩ => ⟨u, r, e, hs.1 _ _ _ hb h1, Gy.below hb (ts := ts) hs.2 h2⟩
theorem oz {ts : List (World → Value → Prop)} (hs : Rg.gm ik ts) : Rg.Ez ik (tq ts) := by
 rintro w w' v hb ⟨vs, rfl, h⟩
 exact ⟨vs, rfl, Gy.below hb hs h⟩
theorem Gy.get {W : World} : ∀ {ts : List (World → Value → Prop)} {vs : List Value}, Gy W ts vs → ∀ i, i < ts.length → ∃ u, vs[i]? = some u ∧ Rg.pick ts i W u
 | [], _, _, i, hi => by simp at hi
 | t :: ts, _, ⟨u, r, e, h1, h2⟩, 0, _ => by subst e; exact ⟨u, rfl, h1⟩
 | t :: ts, _, ⟨u, r, e, h1, h2⟩, i + 1, hi => by
  subst e
  obtain ⟨u', h3, h4⟩ := Gy.get (ts := ts) h2 i (by simpa using hi)
  exact ⟨u', by simpa using h3, h4⟩

def Cg (W : World) (b : Nat) (T : TypeId) (ls : List Leaf) : Prop := ∃ cs : List Value, W.heap[b]? = some (.cells cs.toArray T (0, 0)) ∧ ek W ls cs
theorem Cg.lt {W : World} {b : Nat} {T : TypeId} {ls : List Leaf} (h : Cg W b T ls) : b < W.heap.size := by obtain ⟨cs, h, _⟩ := h; exact lt_of_block h
theorem Cg.below {W W' : World} {b : Nat} {T : TypeId} {ls : List Leaf} (h : Cg W b T ls) (hb : Below W.heap.size W W') : Cg W' b T ls := by
 obtain ⟨cs, h1, h2⟩ := h
 exact ⟨cs, (hb.block _ (lt_of_block h1)).trans h1, h2.below hb⟩
abbrev Az := Nat × TypeId × List Leaf
structure Own (w : World) (bs : List Az) (W : World) : Prop where
 bel : Below w.heap.size w W
 nd : (bs.map Prod.fst).Nodup
 box : ∀ b T ls, (b, T, ls) ∈ bs → w.heap.size ≤ b ∧ Cg W b T ls
theorem Own.nil (w : World) : Own w [] w := ⟨Below.refl _ _, List.nodup_nil, fun b T ls h => by cases h⟩
theorem Own.step {w : World} {bs : List Az} : ∀ W W', Own w bs W → ik W W' → Own w bs W' := fun W W' h hb => ⟨bz h.bel hb, h.nd, fun b T ls hm => ⟨(h.box b T ls hm).1, (h.box b T ls hm).2.below hb⟩⟩
theorem Own.add {w W V : World} {bs : List Az} {b : Nat} {T : TypeId} {ls : List Leaf} (h : Own w bs V) (Wu : ik V W) (hb : V.heap.size ≤ b) (hq : Cg W b T ls) : Own w ((b, T, ls) :: bs) W :=
 ⟨bz h.bel Wu, List.nodup_cons.2 ⟨fun hm => by
  obtain ⟨⟨b', T', ls'⟩, hp, he⟩ := List.mem_map.1 hm
  have := (h.box b' T' ls' hp).2.lt
  have : b' = b := he
  omega, h.nd⟩, fun b' T' ls' hm => by
  rcases List.mem_cons.1 hm with e | hm
  ·
   cases e; exact ⟨Nat.le_trans h.bel.size hb, hq⟩
  ·
   exact ((Own.step V W h Wu).box b' T' ls' hm)⟩
theorem Own.push {w W : World} {bs : List Az} {T : TypeId} {ls : List Leaf} {cs : List Value} (h : Own w bs W) (hv : ek W ls cs) (b : Nat) (hb : b = W.heap.size) : Own w ((b, T, ls) :: bs) (W.alloc (.cells cs.toArray T)) := by
 subst hb
 exact h.add ((Below.refl _ _).alloc (Nat.le_refl _) _) (Nat.le_refl _) ⟨cs, heap_alloc_new W _, hv.below ((Below.refl _ _).alloc (Nat.le_refl _) _)⟩
theorem Own.other {w W : World} {bs : List Az} (o : Obj) (h : Own w bs W) : Own w bs (W.alloc o) := Own.step _ _ h ((Below.refl _ _).alloc (Nat.le_refl _) _)
def setM (W : World) (b off : Nat) : List Value → World
 | [] => W
 | u :: r => setM (W.setCell ⟨b, off, none⟩ u) b (off + 1) r
theorem Ad (b : Nat) : ∀ (us : List Value) (off : Nat) (W W' : World), W.grownBy W' (some b) → W.grownBy (setM W' b off us) (some b)
 | [], _, _, _, h => h
 | u :: r, off, W, W', h => Ad b r (off + 1) W _ (pq h off u)
theorem aoh {W : World} {b off : Nat} {u : Value} {T : TypeId} {cs : Array Value} (h : W.heap[b]? = some (.cells cs T (0, 0))) : (W.setCell ⟨b, off, none⟩ u).heap[b]? = some (.cells (cs.setIfInBounds off u) T (0, 0)) := by
 simp [World.setCell, Array.getElem?_modify, h]
theorem set_mid (c : List Value) (x u : Value) (d : List Value) : ((c ++ x :: d).toArray.setIfInBounds c.length u) = (c ++ u :: d).toArray := by
 simp
theorem Tw {b : Nat} {T : TypeId} : ∀ (us old : List Value) (c d : List Value) (W : World), us.length = old.length → W.heap[b]? = some (.cells (c ++ (old ++ d)).toArray T (0, 0)) → (setM W b c.length us).heap[b]? = some (.cells (c ++ (us ++ d)).toArray T (0, 0))
 | [], [], c, d, W, _, h => h
 | u :: us, o :: old, c, d, W, hl, h => by
  have h1 := aoh (off := c.length) (u := u) h
  rw [List.cons_append, set_mid] at h1
  have h2 := Tw us old (c ++ [u]) d _ (by simpa using hl) (by simpa using h1)
  simpa [setM] using h2
 | [], _ :: _, _, _, _, hl, _ => by simp at hl
 | _ :: _, [], _, _, _, hl, _ => by simp at hl
theorem Own.set {w W : World} {xs ys : List Az} {b : Nat} {T : TypeId} {pre old new post : List Leaf} {us : List Value} {off : Nat} (h : Own w (xs ++ (b, T, pre ++ (old ++ post)) :: ys) W) (hv : ek W new us) (hl : lsize new = lsize old) (ho : off = lsize pre) :
  Own w (xs ++ (b, T, pre ++ (new ++ post)) :: ys) (setM W b off us) := by
 obtain ⟨hge, cs, hb, hls⟩ := h.box b T _ (List.mem_append_right _ List.mem_cons_self)
 obtain ⟨c, cd, rfl, k1, k2⟩ := hls.cut
 obtain ⟨o, d, rfl, k3, k4⟩ := k2.cut
 have hg := Ad b us off W W (ve _ _)
 have hnw : Gl (c ++ (o ++ d)) := hls.noW
 have hnd := h.nd
 rw [List.map_append, List.map_cons] at hnd
 have hn : ∀ b' T' q', (b', T', q') ∈ xs ++ ys → b' ≠ b := fun b' T' q' hm e => by
  subst e
  obtain ⟨_, h4, h5⟩ := List.nodup_append.1 hnd
  rcases List.mem_append.1 hm with hm | hm
  ·
   exact h5 b' (List.mem_map.2 ⟨_, hm, rfl⟩) b' List.mem_cons_self rfl
  ·
   exact (List.nodup_cons.1 h4).1 (List.mem_map.2 ⟨_, hm, rfl⟩)
 refine ⟨h.bel.grown hg h.bel.size (fun k hk => by injection hk with hk; omega), by rw [List.map_append, List.map_cons]; exact hnd, fun b' T' q' hm => ?_⟩
 have other : (b', T', q') ∈ xs ++ ys → (b', T', q') ∈ xs ++ (b, T, pre ++ (old ++ post)) :: ys → w.heap.size ≤ b' ∧ Cg (setM W b off us) b' T' q' := fun h1 h2 => by
  obtain ⟨g1, cs', g2, g3⟩ := h.box b' T' q' h2
  exact ⟨g1, cs', (hg.block b' (lt_of_block g2) (fun e => hn _ _ _ h1 (by injection e))).trans g2, g3.upto hb hnw hg⟩
 rcases List.mem_append.1 hm with hm | hm
 ·
  exact other (List.mem_append_left _ hm) (List.mem_append_left _ hm)
 ·
  rcases List.mem_cons.1 hm with e | hm
  ·
   cases e
   refine ⟨hge, c ++ (us ++ d), ?_, (((k4.upto hb hnw hg).app (hv.upto hb hnw hg)).app (k1.upto hb hnw hg))⟩
   have := Tw (T := T) us o c d W (by rw [hv.len, hl, ← k3.len]) hb
   rwa [k1.len, ← ho] at this
  ·
   exact other (List.mem_append_right _ hm) (List.mem_append_right _ (List.mem_cons_of_mem _ hm))
theorem azj {W : World} {b off : Nat} {T : TypeId} {ls ks : List Leaf} {us : List Value} {v : Value} (h : Cg W b T ls) (hv : ai ks W v) : ai ks (setM W b off us) v := by
 obtain ⟨cs, h1, h2⟩ := h
 obtain ⟨ds, e, h3⟩ := hv
 exact ⟨ds, e, h3.upto h1 h2.noW (Ad b us off W W (ve _ _))⟩
def ay (w : World) (bs : List Az) (V : World) : World → Prop := fun W => Own w bs W ∧ ik V W
theorem ay.step {w V : World} {bs : List Az} : ∀ W W', ay w bs V W → ik W W' → ay w bs V W' := fun W W' h hb => ⟨Own.step W W' h.1 hb, bz h.2 hb⟩
theorem ay.size {w V : World} {bs : List Az} : ∀ W, ay w bs V W → V.heap.size ≤ W.heap.size := fun _ h => h.2.size
theorem ay.start {w V : World} {bs : List Az} (h : Own w bs V) : ay w bs V V.drew := ⟨Own.step _ _ h (ik.drew V), ik.drew V⟩
theorem ay.begin {w V : World} {bs : List Az} (h : Own w bs V) : ay w bs V V := ⟨h, Below.refl _ _⟩
theorem ay.box {w V W : World} {bs : List Az} {b : Nat} {T : TypeId} {ls : List Leaf} (hm : (b, T, ls) ∈ bs) (h : ay w bs V W) : Cg W b T ls := (h.1.box b T ls hm).2
theorem ay.bel {w V W : World} {bs : List Az} (h : ay w bs V W) : Below w.heap.size w W := h.1.bel

def Jd (P : Program) (T : TypeId) (n : Nat) : Prop := ∀ (ρ : Operand → Value) (w : World) (d : Option Tmp) (x : Operand) (b off : Nat) (us : List Value) (ty : TypeId) (pos : String) (af : Array Edge) (gd : Option (Nat × Bool)), us.length = n → (∀ i, i < n → w.cell? ⟨b, off + i, none⟩ = us[i]?) → ρ x = .pointer (some ⟨b, off, none⟩) →
 (execOp ρ { dst := d, op := .load T x, type := ty, pos := pos, after := af, guard := gd }).run P w = .ok (.value (.agg us.toArray)) w
theorem aen {w : World} {b : Nat} {T : TypeId} {c m d : List Value} (h : w.heap[b]? = some (.cells (c ++ (m ++ d)).toArray T (0, 0))) (i : Nat) (hi : i < m.length) : w.cell? ⟨b, c.length + i, none⟩ = m[i]? := by
 rw [ah h]
 simp only [List.getElem?_toArray]
 rw [List.getElem?_append_right om, Nat.add_sub_cancel_left, List.getElem?_append_left hi]
theorem Bd {P : Program} {Q : Exit → Act → World → Prop} {l : List Oper} {n : Nat} {T : Nat → World → Value → Prop} {G : World → Prop} {al : List Nat} {a0 : Act} {k d b off m : Nat} {x : Operand} {TB TL : TypeId} {pre mid post : List Leaf} {ty : TypeId} {pos : String} {af : Array Edge} {gd : Option (Nat × Bool)}
  (hL : Jd P TL m) (hal : al.contains k = false) (hx : Rg.mo l n T a0 k x (Rg.bf (.pointer (some ⟨b, off, none⟩)))) (hb : ∀ W, G W → Cg W b TB (pre ++ (mid ++ post))) (ho : lsize pre = off) (hm : lsize mid = m) (hT : T k = ai mid) :
  Rg.Step P Q l n T G ik al a0 k { dst := some d, op := .load TL x, type := ty, pos := pos, after := af, guard := gd } := by
 intro a w hG hO hN
 obtain ⟨cs, h1, h2⟩ := hb w hG
 obtain ⟨c, cd, rfl, k1, k2⟩ := h2.cut
 obtain ⟨o, e, rfl, k3, k4⟩ := k2.cut
 have hlen : o.length = m := by rw [k3.len, hm]
 have hr := hL a.eval w (some d) x b off o ty pos af gd hlen (fun i hi => by
  have := aen h1 i om
  rwa [k1.len, ho] at this) (hx a w hO hN)
 exact qm hr ⟨_, rfl, hG, Below.refl _ _, by rw [hT]; exact ⟨o, rfl, k3⟩, fun h => by rw [hal] at h; cases h⟩
def Db (P : Program) (T : TypeId) (n : Nat) : Prop := ∀ (ρ : Operand → Value) (w : World) (d : Option Tmp) (p x : Operand) (b off : Nat) (cs : List Value) (TB : TypeId) (us : List Value) (ty : TypeId) (pos : String) (af : Array Edge) (gd : Option (Nat × Bool)), us.length = n → (∀ u ∈ us, u.oneCell' = true) → w.heap[b]? = some (.cells cs.toArray TB (0, 0)) → off + n ≤ cs.length → ρ p = .pointer (some ⟨b, off, none⟩) → ρ x = .agg us.toArray →
 (execOp ρ { dst := d, op := .store T p x, type := ty, pos := pos, after := af, guard := gd }).run P w = .ok .skip (setM w b off us)
end Sb

end Go.Proofs.YtjdnmdlnaoedoaaGreatDoor
namespace Go.Proofs.YtjdnmdlnaoedoaaGreatDoor
open Go.RowKit

namespace Sb
theorem Gi {W : World} {x : Rat} {v : Value} (h : ai [.q x] W v) : ∃ s1 n1 A1 c1 l1 s2 n2 A2 c2 l2, v = .agg #[.int .i64 s1, .bool n1, .slice A1 (List.length l1) c1, .int .i64 s2, .bool n2, .slice A2 (List.length l2) c2] ∧ jc W s1 n1 A1 c1 l1 x.num ∧ jc W s2 n2 A2 c2 l2 (x.den : Int) := by
 obtain ⟨cs, rfl, h⟩ := h
 obtain ⟨s1, n1, A1, c1, l1, s2, n2, A2, c2, l2, r, rfl, h1, h2, h3⟩ := h.alp
 cases h3
 exact ⟨_, _, _, _, _, _, _, _, _, _, rfl, h1, h2⟩
theorem Il {W : World} {n : Int} {v : Value} (h : ai [.z n] W v) : ∃ s1 n1 A1 c1 l1, v = .agg #[.int .i64 s1, .bool n1, .slice A1 (List.length l1) c1] ∧ jc W s1 n1 A1 c1 l1 n := by
 obtain ⟨cs, rfl, h⟩ := h
 obtain ⟨s1, n1, A1, c1, l1, r, rfl, h1, h3⟩ := h.akw
 cases h3
 exact ⟨_, _, _, _, _, rfl, h1⟩
theorem Tc {W : World} {a b : Int} {v : Value} (h : ai [.z a, .z b] W v) : ∃ s1 n1 A1 c1 l1 s2 n2 A2 c2 l2, v = .agg #[.int .i64 s1, .bool n1, .slice A1 (List.length l1) c1, .int .i64 s2, .bool n2, .slice A2 (List.length l2) c2] ∧ jc W s1 n1 A1 c1 l1 a ∧ jc W s2 n2 A2 c2 l2 b := by
 obtain ⟨cs, rfl, h⟩ := h
 obtain ⟨s1, n1, A1, c1, l1, r, rfl, h1, h⟩ := h.akw
 obtain ⟨s2, n2, A2, c2, l2, r, rfl, h2, h⟩ := h.akw
 cases h
 exact ⟨_, _, _, _, _, _, _, _, _, _, rfl, h1, h2⟩
theorem Xa {W : World} {a b : Value} {v : Value} (h : ai [.v a, .v b] W v) : v = .agg #[a, b] := by
 obtain ⟨cs, rfl, h⟩ := h
 obtain ⟨r, rfl, _, h⟩ := h.Xk
 obtain ⟨r, rfl, _, h⟩ := h.Xk
 cases h; rfl
theorem Af {W : World} {a b c d : Value} {v : Value} (h : ai [.v a, .v b, .v c, .v d] W v) : v = .agg #[a, b, c, d] := by
 obtain ⟨cs, rfl, h⟩ := h
 obtain ⟨r, rfl, _, h⟩ := h.Xk
 obtain ⟨r, rfl, _, h⟩ := h.Xk
 obtain ⟨r, rfl, _, h⟩ := h.Xk
 obtain ⟨r, rfl, _, h⟩ := h.Xk
 cases h; rfl
theorem Ht {W : World} {x y : Rat} {v : Value} (h : ai [.q x, .q y] W v) : ∃ s1 n1 A1 c1 l1 s2 n2 A2 c2 l2 s3 n3 A3 c3 l3 s4 n4 A4 c4 l4, v = .agg #[.int .i64 s1, .bool n1, .slice A1 (List.length l1) c1, .int .i64 s2, .bool n2, .slice A2 (List.length l2) c2, .int .i64 s3, .bool n3, .slice A3 (List.length l3) c3, .int .i64 s4, .bool n4, .slice A4 (List.length l4) c4] ∧ jc W s1 n1 A1 c1 l1 x.num ∧ jc W s2 n2 A2 c2 l2 (x.den : Int) ∧ jc W s3 n3 A3 c3 l3 y.num ∧ jc W s4 n4 A4 c4 l4 (y.den : Int) := by
 obtain ⟨cs, rfl, h⟩ := h
 obtain ⟨s1, n1, A1, c1, l1, s2, n2, A2, c2, l2, r, rfl, h1, h2, h⟩ := h.alp
 obtain ⟨s3, n3, A3, c3, l3, s4, n4, A4, c4, l4, r, rfl, h3, h4, h⟩ := h.alp
 cases h
 exact ⟨_, _, _, _, _, _, _, _, _, _, _, _, _, _, _, _, _, _, _, _, rfl, h1, h2, h3, h4⟩
theorem azk (W : World) {a b : Value} (ha : Pn a) (hb : Pn b) : ai [.v a, .v b] W (.agg #[a, b]) := ⟨[a, b], rfl, ek.v ha (ek.v hb rfl)⟩
theorem Va (W : World) (a b : Int) : ai [.v (.int .i64 a), .v (.int .i64 b)] W (.agg #[.int .i64 a, .int .i64 b]) := azk W (kg _) (kg _)
theorem aim (W : World) (a b c d : Int) : ai [.v (.int .i64 a), .v (.int .i64 b), .v (.int .i64 c), .v (.int .i64 d)] W (.agg #[.int .i64 a, .int .i64 b, .int .i64 c, .int .i64 d]) := ⟨[_, _, _, _], rfl, ek.v (kg _) (ek.v (kg _) (ek.v (kg _) (ek.v (kg _) rfl)))⟩
theorem Pm {w w' : World} {q : Rat} {e : Ending} (h : Io w q.num (q.den : Int) e w') : jh (ai [.q q]) w e w' := by
 obtain ⟨s1, n1, A1, c1, l1, s2, n2, A2, c2, l2, rfl, h1, h2, hb⟩ := h
 exact ⟨_, rfl, hb, _, rfl, ek.q h1 h2 rfl⟩
theorem Xx {w w' : World} {z : Int} {e : Ending} (h : Fa w z e w') : jh (ai [.z z]) w e w' := by
 obtain ⟨s1, n1, A1, c1, l1, rfl, h1, hb⟩ := h
 exact ⟨_, rfl, hb, _, rfl, ek.z h1 rfl⟩
theorem aph {w w' : World} {a b : Int} {e : Ending} (h : jh (ai [.z a, .z b]) w e w') : Io w a b e w' := by
 obtain ⟨u, rfl, hb, h⟩ := h
 obtain ⟨s1, n1, A1, c1, l1, s2, n2, A2, c2, l2, rfl, f1, f2⟩ := Tc h
 exact ⟨_, _, _, _, _, _, _, _, _, _, rfl, f1, f2, hb⟩
theorem Wx {w w' : World} {u : Value} {e : Ending} (h : e = .returned u ∧ Below w.heap.size w w') : jh (Rg.bf u) w e w' := ⟨u, h.1, h.2, rfl⟩
theorem amt {F : Nat} {x q : Rat} {W : World} {v0 : Value} (h : Ql W F x q) (h0 : ai [.q x] W v0) : Calls Tryz.prog F #[v0] W (jh (ai [.q q]) W) := by
 obtain ⟨s1, n1, A1, c1, l1, s2, n2, A2, c2, l2, rfl, f1, f2⟩ := Gi h0
 exact (h _ _ _ _ _ _ _ _ _ _ W (Below.refl _ _) f1 f2).mono fun e w' h => Pm h
theorem afi {F : Nat} {x y q : Rat} {W : World} {v0 v1 : Value} (h : Hw W F x y q) (h0 : ai [.q x] W v0) (h1 : ai [.q y] W v1) : Calls Tryz.prog F #[v0, v1] W (jh (ai [.q q]) W) := by
 obtain ⟨s1, n1, A1, c1, l1, s2, n2, A2, c2, l2, rfl, f1, f2⟩ := Gi h0
 obtain ⟨s3, n3, A3, c3, l3, s4, n4, A4, c4, l4, rfl, f3, f4⟩ := Gi h1
 exact (h _ _ _ _ _ _ _ _ _ _ _ _ _ _ _ _ _ _ _ _ W (Below.refl _ _) f1 f2 f3 f4).mono fun e w' h => Pm h
theorem aij {F : Nat} {x y q : Int} {W : World} {v0 v1 : Value} (h : Du W F x y q) (h0 : ai [.z x] W v0) (h1 : ai [.z y] W v1) : Calls Tryz.prog F #[v0, v1] W (jh (ai [.z q]) W) := by
 obtain ⟨s1, n1, A1, c1, l1, rfl, f1⟩ := Il h0
 obtain ⟨s2, n2, A2, c2, l2, rfl, f2⟩ := Il h1
 exact (h _ _ _ _ _ _ _ _ _ _ W (Below.refl _ _) f1 f2).mono fun e w' h => Xx h
theorem i2 {F : Nat} {x y q : Int} {w W : World} {v0 v1 : Value} (h : Du w F x y q) (hb : Below w.heap.size w W) (h0 : ai [.z x] W v0) (h1 : ai [.z y] W v1) : Calls Tryz.prog F #[v0, v1] W (jh (ai [.z q]) W) := by
 obtain ⟨s1, n1, A1, c1, l1, rfl, f1⟩ := Il h0
 obtain ⟨s2, n2, A2, c2, l2, rfl, f2⟩ := Il h1
 exact (h _ _ _ _ _ _ _ _ _ _ W hb f1 f2).mono fun e w' h => Xx h
end Sb

end Go.Proofs.YtjdnmdlnaoedoaaGreatDoor
