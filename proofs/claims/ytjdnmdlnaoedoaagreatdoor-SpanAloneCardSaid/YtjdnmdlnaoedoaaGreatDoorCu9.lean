/- Texts beneath a law of layer 1. -/
import Derived.Test.YtjdnmdlnaoedoaaGreatDoorCu8
set_option maxRecDepth 100000
set_option maxHeartbeats 16000000
namespace Go.Proofs.YtjdnmdlnaoedoaaGreatDoor
open Go.RowKit

theorem acu (Ax Ay : Option Addr) (cx cy : Nat) (xl yl : List Nat) (n m : Nat) (w : World) (hx : qo w Ax cx xl n) (hy : qo w Ay cy yl m) (hk : xl.length + 1 ≤ 35184372088832) (hk2 : yl.length + 1 ≤ 35184372088832) :
  Calls Tryz.prog 161 #[.slice Ax xl.length cx, .slice Ay yl.length cy] w fun e w' => ank w (n + m) e w' := by
 obtain ⟨M, hM⟩ : ∃ M, M = max xl.length yl.length := ⟨_, rfl⟩
 have hMx : xl.length ≤ M := by omega
 have hMy : yl.length ≤ M := by omega
 have hMd : M = xl.length ∨ M = yl.length := by omega
 have hM2 : M + 1 ≤ 35184372088832 := by omega
 have e0 : max (xl.length : Int) (yl.length : Int) = (M : Int) := by omega
 have hmk := ada (M + 1) hM2
 have aax := afo w (M + 1) hM2 156
 obtain ⟨C, hC⟩ : ∃ C, C = M + 1 := ⟨_, rfl⟩
 have Mk : (w.alloc (.cells (wz .u32 (List.replicate (M + 1) 0)) 156)).ownsRow w.heap.size 156 1 (.slice (some ⟨w.heap.size, 0, none⟩) 0 C) 0 (yh .u32 []) := by rw [hC]; exact aax
 have hmk' : ∀ W : World, (Instr.makeSlice 59 (.int .i64 0) (.int .i64 ((M : Int) + 1))).run Tryz.prog W = .ok (.slice (some ⟨W.heap.size, 0, none⟩) 0 C) (W.alloc (.cells (wz .u32 (List.replicate (M + 1) 0)) 156)) := by
  intro W; rw [hC]; have := hmk W; simp only [Int.natCast_add, Int.cast_ofNat_Int] at this; exact this
 have HC := Lib.hid hC
 clear hmk aax hC
 obtain ⟨i0, hi0, hz0, hz1, hz2⟩ := info_parts aat
 have hx1 := hx.tu; have hx2 := hx.cap2; have hy1 := hy.tu; have hy2 := hy.cap2
 clear hM
 go_enter Tryz.func161, Tryz.ntmps161
 go_wp2_with fail
 go_loopw [5, 6, 7] (fun ov cv iv wr => ∃ (i c : Nat) (l : List Nat), i ≤ M ∧ ov = .slice (some ⟨w.heap.size, 0, none⟩) i C ∧ cv = .int .u64 ((c : Nat) : Int) ∧ iv = .int .i64 ((i : Nat) : Int) ∧ Hid (Wd.Hw eu xl yl l i c) ∧ wr.ownsRow w.heap.size 156 1 (.slice (some ⟨w.heap.size, 0, none⟩) i C) i (yh .u32 l) ∧ Below w.heap.size w wr) (fun _ _ iv _ => M - (intOf iv).toNat)
 case atStart => exact ⟨0, 0, [], Nat.zero_le _, rfl, rfl, rfl, Wd.Hw.start _ _ _, Mk, (Below.refl _ _).alloc (Nat.le_refl _) _⟩
 case round =>
  obtain ⟨i, c, l, hi, rfl, rfl, rfl, HI, hown, hg⟩ := hrel
  have hCi : i + 1 ≤ C := by have := HC.out; omega
  have hcB := HI.out.c1
  have amn : c < fo := by rw [ic]; omega
  have b64 : ∀ t : Nat, t < eu → t < fo := fun t ht => by rw [gp] at ht; rw [ic]; omega
  have hli := HI.out.len
  have hgl := afp hown
  obtain ⟨x, Fg⟩ : ∃ x, x = Wd.g xl i := ⟨_, rfl⟩
  obtain ⟨y, Mg⟩ : ∃ y, y = Wd.g yl i := ⟨_, rfl⟩
  have yo : x < eu := by rw [Fg]; exact Wd.getD_lt (by rw [gp]; omega) _ hx.lt i
  have Ch : y < eu := by rw [Mg]; exact Wd.getD_lt (by rw [gp]; omega) _ hy.lt i
  obtain ⟨s1, hs1⟩ : ∃ t, t = c + x := ⟨_, rfl⟩
  obtain ⟨s, hs⟩ : ∃ t, t = s1 + y := ⟨_, rfl⟩
  obtain ⟨d, hd⟩ : ∃ t, t = s % eu := ⟨_, rfl⟩
  obtain ⟨q, hq⟩ : ∃ t, t = s / eu := ⟨_, rfl⟩
  have hsB : s < fo := by rw [gp] at yo Ch; rw [ic]; omega
  have agm : s1 < fo := by rw [gp] at yo Ch; rw [ic]; omega
  have e1 : IntKind.u64.wrap (x : Int) = (x : Int) := jf rfl (b64 _ yo)
  have e2 : IntKind.u64.wrap (y : Int) = (y : Int) := jf rfl (b64 _ Ch)
  have e3 : IntKind.u64.wrap ((c : Int) + (x : Int)) = (s1 : Int) := jf (by rw [hs1]; simp) agm
  have e4 : IntKind.u64.wrap ((s1 : Int) + (y : Int)) = (s : Int) := jf (by rw [hs]; simp) hsB
  have e5 : IntKind.u32.wrap (s : Int) = (d : Int) := by rw [Cj, hd]
  have e5' : (s : Int) % 4294967296 = (d : Int) := by rw [hd, gp]; omega
  have e6 : (s : Int) / 4294967296 = (q : Int) := by rw [hq, gp]; omega
  have hst := HI.out.step Am (by rw [← Wd.qz]; exact Fg) yo (by rw [← Wd.qz]; exact Mg) Ch (s := s) om
  rw [← hd, ← hq] at hst
  have HST := hide hst
  have Rw : i < xl.length → ∃ b o, Ax = some ⟨b, o, none⟩ ∧ wr.cell? ⟨b, o + i, none⟩ = some (.int .u32 (x : Int)) := fun h => by
   obtain ⟨b, o, rfl, hbb, hc⟩ := hx.ws om
   exact ⟨b, o, rfl, by rw [Fg]; exact (hg.cell (p := ⟨b, o + i, none⟩) hbb).trans (hc i h)⟩
  have Ii : i < yl.length → ∃ b o, Ay = some ⟨b, o, none⟩ ∧ wr.cell? ⟨b, o + i, none⟩ = some (.int .u32 (y : Int)) := fun h => by
   obtain ⟨b, o, rfl, hbb, hc⟩ := hy.ws om
   exact ⟨b, o, rfl, by rw [Mg]; exact (hg.cell (p := ⟨b, o + i, none⟩) hbb).trans (hc i h)⟩
  have hx0 : ¬ i < xl.length → x = 0 := fun h => by rw [Fg]; simp [Wd.g, List.getD, h]
  have hy0 : ¬ i < yl.length → y = 0 := fun h => by rw [Mg]; simp [Wd.g, List.getD, h]
  have hsz := hg.size
  by_cases hlx : i < xl.length
  ·
   by_cases hly : i < yl.length
   ·
    have dx : decide ((i : Int) < (xl.length : Int)) = true := decide_eq_true om
    have dy : decide ((i : Int) < (yl.length : Int)) = true := decide_eq_true om
    have dx' : decide (i < xl.length) = true := decide_eq_true om
    have dy' : decide (i < yl.length) = true := decide_eq_true om
    obtain ⟨bx, ox, rfl, Eo⟩ := Rw om
    obtain ⟨by', oy, rfl, Pm⟩ := Ii om
    clear Rw Ii hx0 hy0 Fg Mg hs1 hs hd hq hst yo Ch hsB agm amn b64 Mk hmk' hz0 hz2
    go_wp2_with (first | (at_builtin; refine wpList_append_fits _ rfl _ _ 59 rfl w.heap.size 156 i0 1 Tryz.underlying59 hi0 hz1 w.heap.size _ C (yh .u32 l) rfl (hown.alloc _) ⟨_, 0, none⟩ 1 1 [.int .u32 ((d : Nat) : Int)] rfl rfl (one_cell _ _ _) (Oj _) om ?_; intro w1 hown1 hgrow1) | fail)
    obtain ⟨r1, r2⟩ := Dx rfl (hg.alloc hsz _) (by simp <;> omega) hown1 hgrow1
    clear hown1 hgrow1 hown hg
    go_wp2_with fail
    go_roundw
    case rel => exact ⟨i + 1, q, l ++ [d], by omega, rfl, rfl, by go_num, aa HST, r1, r2⟩
    case measure => simp [intOf] <;> omega
   ·
    have dx : decide ((i : Int) < (xl.length : Int)) = true := decide_eq_true om
    have dy : decide ((i : Int) < (yl.length : Int)) = false := decide_eq_false om
    have dx' : decide (i < xl.length) = true := decide_eq_true om
    have dy' : decide (i < yl.length) = false := decide_eq_false om
    obtain ⟨bx, ox, rfl, Eo⟩ := Rw om
    obtain rfl : s = s1 := by have := hy0 om; omega
    clear Rw Ii hx0 hy0 Fg Mg hs1 hs hd hq hst yo Ch hsB agm amn b64 Mk hmk' hz0 hz2
    go_wp2_with (first | (at_builtin; refine wpList_append_fits _ rfl _ _ 59 rfl w.heap.size 156 i0 1 Tryz.underlying59 hi0 hz1 w.heap.size _ C (yh .u32 l) rfl (hown.alloc _) ⟨_, 0, none⟩ 1 1 [.int .u32 ((d : Nat) : Int)] rfl rfl (one_cell _ _ _) (Oj _) om ?_; intro w1 hown1 hgrow1) | fail)
    obtain ⟨r1, r2⟩ := Dx rfl (hg.alloc hsz _) (by simp <;> omega) hown1 hgrow1
    clear hown1 hgrow1 hown hg
    go_wp2_with fail
    go_roundw
    case rel => exact ⟨i + 1, q, l ++ [d], by omega, rfl, rfl, by go_num, aa HST, r1, r2⟩
    case measure => simp [intOf] <;> omega
  ·
   by_cases hly : i < yl.length
   ·
    have dx : decide ((i : Int) < (xl.length : Int)) = false := decide_eq_false om
    have dy : decide ((i : Int) < (yl.length : Int)) = true := decide_eq_true om
    have dx' : decide (i < xl.length) = false := decide_eq_false om
    have dy' : decide (i < yl.length) = true := decide_eq_true om
    obtain ⟨by', oy, rfl, Pm⟩ := Ii om
    obtain rfl : s1 = c := by have := hx0 om; omega
    clear Rw Ii hx0 hy0 Fg Mg hs1 hs hd hq hst yo Ch hsB agm amn b64 Mk hmk' hz0 hz2
    go_wp2_with (first | (at_builtin; refine wpList_append_fits _ rfl _ _ 59 rfl w.heap.size 156 i0 1 Tryz.underlying59 hi0 hz1 w.heap.size _ C (yh .u32 l) rfl (hown.alloc _) ⟨_, 0, none⟩ 1 1 [.int .u32 ((d : Nat) : Int)] rfl rfl (one_cell _ _ _) (Oj _) om ?_; intro w1 hown1 hgrow1) | fail)
    obtain ⟨r1, r2⟩ := Dx rfl (hg.alloc hsz _) (by simp <;> omega) hown1 hgrow1
    clear hown1 hgrow1 hown hg
    go_wp2_with fail
    go_roundw
    case rel => exact ⟨i + 1, q, l ++ [d], by omega, rfl, rfl, by go_num, aa HST, r1, r2⟩
    case measure => simp [intOf] <;> omega
   ·
    have dx : decide ((i : Int) < (xl.length : Int)) = false := decide_eq_false om
    have dy : decide ((i : Int) < (yl.length : Int)) = false := decide_eq_false om
    have dx' : decide (i < xl.length) = false := decide_eq_false om
    have dy' : decide (i < yl.length) = false := decide_eq_false om
    have hv := HI.out.done om om
    rw [hx.val, hy.val] at hv
    have hcc : IntKind.u32.wrap (c : Int) = (c : Int) := by rw [IntKind.wrap_u32]; omega
    have bqg : (c : Int) % 4294967296 = (c : Int) := by omega
    have hlt := Wd.Yx HI.out.lt (show c < eu by rw [gp]; omega)
    have HV := Lib.hid hv; have vo := hide hlt
    clear hv hlt Rw Ii hx0 hy0 Fg Mg hs1 hs hd hq hst yo Ch hsB agm amn b64 Mk hmk' hz0 hz2 e1 e2 e3 e4 e5 e5' e6 HST
    go_wp2_with (first | (at_builtin; refine wpList_append_fits _ rfl _ _ 59 rfl w.heap.size 156 i0 1 Tryz.underlying59 hi0 hz1 w.heap.size _ C (yh .u32 l) rfl (hown.alloc _) ⟨_, 0, none⟩ 1 1 [.int .u32 ((c : Nat) : Int)] rfl rfl (one_cell _ _ _) (Oj _) om ?_; intro w1 hown1 hgrow1) | fail)
    obtain ⟨r1, r2⟩ := Dx rfl (hg.alloc hsz _) (by simp <;> omega) hown1 hgrow1
    have hlen : i + 1 = (l ++ [c]).length := by simp; omega
    obtain ⟨hws, hcap, hmax⟩ := apv hlen r1 (afp r1)
    have htr := Ck (some ⟨w.heap.size, 0, none⟩) C (l ++ [c]) w1.heap.size w1 hws hcap (by have := HC.out; omega)
    rw [← hlen] at htr
    have HTR := hide htr; have HWS := hide hws
    clear hown1 hgrow1 hown hg r1 htr hws hcap hmax
    go_wp2_with fail
    refine (aa HTR).mono ?_
    rintro e w' ⟨⟨k, rfl, ht, hk2⟩, rfl⟩
    dsimp only
    go_wp2_with fail
    go_ret
    have hk3 : k = ((l ++ [c]).take k).length := by rw [List.length_take]; omega
    refine ⟨some ⟨w.heap.size, 0, none⟩, C, (l ++ [c]).take k, Fa hk3, ?_, r2⟩
    have := qo.aah (cap := C) (aa HWS) (aa vo) ht om om (by have := HC.out; omega)
    rwa [HV.out] at this

end Go.Proofs.YtjdnmdlnaoedoaaGreatDoor
namespace Go.Proofs.YtjdnmdlnaoedoaaGreatDoor
open Go.RowKit

theorem aqb {x b : Nat} (hx : x < eu) (hb : b ≤ 1) (y : Nat) (hy : y < eu) : ∃ (t v d b' : Nat), IntKind.u64.wrap ((x : Int) - (b : Int)) = (t : Int) ∧ IntKind.u64.wrap ((t : Int) - (y : Int)) = (v : Int) ∧ IntKind.u32.wrap (v : Int) = (d : Int) ∧ (v : Int) % 4294967296 = (d : Int) ∧ (v : Int) / 9223372036854775808 = (b' : Int) ∧ d < eu ∧ b' ≤ 1 ∧ d + y + b = x + eu * b' ∧ (y = 0 → v = t) ∧ t < fo := by
 simp only [IntKind.wrap_u64, IntKind.wrap_u32]
 rw [gp] at *
 rw [ic]
 by_cases h1 : b ≤ x
 ·
  by_cases h2 : b + y ≤ x
  ·
   exact ⟨x - b, x - b - y, x - b - y, 0, by omega, by omega, by omega, by omega, by omega, by omega, by omega, by omega, by omega, by omega⟩
  ·
   exact ⟨x - b, 18446744073709551616 + x - b - y, 4294967296 + x - b - y, 1, by omega, by omega, by omega, by omega, by omega, by omega, by omega, by omega, by omega, by omega⟩
 ·
  exact ⟨18446744073709551616 + x - b, 18446744073709551616 + x - b - y, 4294967296 + x - b - y, 1, by omega, by omega, by omega, by omega, by omega, by omega, by omega, by omega, by omega, by omega⟩

theorem acv (Ax Ay : Option Addr) (cx cy : Nat) (xl yl : List Nat) (n m : Nat) (w : World) (hx : qo w Ax cx xl n) (hy : qo w Ay cy yl m) (hk : xl.length ≤ 35184372088832) (hle : m ≤ n) :
  Calls Tryz.prog 163 #[.slice Ax xl.length cx, .slice Ay yl.length cy] w fun e w' => ank w (n - m) e w' := by
 have hyx : yl.length ≤ xl.length := hy.len (Nat.lt_of_le_of_lt hle hx.Mc)
 have hmk := ada xl.length hk
 have aax := afo w xl.length hk 156
 obtain ⟨C, hC⟩ : ∃ C, C = xl.length := ⟨_, rfl⟩
 have Mk : (w.alloc (.cells (wz .u32 (List.replicate xl.length 0)) 156)).ownsRow w.heap.size 156 1 (.slice (some ⟨w.heap.size, 0, none⟩) 0 C) 0 (yh .u32 []) := by rw [hC]; exact aax
 have hmk' : ∀ W : World, (Instr.makeSlice 59 (.int .i64 0) (.int .i64 (xl.length : Int))).run Tryz.prog W = .ok (.slice (some ⟨W.heap.size, 0, none⟩) 0 C) (W.alloc (.cells (wz .u32 (List.replicate xl.length 0)) 156)) := by rw [hC]; exact hmk
 have HC := Lib.hid hC
 clear hmk aax hC
 obtain ⟨i0, hi0, hz0, hz1, hz2⟩ := info_parts aat
 have hx1 := hx.tu; have hx2 := hx.cap2; have hy1 := hy.tu; have hy2 := hy.cap2
 go_enter Tryz.func163, Tryz.ntmps163
 go_wp2_with fail
 go_loopw [5, 6, 7] (fun ov cv iv wr => ∃ (i c : Nat) (l : List Nat), i ≤ xl.length ∧ ov = .slice (some ⟨w.heap.size, 0, none⟩) i C ∧ cv = .int .u64 ((c : Nat) : Int) ∧ iv = .int .i64 ((i : Nat) : Int) ∧ Hid (Wd.Ia eu xl yl l i c) ∧ wr.ownsRow w.heap.size 156 1 (.slice (some ⟨w.heap.size, 0, none⟩) i C) i (yh .u32 l) ∧ Below w.heap.size w wr) (fun _ _ iv _ => xl.length - (intOf iv).toNat)
 case atStart => exact ⟨0, 0, [], Nat.zero_le _, rfl, rfl, rfl, Wd.Ia.start _ _ _, Mk, (Below.refl _ _).alloc (Nat.le_refl _) _⟩
 case round =>
  obtain ⟨i, c, l, hi, rfl, rfl, rfl, HI, hown, hg⟩ := hrel
  have hli := HI.out.len
  have hgl := afp hown
  have hsz := hg.size
  clear Mk hmk'
  by_cases hlx : i < xl.length
  ·
   have dx : decide ((i : Int) < (xl.length : Int)) = true := decide_eq_true om
   have dx' : decide (i < xl.length) = true := decide_eq_true om
   have hCi : i + 1 ≤ C := by have := HC.out; omega
   have hcB := HI.out.b1
   obtain ⟨x, Fg⟩ : ∃ x, x = Wd.g xl i := ⟨_, rfl⟩
   obtain ⟨y, Mg⟩ : ∃ y, y = Wd.g yl i := ⟨_, rfl⟩
   have yo : x < eu := by rw [Fg]; exact Wd.getD_lt (by rw [gp]; omega) _ hx.lt i
   have Ch : y < eu := by rw [Mg]; exact Wd.getD_lt (by rw [gp]; omega) _ hy.lt i
   have b64 : ∀ t : Nat, t < eu → t < fo := fun t ht => by rw [gp] at ht; rw [ic]; omega
   have e1 : IntKind.u64.wrap (x : Int) = (x : Int) := jf rfl (b64 _ yo)
   have e2 : IntKind.u64.wrap (y : Int) = (y : Int) := jf rfl (b64 _ Ch)
   obtain ⟨t, v, d, b', e3, e4, e5, e5', e6, hdB, hb', heq, hv0, Ul⟩ := aqb yo hcB y Ch
   have hst := HI.out.step (by rw [← Wd.qz]; exact Fg) (by rw [← Wd.qz]; exact Mg) hdB hb' heq
   have HST := hide hst
   obtain ⟨bx, ox, rfl, hbx, hcx⟩ := hx.ws om
   have Eo : wr.cell? ⟨bx, ox + i, none⟩ = some (.int .u32 (x : Int)) := by rw [Fg]; exact (hg.cell (p := ⟨bx, ox + i, none⟩) hbx).trans (hcx i hlx)
   have hy0 : ¬ i < yl.length → y = 0 := fun h => by rw [Mg]; simp [Wd.g, List.getD, h]
   have Ii : i < yl.length → ∃ b o, Ay = some ⟨b, o, none⟩ ∧ wr.cell? ⟨b, o + i, none⟩ = some (.int .u32 (y : Int)) := fun h => by
    obtain ⟨b, o, rfl, hbb, hc⟩ := hy.ws om
    exact ⟨b, o, rfl, by rw [Mg]; exact (hg.cell (p := ⟨b, o + i, none⟩) hbb).trans (hc i h)⟩
   clear hcx Fg Mg hst heq hdB b64 yo Ch hz0 hz2
   by_cases hly : i < yl.length
   ·
    have dy : decide ((i : Int) < (yl.length : Int)) = true := decide_eq_true om
    have dy' : decide (i < yl.length) = true := decide_eq_true om
    obtain ⟨by', oy, rfl, Pm⟩ := Ii om
    clear Ii hy0 hv0
    go_wp2_with (first | (at_builtin; refine wpList_append_fits _ rfl _ _ 59 rfl w.heap.size 156 i0 1 Tryz.underlying59 hi0 hz1 w.heap.size _ C (yh .u32 l) rfl (hown.alloc _) ⟨_, 0, none⟩ 1 1 [.int .u32 ((d : Nat) : Int)] rfl rfl (one_cell _ _ _) (Oj _) om ?_; intro w1 hown1 hgrow1) | fail)
    obtain ⟨r1, r2⟩ := Dx rfl (hg.alloc hsz _) (by simp <;> omega) hown1 hgrow1
    clear hown1 hgrow1 hown hg
    go_wp2_with fail
    go_roundw
    case rel => exact ⟨i + 1, b', l ++ [d], by omega, rfl, rfl, by go_num, aa HST, r1, r2⟩
    case measure => simp [intOf] <;> omega
   ·
    have dy : decide ((i : Int) < (yl.length : Int)) = false := decide_eq_false om
    have dy' : decide (i < yl.length) = false := decide_eq_false om
    obtain rfl : v = t := hv0 (hy0 om)
    clear Ii hy0 hv0
    go_wp2_with (first | (at_builtin; refine wpList_append_fits _ rfl _ _ 59 rfl w.heap.size 156 i0 1 Tryz.underlying59 hi0 hz1 w.heap.size _ C (yh .u32 l) rfl (hown.alloc _) ⟨_, 0, none⟩ 1 1 [.int .u32 ((d : Nat) : Int)] rfl rfl (one_cell _ _ _) (Oj _) om ?_; intro w1 hown1 hgrow1) | fail)
    obtain ⟨r1, r2⟩ := Dx rfl (hg.alloc hsz _) (by simp <;> omega) hown1 hgrow1
    clear hown1 hgrow1 hown hg
    go_wp2_with fail
    go_roundw
    case rel => exact ⟨i + 1, b', l ++ [d], by omega, rfl, rfl, by go_num, aa HST, r1, r2⟩
    case measure => simp [intOf] <;> omega
  ·
   have e : i = xl.length := by omega
   subst e
   have hv := HI.out.done rfl hyx (by rw [hx.val, hy.val]; exact hle)
   rw [hx.val, hy.val] at hv
   have HV := Lib.hid hv; have vo := hide HI.out.lt
   obtain ⟨hws, hcap, hmax⟩ := apv hli.symm hown hgl
   have htr := Ck (some ⟨w.heap.size, 0, none⟩) C l wr.heap.size wr hws hcap (by have := HC.out; omega)
   rw [hli] at htr
   have HTR := hide htr; have HWS := hide hws
   clear hv hown htr hws hmax hz0 hz2
   go_wp2_with fail
   refine (aa HTR).mono ?_
   rintro e w' ⟨⟨k, rfl, ht, hk2⟩, rfl⟩
   dsimp only
   go_wp2_with fail
   go_ret
   have hk3 : k = (l.take k).length := by rw [List.length_take]; omega
   refine ⟨some ⟨w.heap.size, 0, none⟩, C, l.take k, Fa hk3, ?_, hg⟩
   have := qo.aah (cap := C) (aa HWS) (aa vo) ht om (by have := HC.out; omega) (by have := HC.out; omega)
   rwa [HV.out] at this
end Go.Proofs.YtjdnmdlnaoedoaaGreatDoor
namespace Go.Proofs.YtjdnmdlnaoedoaaGreatDoor
open Go.RowKit

theorem add_same {z1 z2 : Int} {m : Bool} (h1 : m = decide (z1 < 0)) (h2 : m = decide (z2 < 0)) : (if m then -((z1.natAbs + z2.natAbs : Nat) : Int) else ((z1.natAbs + z2.natAbs : Nat) : Int)) = z1 + z2 := by
 subst h1
 by_cases a : z1 < 0 <;> by_cases b : z2 < 0 <;> simp [a, b] at h2 ⊢ <;> omega
theorem adw {z1 z2 : Int} {m m' : Bool} (hne : m ≠ m') (h1 : m = decide (z1 < 0)) (h2 : m' = decide (z2 < 0)) (h : z2.natAbs ≤ z1.natAbs) : (if m then -((z1.natAbs - z2.natAbs : Nat) : Int) else ((z1.natAbs - z2.natAbs : Nat) : Int)) = z1 + z2 := by
 subst h1 h2
 by_cases a : z1 < 0 <;> by_cases b : z2 < 0 <;> simp [a, b] at hne ⊢ <;> omega

theorem aof (A1 : Option Addr) (c1 : Nat) (l1 : List Nat) (m1 : Bool) (z1 : Int) (A2 : Option Addr) (c2 : Nat) (l2 : List Nat) (m2 : Bool) (z2 : Int) (w : World) (h1 : ik w A1 c1 l1 m1 z1) (h2 : ik w A2 c2 l2 m2 z2) (hk : l1.length + l2.length + 1 ≤ 35184372088832) (hs : m1 = m2) :
  Calls Tryz.prog 119 #[.agg #[.slice A1 l1.length c1, .bool m1], .agg #[.slice A2 l2.length c2, .bool m2]] w fun e w' => Ba w (z1 + z2) e w' := by
 have hv := add_same h1.sign (hs ▸ h2.sign)
 have SG : (m1 == m2) = true := by rw [hs]; exact beq_self_eq_true _
 have HT := hide (fun W (hW : Below w.heap.size w W) => acu A1 A2 c1 c2 l1 l2 z1.natAbs z2.natAbs W (h1.nat.below hW) (h2.nat.below hW) om om)
 obtain ⟨p, hp⟩ : ∃ p, p = z1.natAbs + z2.natAbs := ⟨_, rfl⟩
 obtain ⟨z, hz⟩ : ∃ z, z = z1 + z2 := ⟨_, rfl⟩
 rw [← hp] at HT hv
 rw [← hz] at hv ⊢
 have HV := Lib.hid hv
 clear h1 h2 hk hp hz hv hs
 go_enter Tryz.func119, Tryz.ntmps119
 go_wp2_with fail
 obtain ⟨n0, n1, n2, hsz, hw0⟩ := nu w (.cells #[.slice A1 l1.length c1, .bool m1] 61) (.cells #[.slice A2 l2.length c2, .bool m2] 61) (.cells #[.slice none 0 0, .bool false] 61)
 generalize (((w.alloc (.cells #[.slice A1 l1.length c1, .bool m1] 61)).alloc (.cells #[.slice A2 l2.length c2, .bool m2] 61)).alloc (.cells #[.slice none 0 0, .bool false] 61)) = W0 at *
 have q0 := lt_of_block n0; have q1 := lt_of_block n1; have q2 := lt_of_block n2
 have KEEP : ∀ X, Below W0.heap.size W0 X → (fun w' => w'.cell? ⟨w.heap.size, 0, none⟩ = some (.slice A1 l1.length c1) ∧ w'.cell? ⟨w.heap.size, 1, none⟩ = some (.bool m1) ∧ w'.cell? ⟨w.heap.size + 1, 0, none⟩ = some (.slice A2 l2.length c2) ∧ w'.cell? ⟨w.heap.size + 1, 1, none⟩ = some (.bool m2)) X := fun X hX => ⟨(hX.cell (p := ⟨w.heap.size, 0, none⟩) q0).trans (ah n0 0), (hX.cell (p := ⟨w.heap.size, 1, none⟩) q0).trans (ah n0 1), (hX.cell (p := ⟨w.heap.size + 1, 0, none⟩) q1).trans (ah n1 0), (hX.cell (p := ⟨w.heap.size + 1, 1, none⟩) q1).trans (ah n1 1)⟩
 obtain ⟨k0, k1, k2, k3⟩ := KEEP W0 (Below.refl _ _)
 have r0 : W0.cell? ⟨w.heap.size + 1 + 1, 0, none⟩ = some (.slice none 0 0) := ah n2 0
 have r1 : W0.cell? ⟨w.heap.size + 1 + 1, 1, none⟩ = some (.bool false) := ah n2 1
 have f0 := bf n2 0
 have f1 := bf n2 1
 have NR := Lib.hid n2; have HKE := hide KEEP
 clear n0 n1 n2 hsz KEEP
 go_wp2_with fail
 go_region_held3 (fun w' => w'.cell? ⟨w.heap.size, 0, none⟩ = some (.slice A1 l1.length c1) ∧ w'.cell? ⟨w.heap.size, 1, none⟩ = some (.bool m1) ∧ w'.cell? ⟨w.heap.size + 1, 0, none⟩ = some (.slice A2 l2.length c2) ∧ w'.cell? ⟨w.heap.size + 1, 1, none⟩ = some (.bool m2)) (first | with_reducible exact ⟨(zh _ _ _ _ om).trans ((hc _ _ q0).trans k0), (zh _ _ _ _ om).trans ((hc _ _ q0).trans k1), (zh _ _ _ _ om).trans ((hc _ _ q1).trans k2), (zh _ _ _ _ om).trans ((hc _ _ q1).trans k3)⟩ | exact (aa HKE) _ (by (first | with_reducible assumption | (repeat (first | with_reducible exact Below.refl _ _ | with_reducible assumption | refine Below.drew ?_ | (refine Below.alloc ?_ (by simp <;> omega) _) | refine qb ?_ _))))) (first | (go_at_call 161; refine ((aa HT) _ (bz hw0 (by (first | with_reducible assumption | (repeat (first | with_reducible exact Below.refl _ _ | with_reducible assumption | refine Below.drew ?_ | (refine Below.alloc ?_ (by simp <;> omega) _) | refine qb ?_ _)))))).mono ?_; rintro e w' ⟨A5, c5, l5, rfl, yw, hb⟩; have hbw := cu (w := W0) (by (first | with_reducible assumption | (repeat (first | with_reducible exact Below.refl _ _ | with_reducible assumption | refine Below.drew ?_ | (refine Below.alloc ?_ (by simp <;> omega) _) | refine qb ?_ _)))) hb; obtain ⟨hc, hfz⟩ := fu hbw) | (go_at_call 159; refine (Ah A5 c5 l5 p m1 _ (by exact yw)).mono ?_; rw [HV.out]; rintro e w' ⟨A6, c6, l6, m6, rfl, Cr, hb⟩; have hbw := cu (w := W0) (by (first | with_reducible assumption | (repeat (first | with_reducible exact Below.refl _ _ | with_reducible assumption | refine Below.drew ?_ | (refine Below.alloc ?_ (by simp <;> omega) _) | refine qb ?_ _)))) hb; obtain ⟨hc, hfz⟩ := fu hbw))
 all_goals
  have hblk : w'.heap[w.heap.size + 1 + 1]? = some (.cells #[.slice none 0 0, .bool false] 61 (0, 0)) := (hbw.block _ q2).trans NR.out
  have kg := Lib.hid hblk
  have jh : Below w.heap.size w w' := bz hw0 hbw
  clear hblk
  go_wp2_with fail
  exact bodyPost_ret (v := .agg #[.slice A6 l6.length c6, .bool m6]) (by simp [results, Tryz.results119, go_sem, hc, r0, r1, q2]) rfl
   ⟨A6, c6, l6, m6, rfl, Cr.upto kg.out (Ec _ _ _ _) (lg _ _ _ _), jh.grown (lg _ _ _ _) jh.size (fun k hk => by injection hk with hk; omega)⟩

theorem ayh (A1 : Option Addr) (c1 : Nat) (l1 : List Nat) (m1 : Bool) (z1 : Int) (A2 : Option Addr) (c2 : Nat) (l2 : List Nat) (m2 : Bool) (z2 : Int) (w : World) (h1 : ik w A1 c1 l1 m1 z1) (h2 : ik w A2 c2 l2 m2 z2) (hk : l1.length + l2.length + 1 ≤ 35184372088832) (hs : m1 ≠ m2) (ho : z2.natAbs ≤ z1.natAbs) :
  Calls Tryz.prog 119 #[.agg #[.slice A1 l1.length c1, .bool m1], .agg #[.slice A2 l2.length c2, .bool m2]] w fun e w' => Ba w (z1 + z2) e w' := by
 have hv := adw hs h1.sign h2.sign ho
 have HT := hide (fun W (hW : Below w.heap.size w W) => acv A1 A2 c1 c2 l1 l2 z1.natAbs z2.natAbs W (h1.nat.below hW) (h2.nat.below hW) om ho)
 have ho3 : 0 ≤ uk z1.natAbs z2.natAbs := by unfold uk; (repeat' split) <;> omega
 have SG : (m1 == m2) = false := beq_eq_false_iff_ne.2 hs
 have HO := hide (fun W (hW : Below w.heap.size w W) => Hf A1 A2 c1 c2 l1 l2 z1.natAbs z2.natAbs W (h1.nat.below hW) (h2.nat.below hW))
 obtain ⟨o, hoo⟩ : ∃ o, o = uk z1.natAbs z2.natAbs := ⟨_, rfl⟩
 rw [← hoo] at HO ho3
 have d1 : decide ((0 : Int) ≤ o) = true := decide_eq_true ho3
 obtain ⟨p, hp⟩ : ∃ p, p = z1.natAbs - z2.natAbs := ⟨_, rfl⟩
 obtain ⟨z, hz⟩ : ∃ z, z = z1 + z2 := ⟨_, rfl⟩
 rw [← hp] at HT hv
 rw [← hz] at hv ⊢
 have HV := Lib.hid hv
 clear h1 h2 hk hp hz hv hs ho ho3 hoo
 go_enter Tryz.func119, Tryz.ntmps119
 go_wp2_with fail
 obtain ⟨n0, n1, n2, hsz, hw0⟩ := nu w (.cells #[.slice A1 l1.length c1, .bool m1] 61) (.cells #[.slice A2 l2.length c2, .bool m2] 61) (.cells #[.slice none 0 0, .bool false] 61)
 generalize (((w.alloc (.cells #[.slice A1 l1.length c1, .bool m1] 61)).alloc (.cells #[.slice A2 l2.length c2, .bool m2] 61)).alloc (.cells #[.slice none 0 0, .bool false] 61)) = W0 at *
 have q0 := lt_of_block n0; have q1 := lt_of_block n1; have q2 := lt_of_block n2
 have KEEP : ∀ X, Below W0.heap.size W0 X → (fun w' => w'.cell? ⟨w.heap.size, 0, none⟩ = some (.slice A1 l1.length c1) ∧ w'.cell? ⟨w.heap.size, 1, none⟩ = some (.bool m1) ∧ w'.cell? ⟨w.heap.size + 1, 0, none⟩ = some (.slice A2 l2.length c2) ∧ w'.cell? ⟨w.heap.size + 1, 1, none⟩ = some (.bool m2)) X := fun X hX => ⟨(hX.cell (p := ⟨w.heap.size, 0, none⟩) q0).trans (ah n0 0), (hX.cell (p := ⟨w.heap.size, 1, none⟩) q0).trans (ah n0 1), (hX.cell (p := ⟨w.heap.size + 1, 0, none⟩) q1).trans (ah n1 0), (hX.cell (p := ⟨w.heap.size + 1, 1, none⟩) q1).trans (ah n1 1)⟩
 obtain ⟨k0, k1, k2, k3⟩ := KEEP W0 (Below.refl _ _)
 have r0 : W0.cell? ⟨w.heap.size + 1 + 1, 0, none⟩ = some (.slice none 0 0) := ah n2 0
 have r1 : W0.cell? ⟨w.heap.size + 1 + 1, 1, none⟩ = some (.bool false) := ah n2 1
 have f0 := bf n2 0
 have f1 := bf n2 1
 have NR := Lib.hid n2; have HKE := hide KEEP
 clear n0 n1 n2 hsz KEEP
 go_wp2_with fail
 refine ((aa HO) _ hw0).mono ?_
 rintro e w1 ⟨rfl, hw1⟩
 obtain ⟨kk, rfl⟩ := hw1
 have hk0 : Below W0.heap.size W0 (W0.drewN kk) := qb (Below.refl _ _) kk
 go_wp2_with fail
 go_region_held3 (fun w' => w'.cell? ⟨w.heap.size, 0, none⟩ = some (.slice A1 l1.length c1) ∧ w'.cell? ⟨w.heap.size, 1, none⟩ = some (.bool m1) ∧ w'.cell? ⟨w.heap.size + 1, 0, none⟩ = some (.slice A2 l2.length c2) ∧ w'.cell? ⟨w.heap.size + 1, 1, none⟩ = some (.bool m2)) (first | with_reducible exact ⟨(zh _ _ _ _ om).trans ((hc _ _ q0).trans k0), (zh _ _ _ _ om).trans ((hc _ _ q0).trans k1), (zh _ _ _ _ om).trans ((hc _ _ q1).trans k2), (zh _ _ _ _ om).trans ((hc _ _ q1).trans k3)⟩ | exact (aa HKE) _ (by (first | with_reducible assumption | (repeat (first | with_reducible exact Below.refl _ _ | with_reducible assumption | refine Below.drew ?_ | (refine Below.alloc ?_ (by simp <;> omega) _) | refine qb ?_ _))))) (first | (go_at_call 163; refine ((aa HT) _ (bz hw0 (by (first | with_reducible assumption | (repeat (first | with_reducible exact Below.refl _ _ | with_reducible assumption | refine Below.drew ?_ | (refine Below.alloc ?_ (by simp <;> omega) _) | refine qb ?_ _)))))).mono ?_; rintro e w' ⟨A5, c5, l5, rfl, yw, hb⟩; have hbw := cu (w := W0) (by (first | with_reducible assumption | (repeat (first | with_reducible exact Below.refl _ _ | with_reducible assumption | refine Below.drew ?_ | (refine Below.alloc ?_ (by simp <;> omega) _) | refine qb ?_ _)))) hb; obtain ⟨hc, hfz⟩ := fu hbw) | (go_at_call 159; refine (Ah A5 c5 l5 p m1 _ (by exact yw)).mono ?_; rw [HV.out]; rintro e w' ⟨A6, c6, l6, m6, rfl, Cr, hb⟩; have hbw := cu (w := W0) (by (first | with_reducible assumption | (repeat (first | with_reducible exact Below.refl _ _ | with_reducible assumption | refine Below.drew ?_ | (refine Below.alloc ?_ (by simp <;> omega) _) | refine qb ?_ _)))) hb; obtain ⟨hc, hfz⟩ := fu hbw))
 all_goals
  have hblk : w'.heap[w.heap.size + 1 + 1]? = some (.cells #[.slice none 0 0, .bool false] 61 (0, 0)) := (hbw.block _ q2).trans NR.out
  have kg := Lib.hid hblk
  have jh : Below w.heap.size w w' := bz hw0 hbw
  clear hblk
  go_wp2_with fail
  exact bodyPost_ret (v := .agg #[.slice A6 l6.length c6, .bool m6]) (by simp [results, Tryz.results119, go_sem, hc, r0, r1, q2]) rfl
   ⟨A6, c6, l6, m6, rfl, Cr.upto kg.out (Ec _ _ _ _) (lg _ _ _ _), jh.grown (lg _ _ _ _) jh.size (fun k hk => by injection hk with hk; omega)⟩

theorem ayg (A1 : Option Addr) (c1 : Nat) (l1 : List Nat) (m1 : Bool) (z1 : Int) (A2 : Option Addr) (c2 : Nat) (l2 : List Nat) (m2 : Bool) (z2 : Int) (w : World) (h1 : ik w A1 c1 l1 m1 z1) (h2 : ik w A2 c2 l2 m2 z2) (hk : l1.length + l2.length + 1 ≤ 35184372088832) (hs : m1 ≠ m2) (ho : ¬ z2.natAbs ≤ z1.natAbs) :
  Calls Tryz.prog 119 #[.agg #[.slice A1 l1.length c1, .bool m1], .agg #[.slice A2 l2.length c2, .bool m2]] w fun e w' => Ba w (z1 + z2) e w' := by
 have hv := adw (Ne.symm hs) h2.sign h1.sign om
 rw [Int.add_comm z2 z1] at hv
 have HT := hide (fun W (hW : Below w.heap.size w W) => acv A2 A1 c2 c1 l2 l1 z2.natAbs z1.natAbs W (h2.nat.below hW) (h1.nat.below hW) om om)
 have ho3 : ¬ 0 ≤ uk z1.natAbs z2.natAbs := by unfold uk; (repeat' split) <;> omega
 have SG : (m1 == m2) = false := beq_eq_false_iff_ne.2 hs
 have HO := hide (fun W (hW : Below w.heap.size w W) => Hf A1 A2 c1 c2 l1 l2 z1.natAbs z2.natAbs W (h1.nat.below hW) (h2.nat.below hW))
 obtain ⟨o, hoo⟩ : ∃ o, o = uk z1.natAbs z2.natAbs := ⟨_, rfl⟩
 rw [← hoo] at HO ho3
 have d1 : decide ((0 : Int) ≤ o) = false := decide_eq_false ho3
 obtain ⟨p, hp⟩ : ∃ p, p = z2.natAbs - z1.natAbs := ⟨_, rfl⟩
 obtain ⟨z, hz⟩ : ∃ z, z = z1 + z2 := ⟨_, rfl⟩
 rw [← hp] at HT hv
 rw [← hz] at hv ⊢
 have HV := Lib.hid hv
 clear h1 h2 hk hp hz hv hs ho ho3 hoo
 go_enter Tryz.func119, Tryz.ntmps119
 go_wp2_with fail
 obtain ⟨n0, n1, n2, hsz, hw0⟩ := nu w (.cells #[.slice A1 l1.length c1, .bool m1] 61) (.cells #[.slice A2 l2.length c2, .bool m2] 61) (.cells #[.slice none 0 0, .bool false] 61)
 generalize (((w.alloc (.cells #[.slice A1 l1.length c1, .bool m1] 61)).alloc (.cells #[.slice A2 l2.length c2, .bool m2] 61)).alloc (.cells #[.slice none 0 0, .bool false] 61)) = W0 at *
 have q0 := lt_of_block n0; have q1 := lt_of_block n1; have q2 := lt_of_block n2
 have KEEP : ∀ X, Below W0.heap.size W0 X → (fun w' => w'.cell? ⟨w.heap.size, 0, none⟩ = some (.slice A1 l1.length c1) ∧ w'.cell? ⟨w.heap.size, 1, none⟩ = some (.bool m1) ∧ w'.cell? ⟨w.heap.size + 1, 0, none⟩ = some (.slice A2 l2.length c2) ∧ w'.cell? ⟨w.heap.size + 1, 1, none⟩ = some (.bool m2)) X := fun X hX => ⟨(hX.cell (p := ⟨w.heap.size, 0, none⟩) q0).trans (ah n0 0), (hX.cell (p := ⟨w.heap.size, 1, none⟩) q0).trans (ah n0 1), (hX.cell (p := ⟨w.heap.size + 1, 0, none⟩) q1).trans (ah n1 0), (hX.cell (p := ⟨w.heap.size + 1, 1, none⟩) q1).trans (ah n1 1)⟩
 obtain ⟨k0, k1, k2, k3⟩ := KEEP W0 (Below.refl _ _)
 have r0 : W0.cell? ⟨w.heap.size + 1 + 1, 0, none⟩ = some (.slice none 0 0) := ah n2 0
 have r1 : W0.cell? ⟨w.heap.size + 1 + 1, 1, none⟩ = some (.bool false) := ah n2 1
 have f0 := bf n2 0
 have f1 := bf n2 1
 have NR := Lib.hid n2; have HKE := hide KEEP
 clear n0 n1 n2 hsz KEEP
 go_wp2_with fail
 refine ((aa HO) _ hw0).mono ?_
 rintro e w1 ⟨rfl, hw1⟩
 obtain ⟨kk, rfl⟩ := hw1
 have hk0 : Below W0.heap.size W0 (W0.drewN kk) := qb (Below.refl _ _) kk
 go_wp2_with fail
 go_region_held3 (fun w' => w'.cell? ⟨w.heap.size, 0, none⟩ = some (.slice A1 l1.length c1) ∧ w'.cell? ⟨w.heap.size, 1, none⟩ = some (.bool m1) ∧ w'.cell? ⟨w.heap.size + 1, 0, none⟩ = some (.slice A2 l2.length c2) ∧ w'.cell? ⟨w.heap.size + 1, 1, none⟩ = some (.bool m2)) (first | with_reducible exact ⟨(zh _ _ _ _ om).trans ((hc _ _ q0).trans k0), (zh _ _ _ _ om).trans ((hc _ _ q0).trans k1), (zh _ _ _ _ om).trans ((hc _ _ q1).trans k2), (zh _ _ _ _ om).trans ((hc _ _ q1).trans k3)⟩ | exact (aa HKE) _ (by (first | with_reducible assumption | (repeat (first | with_reducible exact Below.refl _ _ | with_reducible assumption | refine Below.drew ?_ | (refine Below.alloc ?_ (by simp <;> omega) _) | refine qb ?_ _))))) (first | (go_at_call 163; refine ((aa HT) _ (bz hw0 (by (first | with_reducible assumption | (repeat (first | with_reducible exact Below.refl _ _ | with_reducible assumption | refine Below.drew ?_ | (refine Below.alloc ?_ (by simp <;> omega) _) | refine qb ?_ _)))))).mono ?_; rintro e w' ⟨A5, c5, l5, rfl, yw, hb⟩; have hbw := cu (w := W0) (by (first | with_reducible assumption | (repeat (first | with_reducible exact Below.refl _ _ | with_reducible assumption | refine Below.drew ?_ | (refine Below.alloc ?_ (by simp <;> omega) _) | refine qb ?_ _)))) hb; obtain ⟨hc, hfz⟩ := fu hbw) | (go_at_call 159; refine (Ah A5 c5 l5 p m2 _ (by exact yw)).mono ?_; rw [HV.out]; rintro e w' ⟨A6, c6, l6, m6, rfl, Cr, hb⟩; have hbw := cu (w := W0) (by (first | with_reducible assumption | (repeat (first | with_reducible exact Below.refl _ _ | with_reducible assumption | refine Below.drew ?_ | (refine Below.alloc ?_ (by simp <;> omega) _) | refine qb ?_ _)))) hb; obtain ⟨hc, hfz⟩ := fu hbw))
 all_goals
  have hblk : w'.heap[w.heap.size + 1 + 1]? = some (.cells #[.slice none 0 0, .bool false] 61 (0, 0)) := (hbw.block _ q2).trans NR.out
  have kg := Lib.hid hblk
  have jh : Below w.heap.size w w' := bz hw0 hbw
  clear hblk
  go_wp2_with fail
  exact bodyPost_ret (v := .agg #[.slice A6 l6.length c6, .bool m6]) (by simp [results, Tryz.results119, go_sem, hc, r0, r1, q2]) rfl
   ⟨A6, c6, l6, m6, rfl, Cr.upto kg.out (Ec _ _ _ _) (lg _ _ _ _), jh.grown (lg _ _ _ _) jh.size (fun k hk => by injection hk with hk; omega)⟩

theorem ass (A1 : Option Addr) (c1 : Nat) (l1 : List Nat) (m1 : Bool) (z1 : Int) (A2 : Option Addr) (c2 : Nat) (l2 : List Nat) (m2 : Bool) (z2 : Int) (w : World) (h1 : ik w A1 c1 l1 m1 z1) (h2 : ik w A2 c2 l2 m2 z2) (hk : l1.length + l2.length + 1 ≤ 35184372088832) :
  Calls Tryz.prog 119 #[.agg #[.slice A1 l1.length c1, .bool m1], .agg #[.slice A2 l2.length c2, .bool m2]] w fun e w' => Ba w (z1 + z2) e w' := by
 by_cases hs : m1 = m2
 ·
  exact aof A1 c1 l1 m1 z1 A2 c2 l2 m2 z2 w h1 h2 hk hs
 ·
  by_cases ho : z2.natAbs ≤ z1.natAbs
  ·
   exact ayh A1 c1 l1 m1 z1 A2 c2 l2 m2 z2 w h1 h2 hk hs ho
  ·
   exact ayg A1 c1 l1 m1 z1 A2 c2 l2 m2 z2 w h1 h2 hk hs ho
end Go.Proofs.YtjdnmdlnaoedoaaGreatDoor
namespace Go.Proofs.YtjdnmdlnaoedoaaGreatDoor
open Go.RowKit

structure Sd (Wp W : World) (b : Nat) : Prop where
 old : Wp.heap.size ≤ b
 zero : W.heap[b]? = some (.cells #[.slice none 0 0, .bool false] 61 (0, 0))
theorem Sd.lt {Wp W : World} {b : Nat} (h : Sd Wp W b) : b < W.heap.size := lt_of_block h.zero
theorem Sd.drew {Wp W : World} {b : Nat} (h : Sd Wp W b) : Sd Wp W.drew b := ⟨h.old, h.zero⟩
theorem Sd.below {Wp W w' : World} {b : Nat} (h : Sd Wp W b) (hb : Below W.heap.size W w') : Sd Wp w' b := ⟨h.old, (hb.block _ h.lt).trans h.zero⟩
theorem Sd.new {Wp W : World} {b : Nat} (hb : Below Wp.heap.size Wp W) (e : b = W.heap.size) : Sd Wp (W.alloc (.cells #[.slice none 0 0, .bool false] 61 (0, 0))) b := by
 subst e; exact ⟨hb.size, heap_alloc_new W _⟩
theorem Sd.alloc {Wp W : World} {b : Nat} {o : Obj} (h : Sd Wp W b) : Sd Wp (W.alloc o) b := ⟨h.old, (Below.heap_alloc W _ b h.lt).trans h.zero⟩
theorem Ex.new {W : World} {b : Nat} {A1 : Option Addr} {c1 : Nat} {l1 : List Nat} {m1 : Bool} {z1 : Int} (h1 : ik W A1 c1 l1 m1 z1) (e : b = W.heap.size) : Ex (W.alloc (.cells #[.slice A1 l1.length c1, .bool m1] 61)) b z1 := by
 subst e; exact ⟨A1, c1, l1, m1, heap_alloc_new W _, h1.below ((Below.refl _ _).alloc (Nat.le_refl _) _)⟩
theorem Ex.alloc {W : World} {b : Nat} {z : Int} {o : Obj} (h : Ex W b z) : Ex (W.alloc o) b z := h.below ((Below.refl _ _).alloc (Nat.le_refl _) _)
theorem ik.alloc {W : World} {o : Obj} {A1 : Option Addr} {c1 : Nat} {l1 : List Nat} {m1 : Bool} {z1 : Int} (h1 : ik W A1 c1 l1 m1 z1) : ik (W.alloc o) A1 c1 l1 m1 z1 := h1.below ((Below.refl _ _).alloc (Nat.le_refl _) _)
def awd (w : World) (F : Nat) (a b c : Int) : Prop := ∀ (A1 : Option Addr) (c1 : Nat) (l1 : List Nat) (m1 : Bool) (A2 : Option Addr) (c2 : Nat) (l2 : List Nat) (m2 : Bool) (W : World), Below w.heap.size w W → ik W A1 c1 l1 m1 a → ik W A2 c2 l2 m2 b → Calls Tryz.prog F #[(Value.agg #[.slice A1 l1.length c1, .bool m1]), (Value.agg #[.slice A2 l2.length c2, .bool m2])] W fun e w' => Ba W c e w'
def bey (w : World) (F : Nat) (a b : Int) (q : Rat) : Prop := ∀ (A1 : Option Addr) (c1 : Nat) (l1 : List Nat) (m1 : Bool) (A2 : Option Addr) (c2 : Nat) (l2 : List Nat) (m2 : Bool) (W : World), Below w.heap.size w W → ik W A1 c1 l1 m1 a → ik W A2 c2 l2 m2 b → Calls Tryz.prog F #[(Value.agg #[.slice A1 l1.length c1, .bool m1]), (Value.agg #[.slice A2 l2.length c2, .bool m2])] W fun e w' => QR W q e w'
theorem Fj {w : World} {g : Nat} (u0 u1 u2 u3 : Value) (b o : Nat) (h : b ≠ g) : ((((w.setCell ⟨g, 0, none⟩ u0).setCell ⟨g, 1, none⟩ u1).setCell ⟨g, 2, none⟩ u2).setCell ⟨g, 3, none⟩ u3).cell? ⟨b, o, none⟩ = w.cell? ⟨b, o, none⟩ := by
 rw [Bz _ _ _ _ h, Bz _ _ _ _ h, Bz _ _ _ _ h, Bz _ _ _ _ h]

end Go.Proofs.YtjdnmdlnaoedoaaGreatDoor
namespace Go.Proofs.YtjdnmdlnaoedoaaGreatDoor
open Go.RowKit

theorem Sn (A1 : Option Addr) (c1 : Nat) (l1 : List Nat) (m1 : Bool) (n : Int) (A2 : Option Addr) (c2 : Nat) (l2 : List Nat) (m2 : Bool) (d : Int) (K : Nat) (w : World) (h1 : ik w A1 c1 l1 m1 n) (h2 : ik w A2 c2 l2 m2 d) (hd : d ≠ 0) (hn : n.natAbs < eu ^ K) (hdK : d.natAbs < eu ^ K) (hK : K + 1 ≤ 35184372088832) :
  Calls Tryz.prog 115 #[.agg #[.slice A1 l1.length c1, .bool m1], .agg #[.slice A2 l2.length c2, .bool m2]] w fun e w' => QR w (Rat.divInt n d) e w' := by
 have hl : ¬ l2.length = 0 := fun e => by have := h2.nat.Gm.2 e; omega
 have HI := hide (fun W => Yn A2 c2 l2.length m2 W)
 rw [decide_eq_false hl] at HI
 obtain ⟨n', d', q, hq, hq2, hd', hn', bcz, hneg⟩ : ∃ (n' d' : Int) (q : Rat), q = Rat.divInt n d ∧ q = Rat.divInt n' d' ∧ 0 < d' ∧ n'.natAbs < eu ^ K ∧ d'.natAbs < eu ^ K ∧ ((m2 = true ∧ n' = -n ∧ d' = -d) ∨ (m2 = false ∧ n' = n ∧ d' = d)) := by
  by_cases h : d < 0
  ·
   exact ⟨-n, -d, _, rfl, (aeg n d hd).symm, by omega, by rw [Int.natAbs_neg]; exact hn, by rw [Int.natAbs_neg]; exact hdK, .inl ⟨by rw [h2.sign]; exact decide_eq_true h, rfl, rfl⟩⟩
  ·
   exact ⟨n, d, _, rfl, rfl, by omega, hn, hdK, .inr ⟨by rw [h2.sign]; exact decide_eq_false h, rfl, rfl⟩⟩
 rw [← hq]
 have HQ2 := Lib.hid hq2
 have HDP := hide hd'; have HNK := hide hn'; have HDK := hide bcz; have anm := hide hneg; have HK := hide hK
 have H1 := hide h1; have H2 := hide h2
 have HN1 := hide (fun W (hW : Below w.heap.size w W) => Ym A1 c1 l1 m1 n W (h1.below hW))
 have HN2 := hide (fun W (hW : Below w.heap.size w W) => Ym A2 c2 l2 m2 d W (h2.below hW))
 clear h1 h2 hd hn hdK hl hq hq2 hd' hn' bcz hneg hK
 go_enter Tryz.func115, Tryz.ntmps115
 go_wp2_with fail
 obtain ⟨n0, n1, n2, hsz, hw0⟩ := nu w (.cells #[.slice A1 l1.length c1, .bool m1] 61) (.cells #[.slice A2 l2.length c2, .bool m2] 61) (.cells #[.slice none 0 0, .bool false, .slice none 0 0, .bool false] 63)
 generalize (((w.alloc (.cells #[.slice A1 l1.length c1, .bool m1] 61)).alloc (.cells #[.slice A2 l2.length c2, .bool m2] 61)).alloc (.cells #[.slice none 0 0, .bool false, .slice none 0 0, .bool false] 63)) = W0 at *
 have hS0 : Wq w W0 n d := ⟨⟨_, _, _, _, n0, (aa H1).below hw0⟩, ⟨_, _, _, _, n1, (aa H2).below hw0⟩, n2, hw0⟩
 refine ((aa HI) _).mono ?_
 rintro e W1 ⟨rfl, hb⟩
 have hS1 := hS0.below hb
 have j0 := (hb.block _ (lt_of_block n0)).trans n0
 have j1 := (hb.block _ (lt_of_block n1)).trans n1
 have hw1 := bz hw0 hb
 clear hS0 hb n0 n1 n2 hw0 hsz HI
 have k0 : W1.cell? ⟨w.heap.size, 0, none⟩ = some (.slice A1 l1.length c1) := ah j0 0
 have k1 : W1.cell? ⟨w.heap.size, 1, none⟩ = some (.bool m1) := ah j0 1
 have k2 : W1.cell? ⟨w.heap.size + 1, 0, none⟩ = some (.slice A2 l2.length c2) := ah j1 0
 have k3 : W1.cell? ⟨w.heap.size + 1, 1, none⟩ = some (.bool m2) := ah j1 1
 have HS := hide hS1; have J := hide (And.intro j0 j1); have HW1 := Lib.hid hw1
 clear hS1 hw1 j0 j1
 go_upto_if 14 with (fail)
 go_cut [] (fun wx => Wq w wx n' d')
 case first =>
  rcases aa anm with ⟨e1, e2, e3⟩ | ⟨e1, e2, e3⟩
  ·
   subst e1 e2 e3
   have q0 : w.heap.size < W1.heap.size := lt_of_block (aa J).1
   have q1 : w.heap.size + 1 < W1.heap.size := lt_of_block (aa J).2
   have KEEP : ∀ X, Below W1.heap.size W1 X → (fun w' => w'.cell? ⟨w.heap.size, 0, none⟩ = some (.slice A1 l1.length c1) ∧ w'.cell? ⟨w.heap.size, 1, none⟩ = some (.bool m1) ∧ w'.cell? ⟨w.heap.size + 1, 0, none⟩ = some (.slice A2 l2.length c2) ∧ w'.cell? ⟨w.heap.size + 1, 1, none⟩ = some (.bool true)) X := fun X hX => ⟨(hX.cell (p := ⟨w.heap.size, 0, none⟩) q0).trans k0, (hX.cell (p := ⟨w.heap.size, 1, none⟩) q0).trans k1, (hX.cell (p := ⟨w.heap.size + 1, 0, none⟩) q1).trans k2, (hX.cell (p := ⟨w.heap.size + 1, 1, none⟩) q1).trans k3⟩
   have HKE := hide KEEP
   have f0 := bf (aa J).1 0
   have f1 := bf (aa J).1 1
   have f2 := bf (aa J).2 0
   have f3 := bf (aa J).2 1
   clear anm KEEP
   go_wp2_with fail
   go_region_with (first | (go_at_call_of 156 (Value.agg #[.slice A1 l1.length c1, .bool m1]); refine ((aa HN1) _ (bz HW1.out (by (first | with_reducible assumption | (repeat (first | with_reducible exact Below.refl _ _ | with_reducible assumption | refine Below.drew ?_ | (refine Below.alloc ?_ (by simp <;> omega) _))))))).mono ?_; rintro e w' ⟨A5, c5, l5, m5, rfl, bcx, hb⟩; (try (first | replace yx := ik.below yx hb | replace yx := (ik.below yx (Below.drew (Below.refl _ _))).below hb)); (try (first | replace Cr := ik.below Cr hb | replace Cr := (ik.below Cr (Below.drew (Below.refl _ _))).below hb)); have yx := bcx; clear bcx; have hbw := cu (w := W1) (by (first | with_reducible assumption | (repeat (first | with_reducible exact Below.refl _ _ | with_reducible assumption | refine Below.drew ?_ | (refine Below.alloc ?_ (by simp <;> omega) _))))) hb; obtain ⟨hc, hfz⟩ := fu hbw) | (go_at_call_of 156 (Value.agg #[.slice A2 l2.length c2, .bool true]); refine ((aa HN2) _ (bz HW1.out (by (first | with_reducible assumption | (repeat (first | with_reducible exact Below.refl _ _ | with_reducible assumption | refine Below.drew ?_ | (refine Below.alloc ?_ (by simp <;> omega) _))))))).mono ?_; rintro e w' ⟨A6, c6, l6, m6, rfl, bcw, hb⟩; (try (first | replace yx := ik.below yx hb | replace yx := (ik.below yx (Below.drew (Below.refl _ _))).below hb)); (try (first | replace Cr := ik.below Cr hb | replace Cr := (ik.below Cr (Below.drew (Below.refl _ _))).below hb)); have Cr := bcw; clear bcw; have hbw := cu (w := W1) (by (first | with_reducible assumption | (repeat (first | with_reducible exact Below.refl _ _ | with_reducible assumption | refine Below.drew ?_ | (refine Below.alloc ?_ (by simp <;> omega) _))))) hb; obtain ⟨hc, hfz⟩ := fu hbw))
   all_goals
    go_wp2_with fail
    go_meet
    case rel =>
     have HS9 := (aa HS).below hbw
     exact HS9.put yx Cr
  ·
   subst e1 e2 e3
   clear anm
   go_wp2_with fail
   go_meet
   case rel => exact aa HS
 case rest =>
  clear anm k0 k1 k2 k3 HS J HW1 HN1 HN2 H1 H2
  obtain ⟨⟨A3, c3, l3, m3, kn, fn⟩, ⟨A4, c4, l4, m4, kd, fd⟩, kq, hb⟩ := hcut
  have w0 : wc.cell? ⟨w.heap.size, 0, none⟩ = some (.slice A3 l3.length c3) := ah kn 0
  have w1 : wc.cell? ⟨w.heap.size, 1, none⟩ = some (.bool m3) := ah kn 1
  have w2 : wc.cell? ⟨w.heap.size + 1, 0, none⟩ = some (.slice A4 l4.length c4) := ah kd 0
  have w3 : wc.cell? ⟨w.heap.size + 1, 1, none⟩ = some (.bool m4) := ah kd 1
  have p0 : wc.cell? ⟨w.heap.size + 1 + 1, 0, none⟩ = some (.slice none 0 0) := ah kq 0
  have p1 : wc.cell? ⟨w.heap.size + 1 + 1, 1, none⟩ = some (.bool false) := ah kq 1
  have p2 : wc.cell? ⟨w.heap.size + 1 + 1, 2, none⟩ = some (.slice none 0 0) := ah kq 2
  have p3 : wc.cell? ⟨w.heap.size + 1 + 1, 3, none⟩ = some (.bool false) := ah kq 3
  have u0 := bf kn 0; have u1 := bf kn 1; have u2 := bf kd 0; have u3 := bf kd 1
  have v0 := bf kq 0; have v1 := bf kq 1; have v2 := bf kq 2; have v3 := bf kq 3
  have q0 := lt_of_block kn; have q1 := lt_of_block kd; have q2 := lt_of_block kq
  have hSW : Wq w wc n' d' := ⟨⟨A3, c3, l3, m3, kn, fn⟩, ⟨A4, c4, l4, m4, kd, fd⟩, kq, hb⟩
  have ho := Zz A4 c4 l4 m4 d' wc fd
  have FN := hide fn; have FD := hide fd; have KQ := Lib.hid kq; have HB := hide hb; have HSW := hide hSW
  obtain ⟨acd, hden⟩ := amr n' d' (aa HDP)
  rw [← HQ2.out] at acd hden
  obtain ⟨g, hg⟩ : ∃ g, g = n'.natAbs.gcd d'.natAbs := ⟨_, rfl⟩
  rw [← hg] at acd hden
  have anl := Lib.hid acd.symm; have ann := Lib.hid hden.symm; have HGG := Lib.hid hg
  clear kn kd kq fn fd hb hSW acd hden
  by_cases hd1 : d' = 1
  ·
   rw [decide_eq_true hd1] at ho
   have HO := hide ho
   have hg1 : g = 1 := by rw [hg, hd1]; simp
   have e1 : q.num = n' := by
    rw [← anl.out, hg1, Nat.div_one]
    by_cases h : n' < 0
    ·
     rw [if_pos (decide_eq_true h)]; omega
    ·
     rw [if_neg (by simpa using h)]; omega
   have e2 : (q.den : Int) = d' := by
    rw [← ann.out, hg1, Nat.div_one]; have := aa HDP; omega
   have E := hide (And.intro e1 e2)
   clear ho hg hg1 hd1 e1 e2
   go_wp2_with fail
   refine (aa HO).mono ?_
   rintro e W2 ⟨rfl, hb2⟩
   obtain ⟨hc, hfz⟩ := fu hb2
   have hblk := (hb2.block _ q2).trans KQ.out
   have kg := Lib.hid hblk; have HB2 := hide hb2
   clear hblk hb2
   go_wp2_with fail
   exact bodyPost_ret (v := .agg #[.slice A3 l3.length c3, .bool m3, .slice A4 l4.length c4, .bool m4]) (by simp [results, Tryz.results115, go_sem, hc, p0, p1, p2, p3, q2]) rfl
    ⟨A3, c3, l3, m3, A4, c4, l4, m4, rfl, by rw [(aa E).1]; exact ((aa FN).below (aa HB2)).upto kg.out (Ao _ _ _ _ _ _ _ _) (mo _ _ _ _ _ _), by rw [(aa E).2]; exact ((aa FD).below (aa HB2)).upto kg.out (Ao _ _ _ _ _ _ _ _) (mo _ _ _ _ _ _), (bz (aa HB) (aa HB2)).grown (mo _ _ _ _ _ _) (bz (aa HB) (aa HB2)).size (fun k hk => by injection hk with hk; omega)⟩
  ·
   rw [decide_eq_false hd1] at ho
   have hdv := fun W (hW : Below wc.heap.size wc W) => aje A3 A4 c3 c4 l3 l4 n'.natAbs d'.natAbs K W ((aa FN).nat.below hW) ((aa FD).nat.below hW) (aa HNK) (aa HDK) (aa HK)
   rw [← hg] at hdv
   have HO := hide ho; have HDV := hide hdv
   have hg0 : 0 < g := by rw [hg]; exact Nat.gcd_pos_of_pos_right _ (by have := aa HDP; omega)
   have hgl : g ≤ d'.natAbs := by rw [hg]; exact Nat.gcd_le_right _ (by have := aa HDP; omega)
   have HG0 := hide hg0; have HGL := hide hgl
   have hln := (aa FN).nat.len (aa HNK); have hld := (aa FD).nat.len (aa HDK)
   have HLN := hide hln; have HLD := hide hld
   clear ho hdv hg hg0 hgl hd1 hln hld
   go_wp2_with fail
   refine (aa HO).mono ?_
   rintro e W2 ⟨rfl, hb2⟩
   obtain ⟨hc2, hf2⟩ := fu hb2
   have HB2 := hide hb2
   clear hb2
   go_wp2_with fail
   refine ((aa HDV) _ (aa HB2)).mono ?_
   rintro e W3 ⟨A5, c5, l5, rfl, h5, hb3⟩
   have Pq := bz (aa HB2) hb3
   replace hb3 := Pq
   obtain ⟨hc3, hf3⟩ := fu hb3
   have hlg := h5.len (Nat.lt_of_le_of_lt (aa HGL) (aa HDK))
   have H5 := hide h5; have HLG := hide hlg; have HB3 := hide hb3
   clear hc2 hf2 Pq hlg HDV HO HB2
   by_cases hl5 : l5.length = 1
   ·
    obtain ⟨b5, o5, rfl, hb5, hc5⟩ := h5.ws om
    have hcell := hc5 0 om
    rw [Nat.add_zero, show Wd.g l5 0 = g by rw [Te eu l5 hl5]; exact h5.val] at hcell
    have bkk : ((l5.length : Int) != 1) = false := by rw [hl5]; rfl
    have bqa : 0 < l5.length := by omega
    have hcap := h5.tu; have hcap2 := h5.cap2
    by_cases hg1 : g = 1
    ·
     have e1 : q.num = n' := by
      rw [← anl.out, hg1, Nat.div_one]
      by_cases h : n' < 0
      ·
       rw [if_pos (decide_eq_true h)]; omega
      ·
       rw [if_neg (by simpa using h)]; omega
     have e2 : (q.den : Int) = d' := by
      rw [← ann.out, hg1, Nat.div_one]; have := aa HDP; omega
     have E := hide (And.intro e1 e2)
     have hblk := (hb3.block _ q2).trans KQ.out
     have kg := Lib.hid hblk
     rw [hg1] at hcell
     clear hblk hg1 e1 e2 h5 hc5 hb3 hl5 hb5
     go_wp2_with fail
     exact bodyPost_ret (v := .agg #[.slice A3 l3.length c3, .bool m3, .slice A4 l4.length c4, .bool m4]) (by simp [results, Tryz.results115, go_sem, hc3, p0, p1, p2, p3, q2]) rfl
      ⟨A3, c3, l3, m3, A4, c4, l4, m4, rfl, by rw [(aa E).1]; exact ((aa FN).below (aa HB3)).upto kg.out (Ao _ _ _ _ _ _ _ _) (mo _ _ _ _ _ _), by rw [(aa E).2]; exact ((aa FD).below (aa HB3)).upto kg.out (Ao _ _ _ _ _ _ _ _) (mo _ _ _ _ _ _), (bz (aa HB) (aa HB3)).grown (mo _ _ _ _ _ _) (bz (aa HB) (aa HB3)).size (fun k hk => by injection hk with hk; omega)⟩
    ·
     have hgb : ((g : Int) == 1) = false := beq_eq_false_iff_ne.2 om
     have bqe : ((g : Int) != 1) = true := by simp; omega
     obtain ⟨AG, hAG⟩ : ∃ A : Option Addr, A = some ⟨b5, o5, none⟩ := ⟨_, rfl⟩
     have hp1 := Fb A3 (some ⟨b5, o5, none⟩) c3 c5 l3 l5 n'.natAbs g W3 ((aa FN).nat.below hb3) (aa H5) (aa HG0) (by have := aa HLN; have := aa HK; omega) (by have := aa HLG; have := aa HK; omega)
     have HP1 := hide hp1
     clear hg1 h5 hc5 hb3 hl5 hb5 hp1 hAG AG
     go_wp2_with fail
     refine (aa HP1).mono ?_
     rintro e W4 ⟨A6, c6, l6, A7, c7, l7, rfl, h6, h7, hb4⟩
     have Tz := bz (aa HB3) hb4
     have h5' := (aa H5).below hb4
     obtain ⟨hc4, hf4⟩ := fu Tz
     have hp2 := Fb A4 (some ⟨b5, o5, none⟩) c4 c5 l4 l5 d'.natAbs g W4 ((aa FD).nat.below Tz) h5' (aa HG0) (by have := aa HLD; have := aa HK; omega) (by have := aa HLG; have := aa HK; omega)
     have HP2 := hide hp2; have H6 := hide h6; have HB4 := hide Tz
     clear hp2 h6 h7 hb4 Tz h5' hc3 hf3 HP1
     go_wp2_with fail
     refine (aa HP2).mono ?_
     rintro e W5 ⟨A8, c8, l8, A9, c9, l9, rfl, h8, h9, hb5⟩
     have Zg := bz (aa HB4) hb5
     obtain ⟨hc5, yx⟩ := fu Zg
     have hs1 := Ah A6 c6 l6 (n'.natAbs / g) m3 W5 ((aa H6).below hb5)
     have Po : (if m3 = true then -((n'.natAbs / g : Nat) : Int) else ((n'.natAbs / g : Nat) : Int)) = q.num := by rw [(aa FN).sign]; exact anl.out
     rw [Po] at hs1
     have qm := hide hs1; have H8 := hide h8; have HB5 := hide Zg
     clear hs1 h8 h9 hb5 Zg hc4 hf4 Po HP2
     go_wp2_with fail
     refine (aa qm).mono ?_
     rintro e W6 ⟨Uo, c10, l10, m10, rfl, h10, hb6⟩
     have Zf := bz (aa HB5) hb6
     obtain ⟨hc6, Cr⟩ := fu Zf
     have hs2 := Ah A8 c8 l8 (d'.natAbs / g) false W6 ((aa H8).below hb6)
     rw [if_neg Bool.false_ne_true, ann.out] at hs2
     have HS2 := hide hs2; have H10 := hide h10; have HB6 := hide Zf
     clear hs2 h10 hb6 Zf hc5 yx qm
     go_wp2_with fail
     refine (aa HS2).mono ?_
     rintro e W7 ⟨A11, c11, l11, m11, rfl, h11, Ml⟩
     have Ze := bz (aa HB6) Ml
     obtain ⟨hc7, hf7⟩ := fu Ze
     have agl := (aa HSW).below Ze
     have Zm := hide agl
     have aiq := hide ((aa H10).below Ml); have H11 := hide h11
     clear h11 Ml Ze hc6 Cr agl HS2
     go_wp2_with fail
     have hS9 := (aa Zm).put (aa aiq) (aa H11)
     have hk1 := (aa Zm).keep (.slice Uo l10.length c10) (.bool m10) (.slice A11 l11.length c11) (.bool m11) (aa aiq)
     have hk2 := (aa Zm).keep (.slice Uo l10.length c10) (.bool m10) (.slice A11 l11.length c11) (.bool m11) (aa H11)
     exact bodyPost_ret (v := .agg #[.slice Uo l10.length c10, .bool m10, .slice A11 l11.length c11, .bool m11]) (by simp [results, Tryz.results115, go_sem, hc7, p0, p1, p2, p3, q2]) rfl
      ⟨Uo, c10, l10, m10, A11, c11, l11, m11, rfl, hk1.upto hS9.bq (Ao _ _ _ _ _ _ _ _) (mo _ _ _ _ _ _), hk2.upto hS9.bq (Ao _ _ _ _ _ _ _ _) (mo _ _ _ _ _ _), hS9.hb.grown (mo _ _ _ _ _ _) hS9.hb.size (fun k hk => by injection hk with hk; omega)⟩
   ·
    have bkk : ((l5.length : Int) != 1) = true := by simp; omega
    have bpz : ((l5.length : Int) == 1) = false := beq_eq_false_iff_ne.2 om
    have hcap := h5.tu; have hcap2 := h5.cap2
    have hp1 := Fb A3 A5 c3 c5 l3 l5 n'.natAbs g W3 ((aa FN).nat.below hb3) (aa H5) (aa HG0) (by have := aa HLN; have := aa HK; omega) (by have := aa HLG; have := aa HK; omega)
    have HP1 := hide hp1
    clear h5 hb3 hl5 hp1
    go_wp2_with fail
    refine (aa HP1).mono ?_
    rintro e W4 ⟨A6, c6, l6, A7, c7, l7, rfl, h6, h7, hb4⟩
    have Tz := bz (aa HB3) hb4
    have h5' := (aa H5).below hb4
    obtain ⟨hc4, hf4⟩ := fu Tz
    have hp2 := Fb A4 A5 c4 c5 l4 l5 d'.natAbs g W4 ((aa FD).nat.below Tz) h5' (aa HG0) (by have := aa HLD; have := aa HK; omega) (by have := aa HLG; have := aa HK; omega)
    have HP2 := hide hp2; have H6 := hide h6; have HB4 := hide Tz
    clear hp2 h6 h7 hb4 Tz h5' hc3 hf3 HP1
    go_wp2_with fail
    refine (aa HP2).mono ?_
    rintro e W5 ⟨A8, c8, l8, A9, c9, l9, rfl, h8, h9, hb5⟩
    have Zg := bz (aa HB4) hb5
    obtain ⟨hc5, yx⟩ := fu Zg
    have hs1 := Ah A6 c6 l6 (n'.natAbs / g) m3 W5 ((aa H6).below hb5)
    have Po : (if m3 = true then -((n'.natAbs / g : Nat) : Int) else ((n'.natAbs / g : Nat) : Int)) = q.num := by rw [(aa FN).sign]; exact anl.out
    rw [Po] at hs1
    have qm := hide hs1; have H8 := hide h8; have HB5 := hide Zg
    clear hs1 h8 h9 hb5 Zg hc4 hf4 Po HP2
    go_wp2_with fail
    refine (aa qm).mono ?_
    rintro e W6 ⟨Uo, c10, l10, m10, rfl, h10, hb6⟩
    have Zf := bz (aa HB5) hb6
    obtain ⟨hc6, Cr⟩ := fu Zf
    have hs2 := Ah A8 c8 l8 (d'.natAbs / g) false W6 ((aa H8).below hb6)
    rw [if_neg Bool.false_ne_true, ann.out] at hs2
    have HS2 := hide hs2; have H10 := hide h10; have HB6 := hide Zf
    clear hs2 h10 hb6 Zf hc5 yx qm
    go_wp2_with fail
    refine (aa HS2).mono ?_
    rintro e W7 ⟨A11, c11, l11, m11, rfl, h11, Ml⟩
    have Ze := bz (aa HB6) Ml
    obtain ⟨hc7, hf7⟩ := fu Ze
    have agl := (aa HSW).below Ze
    have Zm := hide agl
    have aiq := hide ((aa H10).below Ml); have H11 := hide h11
    clear h11 Ml Ze hc6 Cr agl HS2
    go_wp2_with fail
    have hS9 := (aa Zm).put (aa aiq) (aa H11)
    have hk1 := (aa Zm).keep (.slice Uo l10.length c10) (.bool m10) (.slice A11 l11.length c11) (.bool m11) (aa aiq)
    have hk2 := (aa Zm).keep (.slice Uo l10.length c10) (.bool m10) (.slice A11 l11.length c11) (.bool m11) (aa H11)
    exact bodyPost_ret (v := .agg #[.slice Uo l10.length c10, .bool m10, .slice A11 l11.length c11, .bool m11]) (by simp [results, Tryz.results115, go_sem, hc7, p0, p1, p2, p3, q2]) rfl
     ⟨Uo, c10, l10, m10, A11, c11, l11, m11, rfl, hk1.upto hS9.bq (Ao _ _ _ _ _ _ _ _) (mo _ _ _ _ _ _), hk2.upto hS9.bq (Ao _ _ _ _ _ _ _ _) (mo _ _ _ _ _ _), hS9.hb.grown (mo _ _ _ _ _ _) hS9.hb.size (fun k hk => by injection hk with hk; omega)⟩
end Go.Proofs.YtjdnmdlnaoedoaaGreatDoor
namespace Go.Proofs.YtjdnmdlnaoedoaaGreatDoor
open Go.RowKit

theorem aob (n d : Int) (w : World) (b1 : -9223372036854775808 ≤ n) (b2 : n ≤ 9223372036854775807) (b3 : -9223372036854775808 ≤ d) (b4 : d ≤ 9223372036854775807) (hd : d ≠ 0) :
  Calls Tryz.prog 132 #[.int .i64 n, .int .i64 d] w fun e w' => QR w (Rat.divInt n d) e w' := by
 have Qa := hide (fun W => (Js n W b1 b2).mono (fun e w' h => h.1))
 have Sc := hide (fun W => (Js d W b3 b4).mono (fun e w' h => h.1))
 have k1 : n.natAbs < eu ^ 2 := by rw [gp]; omega
 have k2 : d.natAbs < eu ^ 2 := by rw [gp]; omega
 obtain ⟨q, hq⟩ : ∃ q, q = Rat.divInt n d := ⟨_, rfl⟩
 have HR := hide (fun (A1 : Option Addr) (c1 : Nat) (l1 : List Nat) (m1 : Bool) (A2 : Option Addr) (c2 : Nat) (l2 : List Nat) (m2 : Bool) (W : World) (f1 : ik W A1 c1 l1 m1 n) (f2 : ik W A2 c2 l2 m2 d) => Sn A1 c1 l1 m1 n A2 c2 l2 m2 d 2 W f1 f2 hd k1 k2 om)
 rw [← hq] at HR ⊢
 clear b1 b2 b3 b4 hd k1 k2 hq
 go_enter Tryz.func132, Tryz.ntmps132
 go_wp2_with fail
 obtain ⟨n0, hsz, hw0⟩ := Xe w (.cells #[.slice none 0 0, .bool false, .slice none 0 0, .bool false] 63)
 generalize (w.alloc (.cells #[.slice none 0 0, .bool false, .slice none 0 0, .bool false] 63)) = W0 at *
 have p0 : W0.cell? ⟨w.heap.size, 0, none⟩ = some (.slice none 0 0) := ah n0 0
 have p1 : W0.cell? ⟨w.heap.size, 1, none⟩ = some (.bool false) := ah n0 1
 have p2 : W0.cell? ⟨w.heap.size, 2, none⟩ = some (.slice none 0 0) := ah n0 2
 have p3 : W0.cell? ⟨w.heap.size, 3, none⟩ = some (.bool false) := ah n0 3
 have v0 := bf n0 0; have v1 := bf n0 1; have v2 := bf n0 2; have v3 := bf n0 3
 have q0 := lt_of_block n0
 have NR := Lib.hid n0
 clear n0 hsz
 refine ((aa Qa) _).mono ?_
 rintro e W1 ⟨A1, c1, l1, m1, rfl, f1, hb1⟩
 have F1 := hide f1; have HB1 := hide hb1
 clear f1 hb1
 go_wp2_with fail
 refine ((aa Sc) _).mono ?_
 rintro e W2 ⟨A2, c2, l2, m2, rfl, f2, hb2⟩
 have f1' := (aa F1).below hb2
 have hr := (aa HR) A1 c1 l1 m1 A2 c2 l2 m2 W2 f1' f2
 have HRR := hide hr
 have hb2' := bz (aa HB1) hb2
 have HB2 := hide hb2'
 clear f1' f2 hb2 hr hb2'
 go_wp2_with fail
 refine (aa HRR).mono ?_
 rintro e W3 ⟨A3, c3, l3, m3, A4, c4, l4, m4, rfl, f3, f4, hb3⟩
 have Pq := bz (aa HB2) hb3
 obtain ⟨hc, hfz⟩ := fu Pq
 have hblk := (Pq.block _ q0).trans NR.out
 have kg := Lib.hid hblk
 have F3 := hide f3; have F4 := hide f4; have jh := bz hw0 Pq
 have Np := hide jh
 clear f3 f4 hb3 Pq hblk jh
 go_wp2_with fail
 exact bodyPost_ret (v := .agg #[.slice A3 l3.length c3, .bool m3, .slice A4 l4.length c4, .bool m4]) (by simp [results, Tryz.results132, go_sem, hc, p0, p1, p2, p3, q0]) rfl
  ⟨A3, c3, l3, m3, A4, c4, l4, m4, rfl, (aa F3).upto kg.out (Ao _ _ _ _ _ _ _ _) (mo _ _ _ _ _ _), (aa F4).upto kg.out (Ao _ _ _ _ _ _ _ _) (mo _ _ _ _ _ _), (aa Np).grown (mo _ _ _ _ _ _) (aa Np).size (fun k hk => by injection hk with hk; omega)⟩
end Go.Proofs.YtjdnmdlnaoedoaaGreatDoor
namespace Go.Proofs.YtjdnmdlnaoedoaaGreatDoor
open Go.RowKit

theorem abu (n d : Int) (w : World) (b1 : -9223372036854775808 ≤ n) (b2 : n ≤ 9223372036854775807) (b3 : -9223372036854775808 ≤ d) (b4 : d ≤ 9223372036854775807) :
  Calls Tryz.prog 57 #[(.agg #[.int .i64 n, .int .i64 d])] w fun e w' => Hy w n d e w' := by
 have HN1 := hide (fun W => Jz n b1 b2 W)
 have HN2 := hide (fun W => Jz d b3 b4 W)
 clear b1 b2 b3 b4
 go_enter Tryz.func57, Tryz.ntmps57
 go_wp2_with fail
 obtain ⟨n0, n1, hsz, hw0⟩ := uu w (.cells #[.int .i64 n, .int .i64 d] 23) (.cells #[.int .i64 0, .bool false, .slice none 0 0, .int .i64 0, .bool false, .slice none 0 0] 74)
 generalize ((w.alloc (.cells #[.int .i64 n, .int .i64 d] 23)).alloc (.cells #[.int .i64 0, .bool false, .slice none 0 0, .int .i64 0, .bool false, .slice none 0 0] 74)) = W0 at *
 have yc : W0.cell? ⟨w.heap.size, 0, none⟩ = some (.int .i64 n) := ah n0 0
 have xz : W0.cell? ⟨w.heap.size, 1, none⟩ = some (.int .i64 d) := ah n0 1
 have q0 : w.heap.size < W0.heap.size := by omega
 have Ad : W0.cell? ⟨w.heap.size + 1, 0, none⟩ = some (.int .i64 0) := ah n1 0
 have Ac : W0.cell? ⟨w.heap.size + 1, 1, none⟩ = some (.bool false) := ah n1 1
 have El : W0.cell? ⟨w.heap.size + 1, 2, none⟩ = some (.slice none 0 0) := ah n1 2
 have Kz : W0.cell? ⟨w.heap.size + 1, 3, none⟩ = some (.int .i64 0) := ah n1 3
 have Tq : W0.cell? ⟨w.heap.size + 1, 4, none⟩ = some (.bool false) := ah n1 4
 have Tp : W0.cell? ⟨w.heap.size + 1, 5, none⟩ = some (.slice none 0 0) := ah n1 5
 have q1 : w.heap.size + 1 < W0.heap.size := by omega
 have Nh := bf n1 0
 have Ng := bf n1 1
 have ahm := bf n1 2
 have ahl := bf n1 3
 have avg := bf n1 4
 have avf := bf n1 5
 have NR := Lib.hid n1
 clear n0 n1
 go_region_held3 (fun w' => w'.cell? ⟨w.heap.size, 0, none⟩ = some (.int .i64 n) ∧ w'.cell? ⟨w.heap.size, 1, none⟩ = some (.int .i64 d)) ((first | with_reducible exact ⟨(hc _ _ q0).trans yc, (hc _ _ q0).trans xz⟩ | with_reducible exact ⟨yc, xz⟩ | with_reducible exact ⟨(jy _ _ _ _ _ _ _ _ om).trans ((hc _ _ q0).trans yc), (jy _ _ _ _ _ _ _ _ om).trans ((hc _ _ q0).trans xz)⟩ | exact ⟨(hc _ _ q0).trans yc, (hc _ _ q0).trans xz⟩ | exact ⟨yc, xz⟩ | exact ⟨(jy _ _ _ _ _ _ _ _ om).trans ((hc _ _ q0).trans yc), (jy _ _ _ _ _ _ _ _ om).trans ((hc _ _ q0).trans xz)⟩)) (first | (go_at_call 124; refine ((aa HN1) _).mono ?_; clear HN1; rintro e w' ⟨s5, Cb, A5, c5, l5, rfl, yx, hb⟩; have hbw := cu (w := W0) bem hb; obtain ⟨hc, hfz⟩ := fu hbw) | (go_at_call 124; refine ((aa HN2) _).mono ?_; rintro e w' ⟨s6, Pf, A6, c6, l6, rfl, Cr, hb⟩; have yx := yx.below hb; have hbw := cu (w := W0) bem hb; obtain ⟨hc, hfz⟩ := fu hbw))
 have hblk : w'.heap[w.heap.size + 1]? = some (.cells #[.int .i64 0, .bool false, .slice none 0 0, .int .i64 0, .bool false, .slice none 0 0] 74 (0, 0)) := (hbw.block _ q1).trans NR.out
 have kg := Lib.hid hblk
 have jh : Below w.heap.size w w' := bz hw0 hbw
 clear hblk
 go_wp2_with fail
 exact bodyPost_ret (v := (Value.agg #[.int .i64 s5, .bool Cb, .slice A5 l5.length c5, .int .i64 s6, .bool Pf, .slice A6 l6.length c6])) (by simp [results, Tryz.results57, go_sem, hc, Ad, Ac, El, Kz, Tq, Tp, q1]) rfl
  ⟨s5, Cb, A5, c5, l5, s6, Pf, A6, c6, l6, rfl, (yx).upto kg.out (Cu _ _ _ _ _ _ _ _ _ _) (uf _ _ _ _ _ _ _ _), (Cr).upto kg.out (Cu _ _ _ _ _ _ _ _ _ _) (uf _ _ _ _ _ _ _ _), jh.grown (uf _ _ _ _ _ _ _ _) jh.size (fun k hk => by injection hk with hk; omega)⟩

end Go.Proofs.YtjdnmdlnaoedoaaGreatDoor
namespace Go.Proofs.YtjdnmdlnaoedoaaGreatDoor
open Go.RowKit

end Go.Proofs.YtjdnmdlnaoedoaaGreatDoor
namespace Go.Proofs.YtjdnmdlnaoedoaaGreatDoor
open Go.RowKit

def blr (w : World) (q : Rat) (e : Ending) (w' : World) : Prop := ∃ (n d : Int) (ok : Bool), e = .returned (.tuple #[.agg #[.int .i64 n, .int .i64 d], .bool ok]) ∧ Below w.heap.size w w' ∧ ((ok = true ∧ Wd.told q = ⟨n, d, 0⟩) ∨ (ok = false ∧ Wd.told q = ⟨0, 0, 3⟩))

end Go.Proofs.YtjdnmdlnaoedoaaGreatDoor
namespace Go.Proofs.YtjdnmdlnaoedoaaGreatDoor
open Go.RowKit

end Go.Proofs.YtjdnmdlnaoedoaaGreatDoor
namespace Go.Proofs.YtjdnmdlnaoedoaaGreatDoor
open Go.RowKit

end Go.Proofs.YtjdnmdlnaoedoaaGreatDoor
namespace Go.Proofs.YtjdnmdlnaoedoaaGreatDoor
open Go.RowKit

structure Sg (Wp W : World) (b : Nat) : Prop where
 old : Wp.heap.size ≤ b
 zero : W.heap[b]? = some (.cells #[.slice none 0 0, .bool false, .slice none 0 0, .bool false] 63 (0, 0))
theorem Sg.lt {Wp W : World} {b : Nat} (h : Sg Wp W b) : b < W.heap.size := lt_of_block h.zero
theorem Sg.drew {Wp W : World} {b : Nat} (h : Sg Wp W b) : Sg Wp W.drew b := ⟨h.old, h.zero⟩
theorem Sg.below {Wp W w' : World} {b : Nat} (h : Sg Wp W b) (hb : Below W.heap.size W w') : Sg Wp w' b := ⟨h.old, (hb.block _ h.lt).trans h.zero⟩
theorem Sg.new {Wp W : World} {b : Nat} (hb : Below Wp.heap.size Wp W) (e : b = W.heap.size) : Sg Wp (W.alloc (.cells #[.slice none 0 0, .bool false, .slice none 0 0, .bool false] 63 (0, 0))) b := by
 subst e; exact ⟨hb.size, heap_alloc_new W _⟩
theorem Sg.alloc {Wp W : World} {b : Nat} {o : Obj} (h : Sg Wp W b) : Sg Wp (W.alloc o) b := ⟨h.old, (Below.heap_alloc W _ b h.lt).trans h.zero⟩
theorem QV.upto {w w' : World} {g : Nat} {wu : Option Addr} {c1a : Nat} {wm : List Nat} {Gg : Bool} {zt : Option Addr} {zq : Nat} {zo : List Nat} {Jn : Bool} {x1 : Rat} {T : TypeId} {cs : Array Value} (h : QV w wu c1a wm Gg zt zq zo Jn x1) (hg : w.heap[g]? = some (.cells cs T (0, 0))) (hn : Zl cs) (hgr : w.grownBy w' (some g)) : QV w' wu c1a wm Gg zt zq zo Jn x1 := by
 obtain ⟨d, h2, h3⟩ := h.den
 exact ⟨h.num.upto hg hn hgr, d, h2.upto hg hn hgr, h3⟩
theorem QV.alloc {W : World} {o : Obj} {wu : Option Addr} {c1a : Nat} {wm : List Nat} {Gg : Bool} {zt : Option Addr} {zq : Nat} {zo : List Nat} {Jn : Bool} {x1 : Rat} (h1 : QV W wu c1a wm Gg zt zq zo Jn x1) : QV (W.alloc o) wu c1a wm Gg zt zq zo Jn x1 := h1.below ((Below.refl _ _).alloc (Nat.le_refl _) _)
def Fx (w : World) (b : Nat) (x : Rat) : Prop := ∃ A c l m A' c' l' m', w.heap[b]? = some (.cells #[.slice A (List.length l) c, .bool m, .slice A' (List.length l') c', .bool m'] 63 (0, 0)) ∧ QV w A c l m A' c' l' m' x
theorem Fx.below {w w' : World} {b : Nat} {x : Rat} (h : Fx w b x) (hb : Below w.heap.size w w') : Fx w' b x := by
 obtain ⟨A, c, l, m, A', c', l', m', h1, h2⟩ := h
 exact ⟨A, c, l, m, A', c', l', m', (hb.block _ (lt_of_block h1)).trans h1, h2.below hb⟩
theorem Fx.new {W : World} {b : Nat} {wu : Option Addr} {c1a : Nat} {wm : List Nat} {Gg : Bool} {zt : Option Addr} {zq : Nat} {zo : List Nat} {Jn : Bool} {x1 : Rat} (h1 : QV W wu c1a wm Gg zt zq zo Jn x1) (e : b = W.heap.size) : Fx (W.alloc (.cells #[.slice wu wm.length c1a, .bool Gg, .slice zt zo.length zq, .bool Jn] 63)) b x1 := by
 subst e; exact ⟨_, _, _, _, _, _, _, _, heap_alloc_new W _, h1.alloc⟩
theorem Fx.alloc {W : World} {b : Nat} {x : Rat} {o : Obj} (h : Fx W b x) : Fx (W.alloc o) b x := h.below ((Below.refl _ _).alloc (Nat.le_refl _) _)
theorem ali {W : World} {b : Nat} {a0 a1 a2 a3 u0 u1 u2 u3 : Value} {T : TypeId} (h : W.heap[b]? = some (.cells #[a0, a1, a2, a3] T (0, 0))) : ((((W.setCell ⟨b, 0, none⟩ u0).setCell ⟨b, 1, none⟩ u1).setCell ⟨b, 2, none⟩ u2).setCell ⟨b, 3, none⟩ u3).heap[b]? = some (.cells #[u0, u1, u2, u3] T (0, 0)) := by
 simp [World.setCell, Array.getElem?_modify, h]
end Go.Proofs.YtjdnmdlnaoedoaaGreatDoor
namespace Go.Proofs.YtjdnmdlnaoedoaaGreatDoor
open Go.RowKit

namespace Sb
def Pb (u : Value) : Prop := (∀ n : Int, u ≠ .int .u64 n) ∧ u.oneCell' = true ∧ (∀ n : Int, u ≠ .int .u32 n)
def Fv (cs : List Value) : Prop := ∀ u ∈ cs, Pb u
structure Kind where
 size : Nat
 ok : World → List Value → Prop
 noW : ∀ {W : World} {c : List Value}, ok W c → Fv c
 below : ∀ {W W' : World} {c : List Value}, Below W.heap.size W W' → ok W c → ok W' c
 upto : ∀ {W W' : World} {g : Nat} {T : TypeId} {cs c : List Value}, W.heap[g]? = some (.cells cs.toArray T (0, 0)) → Fv cs → W.grownBy W' (some g) → ok W c → ok W' c
 len : ∀ {W : World} {c : List Value}, ok W c → c.length = size
inductive Leaf where
 | v (u : Value)
 | z (n : Int)
 | q (x : Rat)
 | r (x : Rat)
 | k (κ : Kind)
def Leaf.size : Leaf → Nat
 | .v _ => 1
 | .z _ => 3
 | .q _ => 6
 | .r _ => 4
 | .k κ => κ.size
def lsize : List Leaf → Nat
 | [] => 0
 | l :: ls => l.size + lsize ls
def Gy (W : World) : Leaf → List Value → Prop
 | .v u, c => c = [u] ∧ Pb u
 | .z n, c => ∃ s1 n1 A1 c1 l1, c = [.int .i64 s1, .bool n1, .slice A1 (List.length l1) c1] ∧ ig W s1 n1 A1 c1 l1 n
 | .q x, c => ∃ s1 n1 A1 c1 l1 s2 n2 A2 c2 l2, c = [.int .i64 s1, .bool n1, .slice A1 (List.length l1) c1, .int .i64 s2, .bool n2, .slice A2 (List.length l2) c2] ∧ ig W s1 n1 A1 c1 l1 x.num ∧ ig W s2 n2 A2 c2 l2 (x.den : Int)
 | .r x, c => ∃ A1 c1 l1 m1 A2 c2 l2 m2, c = [.slice A1 (List.length l1) c1, .bool m1, .slice A2 (List.length l2) c2, .bool m2] ∧ QV W A1 c1 l1 m1 A2 c2 l2 m2 x
 | .k κ, c => κ.ok W c
def gu (W : World) : List Leaf → List Value → Prop
 | [], cs => cs = []
 | l :: ls, cs => ∃ c r, cs = c ++ r ∧ Gy W l c ∧ gu W ls r
theorem jm (n : Int) : Pb (.int .i64 n) := ⟨fun m h => by simp at h, rfl, fun m h => by simp at h⟩
theorem Ve (b : Bool) : Pb (.bool b) := ⟨fun m h => by simp at h, rfl, fun m h => by simp at h⟩
theorem Vd (A : Option Addr) (n c : Nat) : Pb (.slice A n c) := ⟨fun m h => by simp at h, rfl, fun m h => by simp at h⟩
theorem bbo (A : Option Addr) : Pb (.pointer A) := ⟨fun m h => by simp at h, rfl, fun m h => by simp at h⟩
theorem Fv.arr {cs : List Value} (h : Fv cs) : Rz cs.toArray := fun i n he => (h (.int .u64 n) (List.mem_of_getElem? (i := i) (by simpa using he))).1 n rfl
theorem Fv.ber {cs : List Value} (h : Fv cs) : Zl cs.toArray := fun i n he => (h (.int .u32 n) (List.mem_of_getElem? (i := i) (by simpa using he))).2.2 n rfl
theorem Gy.noW {W : World} {l : Leaf} {c : List Value} (h : Gy W l c) : Fv c := by
 cases l with
 | v u => obtain ⟨rfl, h⟩ := h; intro u' hu; rw [List.mem_singleton.1 hu]; exact h
 | z n =>
  obtain ⟨_, _, _, _, _, rfl, _⟩ := h
  intro u hu
  simp only [List.mem_cons, List.not_mem_nil, or_false] at hu
  rcases hu with rfl | rfl | rfl
  all_goals first | exact jm _ | exact Ve _ | exact Vd _ _ _
 | q x =>
  obtain ⟨_, _, _, _, _, _, _, _, _, _, rfl, _⟩ := h
  intro u hu
  simp only [List.mem_cons, List.not_mem_nil, or_false] at hu
  rcases hu with rfl | rfl | rfl | rfl | rfl | rfl
  all_goals first | exact jm _ | exact Ve _ | exact Vd _ _ _
 | r x =>
  obtain ⟨_, _, _, _, _, _, _, _, rfl, _⟩ := h
  intro u hu
  simp only [List.mem_cons, List.not_mem_nil, or_false] at hu
  rcases hu with rfl | rfl | rfl | rfl
  all_goals first | exact jm _ | exact Ve _ | exact Vd _ _ _
 | k κ => exact κ.noW h
theorem Gy.below {W W' : World} {l : Leaf} {c : List Value} (hb : Below W.heap.size W W') (h : Gy W l c) : Gy W' l c := by
 cases l with
 | v u => exact h
 | z n =>
  obtain ⟨s1, n1, A1, c1, l1, rfl, h1⟩ := h
  exact ⟨_, _, _, _, _, rfl, h1.below hb⟩
 | q x =>
  obtain ⟨s1, n1, A1, c1, l1, s2, n2, A2, c2, l2, rfl, h1, h2⟩ := h
  exact ⟨_, _, _, _, _, _, _, _, _, _, rfl, h1.below hb, h2.below hb⟩
 | r x =>
  obtain ⟨A1, c1, l1, m1, A2, c2, l2, m2, rfl, h1⟩ := h
  exact ⟨_, _, _, _, _, _, _, _, rfl, h1.below hb⟩
 | k κ => exact κ.below hb h
theorem Gy.upto {W W' : World} {g : Nat} {l : Leaf} {c : List Value} {T : TypeId} {cs : List Value} (hg : W.heap[g]? = some (.cells cs.toArray T (0, 0))) (hn : Fv cs) (hgr : W.grownBy W' (some g)) (h : Gy W l c) : Gy W' l c := by
 cases l with
 | v u => exact h
 | z n =>
  obtain ⟨s1, n1, A1, c1, l1, rfl, h1⟩ := h
  exact ⟨_, _, _, _, _, rfl, h1.upto hg hn.arr hgr⟩
 | q x =>
  obtain ⟨s1, n1, A1, c1, l1, s2, n2, A2, c2, l2, rfl, h1, h2⟩ := h
  exact ⟨_, _, _, _, _, _, _, _, _, _, rfl, h1.upto hg hn.arr hgr, h2.upto hg hn.arr hgr⟩
 | r x =>
  obtain ⟨A1, c1, l1, m1, A2, c2, l2, m2, rfl, h1⟩ := h
  exact ⟨_, _, _, _, _, _, _, _, rfl, h1.upto hg hn.ber hgr⟩
 | k κ => exact κ.upto hg hn hgr h
theorem Gy.len {W : World} {l : Leaf} {c : List Value} (h : Gy W l c) : c.length = l.size := by
 cases l with
 | v u => rw [h.1]; rfl
 | z n => obtain ⟨_, _, _, _, _, rfl, _⟩ := h; rfl
 | q x => obtain ⟨_, _, _, _, _, _, _, _, _, _, rfl, _⟩ := h; rfl
 | r x => obtain ⟨_, _, _, _, _, _, _, _, rfl, _⟩ := h; rfl
 | k κ => exact κ.len h
theorem gu.noW {W : World} : ∀ {ls : List Leaf} {cs : List Value}, gu W ls cs → Fv cs
 | [], _, h => by cases h; intro u hu; cases hu
 | _ :: ls, _, ⟨c, r, e, hq, h⟩ => by
  subst e
  intro u' hm
  rcases List.mem_append.1 hm with hm | hm
  ·
   exact hq.noW _ hm
  ·
   exact gu.noW (ls := ls) h _ hm
theorem gu.below {W W' : World} (hb : Below W.heap.size W W') : ∀ {ls : List Leaf} {cs : List Value}, gu W ls cs → gu W' ls cs
 | [], _, h => h
 | _ :: ls, _, ⟨c, r, e, hq, h⟩ => ⟨c, r, e, hq.below hb, gu.below hb (ls := ls) h⟩
theorem gu.upto {W W' : World} {g : Nat} {T : TypeId} {ds : List Value} (hg : W.heap[g]? = some (.cells ds.toArray T (0, 0))) (hn : Fv ds) (hgr : W.grownBy W' (some g)) : ∀ {ls : List Leaf} {cs : List Value}, gu W ls cs → gu W' ls cs
 | [], _, h => h
 | _ :: ls, _, ⟨c, r, e, hq, h⟩ => ⟨c, r, e, hq.upto hg hn hgr, gu.upto hg hn hgr (ls := ls) h⟩
theorem gu.len {W : World} : ∀ {ls : List Leaf} {cs : List Value}, gu W ls cs → cs.length = lsize ls
 | [], _, h => by cases h; rfl
 | _ :: ls, _, ⟨c, r, e, hq, h⟩ => by subst e; rw [List.length_append, hq.len, gu.len (ls := ls) h]; rfl
theorem gu.app {W : World} {ks : List Leaf} {ds : List Value} (hd : gu W ks ds) : ∀ {ls : List Leaf} {cs : List Value}, gu W ls cs → gu W (ls ++ ks) (cs ++ ds)
 | [], _, h => by cases h; exact hd
 | _ :: ls, _, ⟨c, r, e, hq, h⟩ => ⟨c, r ++ ds, by rw [e, List.append_assoc], hq, gu.app hd (ls := ls) h⟩
theorem gu.cut {W : World} {ks : List Leaf} : ∀ {ls : List Leaf} {cs : List Value}, gu W (ls ++ ks) cs → ∃ c d, cs = c ++ d ∧ gu W ls c ∧ gu W ks d
 | [], cs, h => ⟨[], cs, rfl, rfl, h⟩
 | _ :: ls, _, ⟨c0, r, e, hq, h⟩ => by
  obtain ⟨c, d, e2, h1, h2⟩ := gu.cut (ls := ls) h
  exact ⟨c0 ++ c, d, by rw [e, e2, List.append_assoc], ⟨c0, c, rfl, hq, h1⟩, h2⟩
theorem gu.v {W : World} {u : Value} {ls : List Leaf} {cs : List Value} (hu : Pb u) (h : gu W ls cs) : gu W (.v u :: ls) (u :: cs) := ⟨[u], cs, rfl, ⟨rfl, hu⟩, h⟩
theorem gu.z {W : World} {n : Int} {s1 : Int} {n1 : Bool} {A1 : Option Addr} {c1 : Nat} {l1 : List Nat} {ls : List Leaf} {cs : List Value} (h1 : ig W s1 n1 A1 c1 l1 n) (h : gu W ls cs) : gu W (.z n :: ls) (.int .i64 s1 :: .bool n1 :: .slice A1 l1.length c1 :: cs) := ⟨[_, _, _], cs, rfl, ⟨_, _, _, _, _, rfl, h1⟩, h⟩
theorem gu.q {W : World} {x : Rat} {s1 : Int} {n1 : Bool} {A1 : Option Addr} {c1 : Nat} {l1 : List Nat} {s2 : Int} {n2 : Bool} {A2 : Option Addr} {c2 : Nat} {l2 : List Nat} {ls : List Leaf} {cs : List Value} (h1 : ig W s1 n1 A1 c1 l1 x.num) (h2 : ig W s2 n2 A2 c2 l2 (x.den : Int)) (h : gu W ls cs) : gu W (.q x :: ls) (.int .i64 s1 :: .bool n1 :: .slice A1 l1.length c1 :: .int .i64 s2 :: .bool n2 :: .slice A2 l2.length c2 :: cs) := ⟨[_, _, _, _, _, _], cs, rfl, ⟨_, _, _, _, _, _, _, _, _, _, rfl, h1, h2⟩, h⟩
theorem gu.r {W : World} {x : Rat} {A1 : Option Addr} {c1 : Nat} {l1 : List Nat} {m1 : Bool} {A2 : Option Addr} {c2 : Nat} {l2 : List Nat} {m2 : Bool} {ls : List Leaf} {cs : List Value} (h1 : QV W A1 c1 l1 m1 A2 c2 l2 m2 x) (h : gu W ls cs) : gu W (.r x :: ls) (.slice A1 l1.length c1 :: .bool m1 :: .slice A2 l2.length c2 :: .bool m2 :: cs) := ⟨[_, _, _, _], cs, rfl, ⟨_, _, _, _, _, _, _, _, rfl, h1⟩, h⟩
theorem gu.k {W : World} {κ : Kind} {c : List Value} {ls : List Leaf} {cs : List Value} (h1 : κ.ok W c) (h : gu W ls cs) : gu W (.k κ :: ls) (c ++ cs) := ⟨c, cs, rfl, h1, h⟩
theorem gu.ael {W : World} {x : Rat} {ls : List Leaf} {cs : List Value} (h : gu W (.r x :: ls) cs) : ∃ A1 c1 l1 m1 A2 c2 l2 m2 r, cs = .slice A1 (List.length l1) c1 :: .bool m1 :: .slice A2 (List.length l2) c2 :: .bool m2 :: r ∧ QV W A1 c1 l1 m1 A2 c2 l2 m2 x ∧ gu W ls r := by
 obtain ⟨c, r, rfl, ⟨A1, c1, l1, m1, A2, c2, l2, m2, rfl, h1⟩, h⟩ := h
 exact ⟨A1, c1, l1, m1, A2, c2, l2, m2, r, rfl, h1, h⟩
theorem gu.Wy {W : World} {u : Value} {ls : List Leaf} {cs : List Value} (h : gu W (.v u :: ls) cs) : ∃ r, cs = u :: r ∧ Pb u ∧ gu W ls r := by
 obtain ⟨c, r, rfl, ⟨rfl, hu⟩, h⟩ := h
 exact ⟨r, rfl, hu, h⟩
theorem gu.aks {W : World} {n : Int} {ls : List Leaf} {cs : List Value} (h : gu W (.z n :: ls) cs) : ∃ s1 n1 A1 c1 l1 r, cs = .int .i64 s1 :: .bool n1 :: .slice A1 (List.length l1) c1 :: r ∧ ig W s1 n1 A1 c1 l1 n ∧ gu W ls r := by
 obtain ⟨c, r, rfl, ⟨s1, n1, A1, c1, l1, rfl, h1⟩, h⟩ := h
 exact ⟨s1, n1, A1, c1, l1, r, rfl, h1, h⟩
theorem gu.alq {W : World} {x : Rat} {ls : List Leaf} {cs : List Value} (h : gu W (.q x :: ls) cs) : ∃ s1 n1 A1 c1 l1 s2 n2 A2 c2 l2 r, cs = .int .i64 s1 :: .bool n1 :: .slice A1 (List.length l1) c1 :: .int .i64 s2 :: .bool n2 :: .slice A2 (List.length l2) c2 :: r ∧ ig W s1 n1 A1 c1 l1 x.num ∧ ig W s2 n2 A2 c2 l2 (x.den : Int) ∧ gu W ls r := by
 obtain ⟨c, r, rfl, ⟨s1, n1, A1, c1, l1, s2, n2, A2, c2, l2, rfl, h1, h2⟩, h⟩ := h
 exact ⟨s1, n1, A1, c1, l1, s2, n2, A2, c2, l2, r, rfl, h1, h2, h⟩

def ai (ls : List Leaf) : World → Value → Prop := fun W v => ∃ cs : List Value, v = .agg cs.toArray ∧ gu W ls cs
theorem au (ls : List Leaf) : Rg.Em gm (ai ls) := by
 rintro w w' v hb ⟨cs, rfl, h⟩
 exact ⟨cs, rfl, h.below hb⟩
def Gl (W : World) : List (World → Value → Prop) → List Value → Prop
 | [], vs => vs = []
 | t :: ts, vs => ∃ u r, vs = u :: r ∧ t W u ∧ Gl W ts r
def qa (ts : List (World → Value → Prop)) : World → Value → Prop := fun W v => ∃ vs : List Value, v = .tuple vs.toArray ∧ Gl W ts vs
theorem Gl.below {W W' : World} (hb : gm W W') : ∀ {ts : List (World → Value → Prop)} {vs : List Value}, Rg.fq gm ts → Gl W ts vs → Gl W' ts vs
 | [], _, _, h => h
 | _ :: ts, _, hs, ⟨u, r, e, h1, h2⟩ => ⟨u, r, e, hs.1 _ _ _ hb h1, Gl.below hb (ts := ts) hs.2 h2⟩
theorem ko {ts : List (World → Value → Prop)} (hs : Rg.fq gm ts) : Rg.Em gm (qa ts) := by
 rintro w w' v hb ⟨vs, rfl, h⟩
 exact ⟨vs, rfl, Gl.below hb hs h⟩
theorem Gl.get {W : World} : ∀ {ts : List (World → Value → Prop)} {vs : List Value}, Gl W ts vs → ∀ i, i < ts.length → ∃ u, vs[i]? = some u ∧ Rg.pick ts i W u
 | [], _, _, i, hi => by simp at hi
 | t :: ts, _, ⟨u, r, e, h1, h2⟩, 0, _ => by subst e; exact ⟨u, rfl, h1⟩
 | t :: ts, _, ⟨u, r, e, h1, h2⟩, i + 1, hi => by
  subst e
  obtain ⟨u', h3, h4⟩ := Gl.get (ts := ts) h2 i (by simpa using hi)
  exact ⟨u', by simpa using h3, h4⟩

def Ce (W : World) (b : Nat) (T : TypeId) (ls : List Leaf) : Prop := ∃ cs : List Value, W.heap[b]? = some (.cells cs.toArray T (0, 0)) ∧ gu W ls cs
theorem Ce.lt {W : World} {b : Nat} {T : TypeId} {ls : List Leaf} (h : Ce W b T ls) : b < W.heap.size := by obtain ⟨cs, h, _⟩ := h; exact lt_of_block h
theorem Ce.below {W W' : World} {b : Nat} {T : TypeId} {ls : List Leaf} (h : Ce W b T ls) (hb : Below W.heap.size W W') : Ce W' b T ls := by
 obtain ⟨cs, h1, h2⟩ := h
 exact ⟨cs, (hb.block _ (lt_of_block h1)).trans h1, h2.below hb⟩
abbrev za := Nat × TypeId × List Leaf
structure Own (w : World) (bs : List za) (W : World) : Prop where
 bel : Below w.heap.size w W
 nd : (bs.map Prod.fst).Nodup
 box : ∀ b T ls, (b, T, ls) ∈ bs → w.heap.size ≤ b ∧ Ce W b T ls
theorem Own.nil (w : World) : Own w [] w := ⟨Below.refl _ _, List.nodup_nil, fun b T ls h => by cases h⟩
theorem Own.step {w : World} {bs : List za} : ∀ W W', Own w bs W → gm W W' → Own w bs W' := fun W W' h hb => ⟨bz h.bel hb, h.nd, fun b T ls hm => ⟨(h.box b T ls hm).1, (h.box b T ls hm).2.below hb⟩⟩
theorem Own.add {w W V : World} {bs : List za} {b : Nat} {T : TypeId} {ls : List Leaf} (h : Own w bs V) (Vw : gm V W) (hb : V.heap.size ≤ b) (hq : Ce W b T ls) : Own w ((b, T, ls) :: bs) W :=
 ⟨bz h.bel Vw, List.nodup_cons.2 ⟨fun hm => by
  obtain ⟨⟨b', T', ls'⟩, hp, he⟩ := List.mem_map.1 hm
  have := (h.box b' T' ls' hp).2.lt
  have : b' = b := he
  omega, h.nd⟩, fun b' T' ls' hm => by
  rcases List.mem_cons.1 hm with e | hm
  ·
   cases e; exact ⟨Nat.le_trans h.bel.size hb, hq⟩
  ·
   exact ((Own.step V W h Vw).box b' T' ls' hm)⟩
theorem Own.push {w W : World} {bs : List za} {T : TypeId} {ls : List Leaf} {cs : List Value} (h : Own w bs W) (hv : gu W ls cs) (b : Nat) (hb : b = W.heap.size) : Own w ((b, T, ls) :: bs) (W.alloc (.cells cs.toArray T)) := by
 subst hb
 exact h.add ((Below.refl _ _).alloc (Nat.le_refl _) _) (Nat.le_refl _) ⟨cs, heap_alloc_new W _, hv.below ((Below.refl _ _).alloc (Nat.le_refl _) _)⟩
theorem Own.other {w W : World} {bs : List za} (o : Obj) (h : Own w bs W) : Own w bs (W.alloc o) := Own.step _ _ h ((Below.refl _ _).alloc (Nat.le_refl _) _)
def setM (W : World) (b off : Nat) : List Value → World
 | [] => W
 | u :: r => setM (W.setCell ⟨b, off, none⟩ u) b (off + 1) r
theorem zm (b : Nat) : ∀ (us : List Value) (off : Nat) (W W' : World), W.grownBy W' (some b) → W.grownBy (setM W' b off us) (some b)
 | [], _, _, _, h => h
 | u :: r, off, W, W', h => zm b r (off + 1) W _ (ni h off u)
theorem aoo {W : World} {b off : Nat} {u : Value} {T : TypeId} {cs : Array Value} (h : W.heap[b]? = some (.cells cs T (0, 0))) : (W.setCell ⟨b, off, none⟩ u).heap[b]? = some (.cells (cs.setIfInBounds off u) T (0, 0)) := by
 simp [World.setCell, Array.getElem?_modify, h]
theorem set_mid (c : List Value) (x u : Value) (d : List Value) : ((c ++ x :: d).toArray.setIfInBounds c.length u) = (c ++ u :: d).toArray := by
 simp
theorem Su {b : Nat} {T : TypeId} : ∀ (us old : List Value) (c d : List Value) (W : World), us.length = old.length → W.heap[b]? = some (.cells (c ++ (old ++ d)).toArray T (0, 0)) → (setM W b c.length us).heap[b]? = some (.cells (c ++ (us ++ d)).toArray T (0, 0))
 | [], [], c, d, W, _, h => h
 | u :: us, o :: old, c, d, W, hl, h => by
  have h1 := aoo (off := c.length) (u := u) h
  rw [List.cons_append, set_mid] at h1
  have h2 := Su us old (c ++ [u]) d _ (by simpa using hl) (by simpa using h1)
  simpa [setM] using h2
 | [], _ :: _, _, _, _, hl, _ => by simp at hl
 | _ :: _, [], _, _, _, hl, _ => by simp at hl
theorem Own.set {w W : World} {xs ys : List za} {b : Nat} {T : TypeId} {pre old new post : List Leaf} {us : List Value} {off : Nat} (h : Own w (xs ++ (b, T, pre ++ (old ++ post)) :: ys) W) (hv : gu W new us) (hl : lsize new = lsize old) (ho : off = lsize pre) :
  Own w (xs ++ (b, T, pre ++ (new ++ post)) :: ys) (setM W b off us) := by
 obtain ⟨hge, cs, hb, hls⟩ := h.box b T _ (List.mem_append_right _ List.mem_cons_self)
 obtain ⟨c, cd, rfl, k1, k2⟩ := hls.cut
 obtain ⟨o, d, rfl, k3, k4⟩ := k2.cut
 have hg := zm b us off W W (ug _ _)
 have hnw : Fv (c ++ (o ++ d)) := hls.noW
 have hnd := h.nd
 rw [List.map_append, List.map_cons] at hnd
 have hn : ∀ b' T' q', (b', T', q') ∈ xs ++ ys → b' ≠ b := fun b' T' q' hm e => by
  subst e
  obtain ⟨_, h4, h5⟩ := List.nodup_append.1 hnd
  rcases List.mem_append.1 hm with hm | hm
  ·
   exact h5 b' (List.mem_map.2 ⟨_, hm, rfl⟩) b' List.mem_cons_self rfl
  ·
   exact (List.nodup_cons.1 h4).1 (List.mem_map.2 ⟨_, hm, rfl⟩)
 refine ⟨h.bel.grown hg h.bel.size (fun k hk => by injection hk with hk; omega), by rw [List.map_append, List.map_cons]; exact hnd, fun b' T' q' hm => ?_⟩
 have other : (b', T', q') ∈ xs ++ ys → (b', T', q') ∈ xs ++ (b, T, pre ++ (old ++ post)) :: ys → w.heap.size ≤ b' ∧ Ce (setM W b off us) b' T' q' := fun h1 h2 => by
  obtain ⟨g1, cs', g2, g3⟩ := h.box b' T' q' h2
  exact ⟨g1, cs', (hg.block b' (lt_of_block g2) (fun e => hn _ _ _ h1 (by injection e))).trans g2, g3.upto hb hnw hg⟩
 rcases List.mem_append.1 hm with hm | hm
 ·
  exact other (List.mem_append_left _ hm) (List.mem_append_left _ hm)
 ·
  rcases List.mem_cons.1 hm with e | hm
  ·
   cases e
   refine ⟨hge, c ++ (us ++ d), ?_, (((k4.upto hb hnw hg).app (hv.upto hb hnw hg)).app (k1.upto hb hnw hg))⟩
   have := Su (T := T) us o c d W (by rw [hv.len, hl, ← k3.len]) hb
   rwa [k1.len, ← ho] at this
  ·
   exact other (List.mem_append_right _ hm) (List.mem_append_right _ (List.mem_cons_of_mem _ hm))
theorem azw {W : World} {b off : Nat} {T : TypeId} {ls ks : List Leaf} {us : List Value} {v : Value} (h : Ce W b T ls) (hv : ai ks W v) : ai ks (setM W b off us) v := by
 obtain ⟨cs, h1, h2⟩ := h
 obtain ⟨ds, e, h3⟩ := hv
 exact ⟨ds, e, h3.upto h1 h2.noW (zm b us off W W (ug _ _))⟩
def az (w : World) (bs : List za) (V : World) : World → Prop := fun W => Own w bs W ∧ gm V W
theorem az.step {w V : World} {bs : List za} : ∀ W W', az w bs V W → gm W W' → az w bs V W' := fun W W' h hb => ⟨Own.step W W' h.1 hb, bz h.2 hb⟩
theorem az.size {w V : World} {bs : List za} : ∀ W, az w bs V W → V.heap.size ≤ W.heap.size := fun _ h => h.2.size
theorem az.start {w V : World} {bs : List za} (h : Own w bs V) : az w bs V V.drew := ⟨Own.step _ _ h (gm.drew V), gm.drew V⟩
theorem az.begin {w V : World} {bs : List za} (h : Own w bs V) : az w bs V V := ⟨h, Below.refl _ _⟩
theorem az.box {w V W : World} {bs : List za} {b : Nat} {T : TypeId} {ls : List Leaf} (hm : (b, T, ls) ∈ bs) (h : az w bs V W) : Ce W b T ls := (h.1.box b T ls hm).2
theorem az.bel {w V W : World} {bs : List za} (h : az w bs V W) : Below w.heap.size w W := h.1.bel

def Io (P : Program) (T : TypeId) (n : Nat) : Prop := ∀ (ρ : Operand → Value) (w : World) (d : Option Tmp) (x : Operand) (b off : Nat) (us : List Value) (ty : TypeId) (pos : String) (af : Array Edge) (gd : Option (Nat × Bool)), us.length = n → (∀ i, i < n → w.cell? ⟨b, off + i, none⟩ = us[i]?) → ρ x = .pointer (some ⟨b, off, none⟩) →
 (execOp ρ { dst := d, op := .load T x, type := ty, pos := pos, after := af, guard := gd }).run P w = .ok (.value (.agg us.toArray)) w
theorem adt {w : World} {b : Nat} {T : TypeId} {c m d : List Value} (h : w.heap[b]? = some (.cells (c ++ (m ++ d)).toArray T (0, 0))) (i : Nat) (hi : i < m.length) : w.cell? ⟨b, c.length + i, none⟩ = m[i]? := by
 rw [ah h]
 simp only [List.getElem?_toArray]
 rw [List.getElem?_append_right om, Nat.add_sub_cancel_left, List.getElem?_append_left hi]
theorem xk {P : Program} {Q : Exit → Act → World → Prop} {l : List Oper} {n : Nat} {T : Nat → World → Value → Prop} {G : World → Prop} {al : List Nat} {a0 : Act} {k d b off m : Nat} {x : Operand} {TB TL : TypeId} {pre mid post : List Leaf} {ty : TypeId} {pos : String} {af : Array Edge} {gd : Option (Nat × Bool)}
  (hL : Io P TL m) (hal : al.contains k = false) (hx : Rg.ji l n T a0 k x (Rg.ax (.pointer (some ⟨b, off, none⟩)))) (hb : ∀ W, G W → Ce W b TB (pre ++ (mid ++ post))) (ho : lsize pre = off) (hm : lsize mid = m) (hT : T k = ai mid) :
  Rg.Step P Q l n T G gm al a0 k { dst := some d, op := .load TL x, type := ty, pos := pos, after := af, guard := gd } := by
 intro a w hG hO hN
 obtain ⟨cs, h1, h2⟩ := hb w hG
 obtain ⟨c, cd, rfl, k1, k2⟩ := h2.cut
 obtain ⟨o, e, rfl, k3, k4⟩ := k2.cut
 have hlen : o.length = m := by rw [k3.len, hm]
 have hr := hL a.eval w (some d) x b off o ty pos af gd hlen (fun i hi => by
  have := adt h1 i om
  rwa [k1.len, ho] at this) (hx a w hO hN)
 exact pz hr ⟨_, rfl, hG, Below.refl _ _, by rw [hT]; exact ⟨o, rfl, k3⟩, fun h => by rw [hal] at h; cases h⟩
def Cv (P : Program) (T : TypeId) (n : Nat) : Prop := ∀ (ρ : Operand → Value) (w : World) (d : Option Tmp) (p x : Operand) (b off : Nat) (cs : List Value) (TB : TypeId) (us : List Value) (ty : TypeId) (pos : String) (af : Array Edge) (gd : Option (Nat × Bool)), us.length = n → (∀ u ∈ us, u.oneCell' = true) → w.heap[b]? = some (.cells cs.toArray TB (0, 0)) → off + n ≤ cs.length → ρ p = .pointer (some ⟨b, off, none⟩) → ρ x = .agg us.toArray →
 (execOp ρ { dst := d, op := .store T p x, type := ty, pos := pos, after := af, guard := gd }).run P w = .ok .skip (setM w b off us)
end Sb

end Go.Proofs.YtjdnmdlnaoedoaaGreatDoor
namespace Go.Proofs.YtjdnmdlnaoedoaaGreatDoor
open Go.RowKit

namespace Sb
theorem Hu {W : World} {x : Rat} {v : Value} (h : ai [.q x] W v) : ∃ s1 n1 A1 c1 l1 s2 n2 A2 c2 l2, v = .agg #[.int .i64 s1, .bool n1, .slice A1 (List.length l1) c1, .int .i64 s2, .bool n2, .slice A2 (List.length l2) c2] ∧ ig W s1 n1 A1 c1 l1 x.num ∧ ig W s2 n2 A2 c2 l2 (x.den : Int) := by
 obtain ⟨cs, rfl, h⟩ := h
 obtain ⟨s1, n1, A1, c1, l1, s2, n2, A2, c2, l2, r, rfl, h1, h2, h3⟩ := h.alq
 cases h3
 exact ⟨_, _, _, _, _, _, _, _, _, _, rfl, h1, h2⟩
theorem Gj {W : World} {n : Int} {v : Value} (h : ai [.z n] W v) : ∃ s1 n1 A1 c1 l1, v = .agg #[.int .i64 s1, .bool n1, .slice A1 (List.length l1) c1] ∧ ig W s1 n1 A1 c1 l1 n := by
 obtain ⟨cs, rfl, h⟩ := h
 obtain ⟨s1, n1, A1, c1, l1, r, rfl, h1, h3⟩ := h.aks
 cases h3
 exact ⟨_, _, _, _, _, rfl, h1⟩
theorem Mr {W : World} {a b : Int} {v : Value} (h : ai [.z a, .z b] W v) : ∃ s1 n1 A1 c1 l1 s2 n2 A2 c2 l2, v = .agg #[.int .i64 s1, .bool n1, .slice A1 (List.length l1) c1, .int .i64 s2, .bool n2, .slice A2 (List.length l2) c2] ∧ ig W s1 n1 A1 c1 l1 a ∧ ig W s2 n2 A2 c2 l2 b := by
 obtain ⟨cs, rfl, h⟩ := h
 obtain ⟨s1, n1, A1, c1, l1, r, rfl, h1, h⟩ := h.aks
 obtain ⟨s2, n2, A2, c2, l2, r, rfl, h2, h⟩ := h.aks
 cases h
 exact ⟨_, _, _, _, _, _, _, _, _, _, rfl, h1, h2⟩
theorem Wl {W : World} {a b : Value} {v : Value} (h : ai [.v a, .v b] W v) : v = .agg #[a, b] := by
 obtain ⟨cs, rfl, h⟩ := h
 obtain ⟨r, rfl, _, h⟩ := h.Wy
 obtain ⟨r, rfl, _, h⟩ := h.Wy
 cases h; rfl
theorem Bg {W : World} {a b c d : Value} {v : Value} (h : ai [.v a, .v b, .v c, .v d] W v) : v = .agg #[a, b, c, d] := by
 obtain ⟨cs, rfl, h⟩ := h
 obtain ⟨r, rfl, _, h⟩ := h.Wy
 obtain ⟨r, rfl, _, h⟩ := h.Wy
 obtain ⟨r, rfl, _, h⟩ := h.Wy
 obtain ⟨r, rfl, _, h⟩ := h.Wy
 cases h; rfl
theorem Px {W : World} {x y : Rat} {v : Value} (h : ai [.q x, .q y] W v) : ∃ s1 n1 A1 c1 l1 s2 n2 A2 c2 l2 s3 n3 A3 c3 l3 s4 n4 A4 c4 l4, v = .agg #[.int .i64 s1, .bool n1, .slice A1 (List.length l1) c1, .int .i64 s2, .bool n2, .slice A2 (List.length l2) c2, .int .i64 s3, .bool n3, .slice A3 (List.length l3) c3, .int .i64 s4, .bool n4, .slice A4 (List.length l4) c4] ∧ ig W s1 n1 A1 c1 l1 x.num ∧ ig W s2 n2 A2 c2 l2 (x.den : Int) ∧ ig W s3 n3 A3 c3 l3 y.num ∧ ig W s4 n4 A4 c4 l4 (y.den : Int) := by
 obtain ⟨cs, rfl, h⟩ := h
 obtain ⟨s1, n1, A1, c1, l1, s2, n2, A2, c2, l2, r, rfl, h1, h2, h⟩ := h.alq
 obtain ⟨s3, n3, A3, c3, l3, s4, n4, A4, c4, l4, r, rfl, h3, h4, h⟩ := h.alq
 cases h
 exact ⟨_, _, _, _, _, _, _, _, _, _, _, _, _, _, _, _, _, _, _, _, rfl, h1, h2, h3, h4⟩
theorem azx (W : World) {a b : Value} (ha : Pb a) (hb : Pb b) : ai [.v a, .v b] W (.agg #[a, b]) := ⟨[a, b], rfl, gu.v ha (gu.v hb rfl)⟩
theorem Uf (W : World) (a b : Int) : ai [.v (.int .i64 a), .v (.int .i64 b)] W (.agg #[.int .i64 a, .int .i64 b]) := azx W (jm _) (jm _)
theorem avx (W : World) (a b c d : Int) : ai [.v (.int .i64 a), .v (.int .i64 b), .v (.int .i64 c), .v (.int .i64 d)] W (.agg #[.int .i64 a, .int .i64 b, .int .i64 c, .int .i64 d]) := ⟨[_, _, _, _], rfl, gu.v (jm _) (gu.v (jm _) (gu.v (jm _) (gu.v (jm _) rfl)))⟩
theorem Oz {w w' : World} {q : Rat} {e : Ending} (h : Hy w q.num (q.den : Int) e w') : il (ai [.q q]) w e w' := by
 obtain ⟨s1, n1, A1, c1, l1, s2, n2, A2, c2, l2, rfl, h1, h2, hb⟩ := h
 exact ⟨_, rfl, hb, _, rfl, gu.q h1 h2 rfl⟩
theorem Xh {w w' : World} {z : Int} {e : Ending} (h : En w z e w') : il (ai [.z z]) w e w' := by
 obtain ⟨s1, n1, A1, c1, l1, rfl, h1, hb⟩ := h
 exact ⟨_, rfl, hb, _, rfl, gu.z h1 rfl⟩
theorem apo {w w' : World} {a b : Int} {e : Ending} (h : il (ai [.z a, .z b]) w e w') : Hy w a b e w' := by
 obtain ⟨u, rfl, hb, h⟩ := h
 obtain ⟨s1, n1, A1, c1, l1, s2, n2, A2, c2, l2, rfl, f1, f2⟩ := Mr h
 exact ⟨_, _, _, _, _, _, _, _, _, _, rfl, f1, f2, hb⟩
theorem We {w w' : World} {u : Value} {e : Ending} (h : e = .returned u ∧ Below w.heap.size w w') : il (Rg.ax u) w e w' := ⟨u, h.1, h.2, rfl⟩
theorem axm {F : Nat} {x q : Rat} {W : World} {v0 : Value} (h : Uh W F x q) (h0 : ai [.q x] W v0) : Calls Tryz.prog F #[v0] W (il (ai [.q q]) W) := by
 obtain ⟨s1, n1, A1, c1, l1, s2, n2, A2, c2, l2, rfl, f1, f2⟩ := Hu h0
 exact (h _ _ _ _ _ _ _ _ _ _ W (Below.refl _ _) f1 f2).mono fun e w' h => Oz h
theorem aeo {F : Nat} {x y q : Rat} {W : World} {v0 v1 : Value} (h : Le W F x y q) (h0 : ai [.q x] W v0) (h1 : ai [.q y] W v1) : Calls Tryz.prog F #[v0, v1] W (il (ai [.q q]) W) := by
 obtain ⟨s1, n1, A1, c1, l1, s2, n2, A2, c2, l2, rfl, f1, f2⟩ := Hu h0
 obtain ⟨s3, n3, A3, c3, l3, s4, n4, A4, c4, l4, rfl, f3, f4⟩ := Hu h1
 exact (h _ _ _ _ _ _ _ _ _ _ _ _ _ _ _ _ _ _ _ _ W (Below.refl _ _) f1 f2 f3 f4).mono fun e w' h => Oz h
theorem abe {F : Nat} {x y q : Int} {W : World} {v0 v1 : Value} (h : Dh W F x y q) (h0 : ai [.z x] W v0) (h1 : ai [.z y] W v1) : Calls Tryz.prog F #[v0, v1] W (il (ai [.z q]) W) := by
 obtain ⟨s1, n1, A1, c1, l1, rfl, f1⟩ := Gj h0
 obtain ⟨s2, n2, A2, c2, l2, rfl, f2⟩ := Gj h1
 exact (h _ _ _ _ _ _ _ _ _ _ W (Below.refl _ _) f1 f2).mono fun e w' h => Xh h
theorem i2 {F : Nat} {x y q : Int} {w W : World} {v0 v1 : Value} (h : Dh w F x y q) (hb : Below w.heap.size w W) (h0 : ai [.z x] W v0) (h1 : ai [.z y] W v1) : Calls Tryz.prog F #[v0, v1] W (il (ai [.z q]) W) := by
 obtain ⟨s1, n1, A1, c1, l1, rfl, f1⟩ := Gj h0
 obtain ⟨s2, n2, A2, c2, l2, rfl, f2⟩ := Gj h1
 exact (h _ _ _ _ _ _ _ _ _ _ W hb f1 f2).mono fun e w' h => Xh h
end Sb

end Go.Proofs.YtjdnmdlnaoedoaaGreatDoor
