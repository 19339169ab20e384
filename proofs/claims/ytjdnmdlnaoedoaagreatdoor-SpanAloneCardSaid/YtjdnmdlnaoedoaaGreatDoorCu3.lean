/- Texts beneath a law of layer 1. -/
import Derived.Test.YtjdnmdlnaoedoaaGreatDoorCu2
import Derived.Shelf.Spec.TrailingZeros
import Derived.Test.YtjdnmdlnaoedoaaGreatDoorProg
import Derived.KernelRfl
import Derived.Laws.Bits64b
import Derived.Deep.LoopGhost
import Derived.Laws.CopyOwn
set_option maxRecDepth 100000
set_option maxHeartbeats 16000000
namespace Go.Proofs.YtjdnmdlnaoedoaaGreatDoor
open Go.RowKit

theorem Vf (x : Nat) (hx : x < fo) (w : World) : Calls Tryz.prog 187 #[.int .u64 ((x : Nat) : Int)] w fun e w' => Fw w x e w' := by
 by_cases h : x = 0
 ·
  subst h
  go_enter Tryz.func187, Tryz.ntmps187
  go_wp2
  go_ret
  exact ⟨none, 0, [], rfl, lv.Qz _ _ om, Below.refl _ _⟩
 ·
  have hb : ((x : Int) == 0) = false := by simp; omega
  go_enter Tryz.func187, Tryz.ntmps187
  go_wp2
  go_ret
  refine ⟨some ⟨w.heap.size, 0, none⟩, 1, [x], rfl, ?_, (Below.refl _ _).alloc (Nat.le_refl _) _⟩
  have hz : ZB .u64 (w.alloc (.cells #[.int .u64 (x : Int)] 135)) w.heap.size 135 [x] := heap_alloc_new w _
  exact ⟨hz.Et _ hz.lt, by simp, by omega, by simpa using hx, .inr (by simpa using h), by simp [Wd.val]⟩

def uk (n m : Nat) : Int := if n < m then -1 else if m < n then 1 else 0

theorem Lc (Ax Ay : Option Addr) (cx cy : Nat) (xl yl : List Nat) (n m : Nat) (w : World) (hx : lv w Ax cx xl n) (hy : lv w Ay cy yl m) :
  Calls Tryz.prog 175 #[.slice Ax xl.length cx, .slice Ay yl.length cy] w fun e w' => e = .returned (.int .i64 (uk n m)) ∧ ∃ k, w' = w.drewN k := by
 have hx1 := hx.tu; have hx2 := hx.cap2; have hy1 := hy.tu; have hy2 := hy.cap2
 by_cases hl : xl.length = yl.length
 ·
  have hb : (((xl.length : Nat) : Int) != ((yl.length : Nat) : Int)) = false := by simp; omega
  go_enter Tryz.func175, Tryz.ntmps175
  go_wp2
  go_loopw [5] (fun iv wr => ∃ i : Int, -1 ≤ i ∧ i < xl.length ∧ iv = .int .i64 i ∧ Hid (∀ j : Nat, i < j → j < xl.length → xl.getD j 0 = yl.getD j 0) ∧ Hid (∃ t, wr = w.drewN t)) (fun iv _ => (intOf iv + 1).toNat)
  case atStart => exact ⟨(yl.length : Int) - 1, by omega, by omega, rfl, fun j h1 h2 => by omega, ⟨0, rfl⟩⟩
  case round =>
   obtain ⟨i, hi1, hi2, rfl, hall, ht⟩ := hrel
   by_cases h0 : i < 0
   ·
    have hv : uk n m = 0 := by
     have : xl = yl := Wd.Nf xl yl hl (fun j hj => hall.out j om hj)
     rw [← hx.val, ← hy.val, this]
     unfold uk
     rw [if_neg om, if_neg om]
    have HV := Lib.hid hv
    clear hv hl
    go_wp2
    go_ret
    exact ⟨wy HV.out.symm, ht.out⟩
   ·
    obtain ⟨j, rfl⟩ := Int.eq_ofNat_of_zero_le (show 0 ≤ i by omega)
    have Vp : j < xl.length := by omega
    have hjy : j < yl.length := by omega
    obtain ⟨bx, ox, rfl, hbx, hcx⟩ := hx.ws om
    obtain ⟨by', oy, rfl, hby, hcy⟩ := hy.ws om
    have hsame : ∀ p, wr.cell? p = w.cell? p := fun p => by obtain ⟨t, rfl⟩ := ht.out; rfl
    have Eo := (hsame _).trans (hcx j Vp)
    have Pm := (hsame _).trans (hcy j hjy)
    clear hcx hcy hsame
    obtain ⟨xj, hxj⟩ : ∃ xj, xj = Wd.g xl j := ⟨_, rfl⟩
    obtain ⟨yj, hyj⟩ : ∃ yj, yj = Wd.g yl j := ⟨_, rfl⟩
    rw [← hxj] at Eo
    rw [← hyj] at Pm
    by_cases he : xj = yj
    ·
     have hb : ((xj : Int) != (yj : Int)) = false := by simp; omega
     have hnext : ∀ t : Nat, ((j : Int) - 1 < t) → t < xl.length → xl.getD t 0 = yl.getD t 0 := fun t h1 h2 => by
      by_cases ht : t = j
      ·
       subst ht; exact hxj.symm.trans (he.trans hyj)
      ·
       exact hall.out t om h2
     have HN := hide hnext
     clear hnext hxj hyj he hl
     go_wp2_with fail
     go_region
     go_wp2_with fail
     go_roundw
     case rel => exact ⟨(j : Int) - 1, by omega, by omega, rfl, HN, by obtain ⟨t, rfl⟩ := ht.out; exact ⟨t + 1, rfl⟩⟩
     case measure => simp [intOf] <;> omega
    ·
     have hb : ((xj : Int) != (yj : Int)) = true := by simp; omega
     have hv : uk n m = if xj < yj then -1 else 1 := by
      rw [← hx.val, ← hy.val]
      unfold uk
      by_cases h : xj < yj
      ·
       rw [if_pos h, if_pos (Wd.He xl yl hx.lt hl j Vp (fun t h1 h2 => hall.out t om h2) (by show Wd.g xl j < Wd.g yl j; omega))]
      ·
       have := Wd.He yl xl hy.lt hl.symm j hjy (fun t h1 h2 => (hall.out t om om).symm) (by show Wd.g yl j < Wd.g xl j; omega)
       rw [if_neg h, if_neg om, if_pos this]
     have HV := Lib.hid hv
     clear hv hxj hyj hl
     by_cases hlt : xj < yj
     ·
      have hv2 := HV.out
      rw [if_pos hlt] at hv2
      have Nn := Lib.hid hv2
      clear hv2
      go_wp2_with fail
      go_region
      go_wp2_with fail
      go_region_with (go_at_call 181; refine (Ql _ _).mono ?_; rintro e w' ⟨rfl, rfl⟩)
      all_goals
       go_wp2_with fail
       go_ret
       exact ⟨wy Nn.out.symm, by obtain ⟨t, rfl⟩ := ht.out; exact ⟨t + 2, rfl⟩⟩
     ·
      have hv2 := HV.out
      rw [if_neg hlt] at hv2
      have Nn := Lib.hid hv2
      clear hv2
      go_wp2_with fail
      go_region
      go_wp2_with fail
      go_region_with (go_at_call 181; refine (Ql _ _).mono ?_; rintro e w' ⟨rfl, rfl⟩)
      all_goals
       go_wp2_with fail
       go_ret
       exact ⟨wy Nn.out.symm, by obtain ⟨t, rfl⟩ := ht.out; exact ⟨t + 2, rfl⟩⟩
 ·
  have hb : (((xl.length : Nat) : Int) != ((yl.length : Nat) : Int)) = true := by simp; omega
  have ho : uk n m = if xl.length < yl.length then -1 else 1 := by
   unfold uk
   rw [← hx.val, ← hy.val]
   by_cases h : xl.length < yl.length
   ·
    rw [if_pos h, if_pos (Wd.zu qj xl yl hx.lt hy.norm h)]
   ·
    have := Wd.zu qj yl xl hy.lt hx.norm om
    rw [if_neg h, if_neg om, if_pos this]
  have HO := Lib.hid ho
  clear ho
  go_enter Tryz.func175, Tryz.ntmps175
  go_wp2_with (go_at_call 181; refine (Ql _ _).mono ?_; rintro e w' ⟨rfl, rfl⟩)
  all_goals
   go_ret
   refine ⟨wy ?_, ⟨0, rfl⟩⟩
   rw [HO.out]
  ·
   rw [if_pos om]
  ·
   rw [if_neg om]
end Go.Proofs.YtjdnmdlnaoedoaaGreatDoor
namespace Go.Proofs.YtjdnmdlnaoedoaaGreatDoor

namespace Wd
structure Al (B V : Nat) (U us q : List Nat) (k : Nat) : Prop where
 Cw : us.length = U.length
 lt : ∀ x ∈ us, x < B
 ltq : ∀ x ∈ q, x < B
 low : ∀ j, j < k → us.getD j 0 = U.getD j 0
 eq : val B (U.drop k) = val B (q.drop k) * V + val B (us.drop k)
 rest : val B (us.drop k) < V

theorem Zo {B : Nat} (hB : 0 < B) (l : List Nat) (n : Nat) (h : val B l < B ^ n) (i : Nat) (hi : n ≤ i) : l.getD i 0 = 0 := by
 apply Classical.byContradiction
 intro hne
 have hlt : i < l.length := by
  apply Classical.byContradiction
  intro h2
  exact hne (by simp [List.getD, List.getElem?_eq_none (by omega : l.length ≤ i)])
 have h1 := Qe B l (i + 1)
 rw [mi B l i] at h1
 have h2 : B ^ i * 1 ≤ B ^ i * l.getD i 0 := Nat.mul_le_mul_left _ om
 have h3 : B ^ n ≤ B ^ i := Nat.pow_le_pow_right hB hi
 omega

theorem Qy (B : Nat) (l : List Nat) (n : Nat) (h : ∀ i, n ≤ i → l.getD i 0 = 0) : val B (l.take n) = val B l := by
 by_cases hn : n ≤ l.length
 ·
  exact Nj B l n hn (fun i h1 _ => h i h1)
 ·
  rw [List.take_of_length_le om]

theorem getD_drop (l : List Nat) (k i : Nat) : (l.drop k).getD i 0 = l.getD (k + i) 0 := by
 simp [List.getD, List.getElem?_drop]

theorem Al.window {B V : Nat} {U us q : List Nat} {k n : Nat} (hB : 1 < B) (h : Al B V U us q (k + 1)) (hV : V < B ^ n) :
  val B ((us.drop k).take (n + 1)) = U.getD k 0 + B * val B (us.drop (k + 1)) ∧ val B ((us.drop k).take (n + 1)) < B * V ∧ val B ((us.drop k).take (n + 1)) = val B (us.drop k) := by
 have hz : ∀ i, n + 1 ≤ i → (us.drop k).getD i 0 = 0 := fun i hi => by
  have := Zo om (us.drop (k + 1)) n (Nat.lt_trans h.rest hV) (i - 1) om
  rw [getD_drop] at this ⊢
  rwa [show k + 1 + (i - 1) = k + i by omega] at this
 have e := Qy B (us.drop k) (n + 1) hz
 have e2 := Ou B us k
 rw [h.low k om] at e2
 refine ⟨e.trans e2, ?_, e⟩
 rw [e, e2]
 have hx : U.getD k 0 < B := by
  rw [← h.low k om]; exact getD_lt om us h.lt k
 have := h.rest
 have h2 : B * (val B (us.drop (k + 1)) + 1) ≤ B * V := Nat.mul_le_mul_left _ this
 rw [Nat.mul_add, Nat.mul_one] at h2
 omega

theorem Al.step {B V : Nat} {U us q us' : List Nat} {k n qk : Nat} (hB : 1 < B) (h : Al B V U us q (k + 1)) (hV : V < B ^ n) (Jp : 0 < V) (hq : k < q.length)
  (hqk : qk = val B ((us.drop k).take (n + 1)) / V) (hr : val B (us'.drop k) = val B ((us.drop k).take (n + 1)) % V) (hlen : us'.length = us.length) (hlt : ∀ x ∈ us', x < B)
  (hlow : ∀ j, j < k → us'.getD j 0 = us.getD j 0) : Al B V U us' (q.set k qk) k := by
 obtain ⟨w1, w2, w3⟩ := h.window hB hV
 refine ⟨hlen.trans h.Cw, hlt, Bd _ _ _ h.ltq ?_, fun j hj => (hlow j hj).trans (h.low j om), ?_, ?_⟩
 ·
  rw [hqk, Nat.div_lt_iff_lt_mul Jp]; exact w2
 ·
  rw [Ou, Ou B (q.set _ _), Yd, Nc _ _ _ hq, h.eq, hr]
  have Ci := Nat.div_add_mod (val B ((us.drop k).take (n + 1))) V
  rw [← hqk] at Ci
  rw [w1] at Ci ⊢
  generalize (U.getD k 0 + B * val B (us.drop (k + 1))) % V = r at *
  have e1 : B * (val B (q.drop (k + 1)) * V) = B * val B (q.drop (k + 1)) * V := by rw [Nat.mul_assoc]
  have e2 : qk * V = V * qk := Nat.mul_comm _ _
  rw [Nat.mul_add, Nat.add_mul, e1, e2]
  omega
 ·
  rw [hr]; exact Nat.mod_lt _ Jp

theorem Al.done {B V : Nat} {U us q : List Nat} (h : Al B V U us q 0) : val B q = val B U / V ∧ val B us = val B U % V := by
 have e := h.eq
 have hr := h.rest
 simp only [List.drop_zero] at e hr
 rw [e]
 constructor
 ·
  rw [Nat.mul_comm, Nat.mul_add_div om, Nat.div_eq_of_lt hr]; omega
 ·
  rw [Nat.mul_comm, Nat.mul_add_mod, Nat.mod_eq_of_lt hr]

theorem Al.start {B V : Nat} (U q : List Nat) (k : Nat) (hU : ∀ x ∈ U, x < B) (hq : ∀ x ∈ q, x < B) (hql : q.length = k) (htop : val B U < V * B ^ k) : Al B V U U q k := by
 refine ⟨rfl, hU, hq, fun _ _ => rfl, ?_, ?_⟩
 ·
  rw [List.drop_of_length_le (by omega : q.length ≤ k)]; simp [val]
 ·
  have h1 := Qe B U k
  by_cases hk : k ≤ U.length
  ·
   rw [Nat.min_eq_left hk] at h1
   have h2 : B ^ k * val B (U.drop k) < B ^ k * V := by rw [Nat.mul_comm _ V]; omega
   exact Nat.lt_of_mul_lt_mul_left h2
  ·
   rw [List.drop_of_length_le om]
   rcases Nat.eq_zero_or_pos V with h0 | h0
   ·
    subst h0; simp at htop
   ·
    exact h0
end Wd
end Go.Proofs.YtjdnmdlnaoedoaaGreatDoor
namespace Go.Proofs.YtjdnmdlnaoedoaaGreatDoor
open Go.RowKit

theorem qb {B : Nat} {a w : World} (h : Below B a w) (n : Nat) : Below B a (w.drewN n) := ⟨h.os, h.tape, h.output, h.size, h.block⟩

theorem Te (B : Nat) (l : List Nat) (h : l.length = 1) : Wd.g l 0 = Wd.val B l := by
 match l, h with
 | [a], _ => simp [Wd.val, Wd.g]

def bew (w : World) (q r : Nat) (e : Ending) (w' : World) : Prop :=
 ∃ A cap l A' cap' l', e = .returned (.tuple #[.slice A l.length cap, .slice A' l'.length cap']) ∧ lv w' A cap l q ∧ lv w' A' cap' l' r ∧ Below w.heap.size w w'
theorem aeb {A : Option Addr} {cap k n : Nat} {r s : Int} (h : k = n) (h' : r = s) : Ending.returned (.tuple #[.slice A k cap, .int .u64 r]) = .returned (.tuple #[.slice A n cap, .int .u64 s]) := by rw [h, h']
theorem Sy {A A' : Option Addr} {cap cap' k n k' n' : Nat} (h : k = n) (h' : k' = n') : Ending.returned (.tuple #[.slice A k cap, .slice A' k' cap']) = .returned (.tuple #[.slice A n cap, .slice A' n' cap']) := by rw [h, h']

theorem ajf (Ax : Option Addr) (cx : Nat) (xl : List Nat) (n y : Nat) (w : World) (hx : lv w Ax cx xl n) (hy : y < fo) (hy0 : 0 < y) (hk : xl.length ≤ 35184372088832) :
  Calls Tryz.prog 196 #[.slice Ax xl.length cx, .int .u64 ((y : Nat) : Int)] w fun e w' =>
   ∃ A cap l, e = .returned (.tuple #[.slice A l.length cap, .int .u64 ((n % y : Nat) : Int)]) ∧ lv w' A cap l (n / y) ∧ Below w.heap.size w w' := by
 have hmk := Ma xl.length hk
 have hx1 := hx.tu; have hx2 := hx.cap2
 go_enter Tryz.func196, Tryz.ntmps196
 go_wp2
 go_loopw [7, 8] (fun rv iv wr => ∃ (i : Int) (r : Nat) (qc : List Nat), -1 ≤ i ∧ i < xl.length ∧ iv = .int .i64 i ∧ rv = .int .u64 ((r : Nat) : Int) ∧ Hid (Wd.Dp fo xl qc y (i + 1).toNat r) ∧ ZB .u64 wr w.heap.size 135 qc ∧ Below w.heap.size w wr) (fun _ iv _ => (intOf iv + 1).toNat)
 case atStart =>
  refine ⟨(xl.length : Int) - 1, 0, List.replicate xl.length 0, by omega, by omega, rfl, rfl, ?_, heap_alloc_new w _, (Below.refl _ _).alloc (Nat.le_refl _) _⟩
  rw [show ((xl.length : Int) - 1 + 1).toNat = xl.length by omega]
  exact Wd.Dp.start _ _ _ (by simp) hy0 (Kk (by rw [ic]; omega) _)
 case round =>
  obtain ⟨i, r, qc, hi1, hi2, rfl, rfl, HI, mh, hg⟩ := hrel
  have hlen := HI.out.len
  by_cases h0 : i < 0
  ·
   have e : i = -1 := by omega
   subst e
   obtain ⟨v1, v2⟩ := HI.out.done
   rw [hx.val] at v1 v2
   have V1 := Lib.hid v1; have V2 := Lib.hid v2
   clear v1 v2
   go_wp2_with fail
   have htr := Fp (some ⟨w.heap.size, 0, none⟩) qc.length qc (wr.heap.size) wr (mh.Et _ mh.lt) (Nat.le_refl _) om
   rw [hlen] at htr
   refine htr.mono ?_
   rintro e w' ⟨⟨k, rfl, ht, hk2⟩, rfl⟩
   go_wp2_with fail
   go_ret2
   have hk3 : k = (qc.take k).length := by simp; omega
   refine ⟨some ⟨w.heap.size, 0, none⟩, xl.length, qc.take k, aeb hk3 (by rw [V2.out]), ?_, hg⟩
   have := lv.Ct (cap := xl.length) mh HI.out.lt ht om om om
   rwa [V1.out] at this
  ·
   obtain ⟨j, rfl⟩ := Int.eq_ofNat_of_zero_le (show 0 ≤ i by omega)
   have Vp : j < xl.length := by omega
   obtain ⟨bx, ox, rfl, hbx, hcx⟩ := hx.ws om
   have Eo := (hg.cell (p := ⟨bx, ox + j, none⟩) hbx).trans (hcx j Vp)
   clear hcx
   have hzc := mh.cell j om
   have Pj := mh.frozen j
   obtain ⟨xj, hxj⟩ : ∃ t, t = Wd.g xl j := ⟨_, rfl⟩
   rw [← hxj] at Eo
   have yo : xj < fo := by rw [hxj]; exact Wd.getD_lt (by rw [ic]; omega) _ hx.lt _
   have hinv : Wd.Dp fo xl qc y (j + 1) r := by have := HI.out; rwa [show ((j : Int) + 1).toNat = j + 1 by omega] at this
   have hry := hinv.r1
   obtain ⟨q, hq⟩ : ∃ t, t = (r * fo + xj) / y := ⟨_, rfl⟩
   obtain ⟨s, hs⟩ : ∃ t, t = (r * fo + xj) % y := ⟨_, rfl⟩
   have hdiv := adr r xj y hy yo hry
   rw [← hq, ← hs] at hdiv
   have hfin : ∀ W k, W = (wr.drewN k).setCell ⟨w.heap.size, j, none⟩ (.int .u64 (q : Int)) → Hid (Wd.Dp fo xl (qc.set j q) y j s) ∧ ZB .u64 W w.heap.size 135 (qc.set j q) ∧ Below w.heap.size w W := by
    rintro W k rfl
    refine ⟨?_, (mh.drewN k).Dl _ _, (qb hg k).setCell (p := ⟨w.heap.size, j, none⟩) (Nat.le_refl _) _⟩
    rw [hq, hs, hxj]
    exact hinv.step Vp (by rw [← Wd.qz, ← hxj]; exact yo)
   have HF := hide hfin
   have HD := hide hdiv
   clear hfin hdiv hq hs hxj yo hinv hry mh hg HI
   go_wp2_with fail
   refine ((aa HD) _).mono ?_
   rintro e w' ⟨rfl, k, rfl⟩
   go_wp2_with fail
   go_roundw
   case rel =>
    obtain ⟨r1, r2, r3⟩ := (aa HF) _ k rfl
    exact ⟨(j : Int) - 1, s, qc.set j q, by omega, by omega, rfl, rfl, by rw [show ((j : Int) - 1 + 1).toNat = j by omega]; exact r1, r2, r3⟩
   case measure => simp [intOf] <;> omega

theorem awy (Ax : Option Addr) (cx : Nat) (xl : List Nat) (n s : Nat) (w : World) (hx : lv w Ax cx xl n) (hs : s < 64) (hk : xl.length + 1 ≤ 35184372088832) :
  Calls Tryz.prog 198 #[.slice Ax xl.length cx, .int .u64 ((s : Nat) : Int)] w fun e w' =>
   ∃ b zr, e = .returned (.slice (some ⟨b, 0, none⟩) (xl.length + 1) (xl.length + 1)) ∧ w.heap.size ≤ b ∧ zr.length = xl.length + 1 ∧ (∀ x ∈ zr, x < fo) ∧ Wd.val fo zr = n * 2 ^ s ∧ ZB .u64 w' b 135 zr ∧ Below w.heap.size w w' :=
 (aty Ax cx xl n s w hx hs hk).mono fun e w' ⟨zr, h1, h2, h3, h4, h5, h6⟩ => ⟨w.heap.size, zr, h1, Nat.le_refl _, h2, h3, h4, h5, h6⟩

theorem Ye {B : Nat} (hB : 1 < B) (l : List Nat) (hn : Wd.Norm l) (hl : ∀ x ∈ l, x < B) (k : Nat) (hk : 0 < k) (h1 : B ^ (k - 1) ≤ Wd.val B l) (h2 : Wd.val B l < B ^ k) : l.length = k := by
 have a1 := Wd.Yr hB l hn k h2
 have a2 := Wd.Cf l hl
 apply Classical.byContradiction
 intro h
 have : B ^ l.length ≤ B ^ (k - 1) := Nat.pow_le_pow_right om om
 omega

theorem afc (yl : List Nat) (m s : Nat) (auw : s ≤ 64) (hn : 1 ≤ yl.length) (hlt : ∀ x ∈ yl, x < fo) (hv : Wd.val fo yl = m) (hs1 : yl.getD (yl.length - 1) 0 * 2 ^ s < fo) (ht : yl.getD (yl.length - 1) 0 ≠ 0) :
  fo ^ (yl.length - 1) * 2 ^ s ≤ m * 2 ^ s ∧ m * 2 ^ s < fo ^ yl.length := by
 have h2 := Wd.qp fo yl (yl.length - 1) om
 rw [show yl.length - 1 + 1 = yl.length by omega, Wd.jk _ _ _ (Nat.le_refl _), hv] at h2
 have h3 := Wd.Cf (B := fo) (yl.take (yl.length - 1)) (fun x hx => hlt x (List.mem_of_mem_take hx))
 rw [List.length_take, Nat.min_eq_left om] at h3
 have e : fo ^ yl.length = fo ^ (yl.length - 1) * fo := by rw [← Nat.pow_succ, show (yl.length - 1).succ = yl.length by omega]
 rw [e]
 generalize hP : fo ^ (yl.length - 1) = P at *
 generalize yl.getD (yl.length - 1) 0 = t at *
 have hS : 0 < 2 ^ s := Nat.pow_pos om
 have hsp := aag s auw
 generalize 2 ^ s = S at *
 generalize 2 ^ (64 - s) = T at *
 have h6 : t * S + S ≤ fo := by
  rw [← hsp, Nat.mul_comm S] at hs1 ⊢
  have := Nat.lt_of_mul_lt_mul_right hs1
  have h7 : (t + 1) * S ≤ T * S := Nat.mul_le_mul_right _ this
  rwa [Nat.add_mul, Nat.one_mul] at h7
 constructor
 ·
  refine Nat.mul_le_mul_right _ ?_
  have : P * 1 ≤ P * t := Nat.mul_le_mul_left _ om
  omega
 ·
  have h4 : m + 1 ≤ P * (t + 1) := by rw [Nat.mul_add, Nat.mul_one]; omega
  have h5 : (m + 1) * S ≤ P * (t + 1) * S := Nat.mul_le_mul_right _ h4
  rw [Nat.add_mul, Nat.one_mul, Nat.mul_assoc, Nat.add_mul, Nat.one_mul] at h5
  have : P * (t * S + S) ≤ P * fo := Nat.mul_le_mul_left _ h6
  omega

theorem avh (Ax Ay : Option Addr) (cx cy : Nat) (xl yl : List Nat) (n m : Nat) (w : World) (hx : lv w Ax cx xl n) (hy : lv w Ay cy yl m) (hm : 0 < m) (hk : xl.length + 1 ≤ 35184372088832) (hk2 : yl.length + 1 ≤ 35184372088832)
  (hn2 : 2 ≤ yl.length) (hny : yl.length ≤ xl.length) (o3 : Int) (HC : Hid (Calls Tryz.prog 175 #[.slice Ax xl.length cx, .slice Ay yl.length cy] w fun e w' => e = .returned (.int .i64 o3) ∧ ∃ k, w' = w.drewN k)) (ho : decide (o3 < 0) = false) :
  Calls Tryz.prog 178 #[.slice Ax xl.length cx, .slice Ay yl.length cy] w fun e w' => bew w (n / m) (n % m) e w' := by
 have hx1 := hx.tu; have hx2 := hx.cap2; have hy1 := hy.tu; have hy2 := hy.cap2
 have hb1 : ((yl.length : Int) == 1) = false := by simp; omega
 obtain ⟨by', oy, hA, hby, hcy⟩ := hy.ws om
 subst hA
 have hyt := hcy (yl.length - 1) om
 obtain ⟨yt, Ie⟩ : ∃ t, t = Wd.g yl (yl.length - 1) := ⟨_, rfl⟩
 rw [← Ie] at hyt
 have Ch : yt < fo := by rw [Ie]; exact Wd.getD_lt (by rw [ic]; omega) _ hy.lt _
 have hy0 : yt ≠ 0 := by
  rw [Ie]
  rcases hy.norm with h | h
  ·
   rw [h] at hn2; simp at hn2
  ·
   exact h
 obtain ⟨s, hs, hs1, hs2, hlz⟩ := aju yt Ch om w
 obtain ⟨vb1, vb2⟩ := afc yl m s om om hy.lt hy.val (by rw [← Wd.qz, ← Ie]; exact hs2) (by rw [← Wd.qz, ← Ie]; exact hy0)
 obtain ⟨lq, hlq⟩ : ∃ t, t = xl.length + 1 - yl.length := ⟨_, rfl⟩
 have Zc : ((lq : Nat) : Int) = (xl.length : Int) + 1 - (yl.length : Int) := by omega
 have hmk := Ma lq om
 rw [Zc] at hmk
 have bki : lq + yl.length = xl.length + 1 := by omega
 have HLZ := hide hlz
 have HLQ := Lib.hid Zc
 have HYT := Lib.hid Ie
 have Um := hide vb1; have Nn := hide vb2
 clear hlz Ie hcy vb1 vb2 hs1 hs2 Zc hlq
 go_enter Tryz.func178, Tryz.ntmps178
 go_wp2_with fail
 refine (aa HC).mono ?_
 rintro e w' ⟨rfl, k, rfl⟩
 go_wp2_with fail
 refine ((aa HLZ) _).mono ?_
 rintro e w1 ⟨rfl, hw1⟩
 have Jb : Below w.heap.size w w1 := by rw [hw1]; exact qb (Below.refl _ _) k
 clear hw1
 go_wp2_with fail
 refine (awy _ cy yl m s w1 (hy.below Jb) hs hk2).mono ?_
 rintro e w2 ⟨bv, vz, rfl, hbv, hvl, Zb, hvv, Rt, hb2⟩
 have HVL := Lib.hid hvl; have HVV := Lib.hid hvv
 clear hvl hvv
 go_wp2_with fail
 have htr := Fp (some ⟨bv, 0, none⟩) vz.length vz w2.heap.size w2 (Rt.Et _ Rt.lt) (Nat.le_refl _) (by have := HVL.out; omega)
 rw [HVL.out] at htr
 refine htr.mono ?_
 rintro e w3 ⟨⟨kv, rfl, ht, hkv⟩, hw3⟩
 obtain rfl : w2 = w3 := hw3.symm
 clear hw3
 have Gu : (vz.take kv).length = yl.length := by
  refine Ye qj _ ht.norm (fun x hx => Zb x (List.mem_of_mem_take hx)) _ om ?_ ?_
  ·
   rw [ht.val, HVV.out]; exact Nat.le_trans (Nat.le_mul_of_pos_right _ (Nat.pow_pos om)) (aa Um)
  ·
   rw [ht.val, HVV.out]; exact aa Nn
 have auz : kv = yl.length := by have := HVL.out; rw [List.length_take] at Gu; omega
 subst auz
 have bjy : lv w2 Ax cx xl n := (hx.below Jb).below hb2
 go_wp2_with fail
 refine (awy Ax cx xl n s w2 bjy hs hk).mono ?_
 rintro e w4 ⟨bu, uz, rfl, hbu, Mi, auq, huv, Yh, hb3⟩
 have bjz := Rt.below hb3 Rt.lt
 have bqk : bv < bu := Nat.lt_of_lt_of_le Rt.lt hbu
 have HUL := Lib.hid Mi; have Ki := Lib.hid huv
 have HT := hide ht; have HVN := Lib.hid Gu
 have Zd : Below w.heap.size w w4 := Jb.trans ((hb2.mono Jb.size).trans (hb3.mono (Nat.le_trans Jb.size hb2.size)))
 clear Mi huv ht Gu
 obtain ⟨V, hV⟩ : ∃ t, t = m * 2 ^ s := ⟨_, rfl⟩
 have aav : Wd.val fo (vz.take yl.length) = V := by rw [(aa HT).val, HVV.out, hV]
 have agz : V < fo ^ yl.length := by rw [hV]; exact aa Nn
 have Jp : 0 < V := by rw [hV]; exact Nat.mul_pos hm (Nat.pow_pos om)
 have htop : Wd.val fo uz < V * fo ^ lq := by
  rw [Ki.out, hV]
  have h1 := hx.Mc
  have h2 := aa Um
  have h3 : fo ^ (yl.length - 1) * fo ^ lq = fo ^ xl.length := by rw [← Nat.pow_add, show yl.length - 1 + lq = xl.length by omega]
  have h4 : fo ^ (yl.length - 1) * 2 ^ s * fo ^ lq ≤ m * 2 ^ s * fo ^ lq := Nat.mul_le_mul_right _ h2
  have h5 : n * 2 ^ s < fo ^ xl.length * 2 ^ s := Nat.mul_lt_mul_of_pos_right h1 (Nat.pow_pos om)
  have h6 : fo ^ (yl.length - 1) * 2 ^ s * fo ^ lq = fo ^ xl.length * 2 ^ s := by
   rw [← h3]; simp only [Nat.mul_comm, Nat.mul_left_comm, Nat.mul_assoc]
  omega
 have hstart : Wd.Al fo V uz uz (List.replicate lq 0) lq := Wd.Al.start _ _ _ auq (Kk (by rw [ic]; omega) _) (by simp) htop
 have bqm : bu < w4.heap.size := Yh.lt
 have ame : Ws .u64 w4 (bv + 1) (some ⟨bv, 0, none⟩) (vz.take yl.length) := (bjz.Et _ (Nat.lt_succ_self _)).Qh _
 have Ui := Lib.hid aav; have aif := hide agz; have HV0 := hide Jp; have awe := Lib.hid hV; have HST := hide hstart
 have bkj : 0 < lq := by omega
 clear aav agz hV hstart htop hyt hy0
 go_wp2_with fail
 go_loopw [12] (fun iv wr => ∃ (i : Int) (us qs : List Nat), -1 ≤ i ∧ i < lq ∧ iv = .int .i64 i ∧ Hid (Wd.Al fo V uz us qs (i + 1).toNat) ∧ Hid (qs.length = lq) ∧ ZB .u64 wr bu 135 us ∧ ZB .u64 wr w4.heap.size 135 qs ∧ Ws .u64 wr (bv + 1) (some ⟨bv, 0, none⟩) (vz.take yl.length) ∧ Below w.heap.size w wr ∧ w4.heap.size < wr.heap.size) (fun iv _ => (intOf iv + 1).toNat)
 case atStart =>
  refine ⟨(lq : Int) - 1, uz, List.replicate lq 0, by omega, by omega, rfl, ?_, by show _ = _; simp, Yh.alloc _, heap_alloc_new w4 _, ame.alloc om _, Zd.alloc Zd.size _, by simp⟩
  rw [show ((lq : Int) - 1 + 1).toNat = lq by omega]
  exact HST
 case round =>
  obtain ⟨i, us, qs, hi1, hi2, rfl, HI, Mw, Pn, hqz, Yg, hbr, auu⟩ := hrel
  obtain ⟨wo, rfl⟩ : ∃ wo : World, wo = wr := ⟨_, rfl⟩
  by_cases h0 : i < 0
  ·
   have e : i = -1 := by omega
   subst e
   obtain ⟨v1, v2⟩ := HI.out.done
   have hS : 0 < 2 ^ s := Nat.pow_pos om
   obtain ⟨sd1, sd2⟩ := Wd.Sw (N := n) (Y := m) (S := 2 ^ s) hS
   rw [Ki.out, awe.out] at v1 v2
   rw [sd1] at v1
   have v3 : Wd.val fo us / 2 ^ s = n % m := by rw [v2]; exact sd2
   have V1 := Lib.hid v1; have V3 := Lib.hid v3
   have La : us.length = xl.length + 1 := HI.out.Cw.trans HUL.out
   have awi := hide HI.out.lt; have awh := hide HI.out.ltq
   have aus := Fp (some ⟨w4.heap.size, 0, none⟩) qs.length qs wo.heap.size wo (hqz.Et _ hqz.lt) (Nat.le_refl _) (by have := Mw.out; omega)
   have Lb := Fp (some ⟨bu, 0, none⟩) us.length us wo.heap.size wo (Pn.Et _ Pn.lt) (Nat.le_refl _) om
   rw [Mw.out] at aus
   rw [La] at Lb
   have T1 := hide aus; have T2 := hide Lb
   have Re := Lib.hid La
   clear v1 v2 sd1 sd2 v3 aus Lb La HI
   go_wp2_with fail
   refine (aa T1).mono ?_
   rintro e w5 ⟨⟨k1, rfl, ht1, hk1⟩, hw5⟩
   obtain rfl : wo = w5 := hw5.symm
   clear hw5
   go_wp2_with fail
   refine (aa T2).mono ?_
   rintro e w6 ⟨⟨k2, rfl, ht2, hk2⟩, Vn⟩
   obtain rfl : wo = w6 := Vn.symm
   clear Vn
   go_wp2_with fail
   have e1 : (us.take k2).length = k2 := by have := Re.out; rw [List.length_take]; omega
   have hrt := apc (some ⟨bu, 0, none⟩) (xl.length + 1) (us.take k2) s wo ((Pn.Et _ Pn.lt).Qh _) (by have := Re.out; omega) om (fun x hx => (aa awi) x (List.mem_of_mem_take hx)) hs (by have := Re.out; omega)
   rw [e1, ht2.val, V3.out] at hrt
   refine hrt.mono ?_
   rintro e w7 ⟨A', cap', l', rfl, hr', hb'⟩
   go_wp2_with fail
   go_ret2
   have e2 : k1 = (qs.take k1).length := by have := Mw.out; rw [List.length_take]; omega
   have hq' := lv.Ct (cap := lq) hqz (aa awh) ht1 (by rw [Mw.out]; exact hk1) (by rw [Mw.out]; exact Nat.le_refl _) om
   rw [V1.out] at hq'
   exact ⟨some ⟨w4.heap.size, 0, none⟩, lq, qs.take k1, A', cap', l', Sy e2 rfl, hq'.below hb', hr', hbr.trans (hb'.mono hbr.size)⟩
  ·
   obtain ⟨j, rfl⟩ := Int.eq_ofNat_of_zero_le (show 0 ≤ i by omega)
   have hinv : Wd.Al fo V uz us qs (j + 1) := by have := HI.out; rwa [show ((j : Int) + 1).toNat = j + 1 by omega] at this
   have La : us.length = xl.length + 1 := hinv.Cw.trans HUL.out
   have hql := Mw.out
   have hqc := hqz.cell j om
   have hqf := hqz.frozen j
   have Uj := hide hinv; have Re := Lib.hid La
   obtain ⟨wd1, wd2, wd3⟩ := hinv.window qj (aa aif)
   have hwl : ((us.drop j).take (yl.length + 1)).length = yl.length + 1 := by rw [List.length_take, List.length_drop]; omega
   have hds := ajg bu j (xl.length + 1 - j) 135 yl.length us ((us.drop j).take (yl.length + 1)) (vz.take yl.length) (some ⟨bv, 0, none⟩) (yl.length + 1) (bv + 1) wo Pn om (by rw [hwl]) om om Yg om (by simp; omega) om om HVN.out hwl
    (fun x hx => hinv.lt x (List.mem_of_mem_drop (List.mem_of_mem_take hx))) (fun x hx => Zb x (List.mem_of_mem_take hx)) (by rw [Ui.out]; exact wd2)
   have HDS := hide hds
   clear hds
   have hfin : ∀ (W : World) (zr : List Nat) (q : Nat), aic ((us.drop j).take (yl.length + 1)) (vz.take yl.length) zr q → Hid (Wd.Al fo V uz (win us j zr) (qs.set j q) j) := fun W zr q hok => by
    have hzl : zr.length = yl.length + 1 := hok.len.trans hwl
    refine hinv.step (n := yl.length) qj (aa aif) (aa HV0) om ?_ ?_ ?_ ?_ ?_
    ·
     rw [hok.quo, Ui.out]
    ·
     have e1 : (win us j zr).drop j = zr ++ us.drop (j + zr.length) := by
      simp only [win, List.append_assoc]
      rw [List.drop_append_of_le_length (by simp; omega), List.drop_of_length_le (by simp; omega), List.nil_append]
     have e2 : Wd.val fo (us.drop (j + zr.length)) = 0 := by
      have h1 := Wd.Qe fo (us.drop j) (yl.length + 1)
      rw [wd3, List.drop_drop] at h1
      have h2 : 0 < fo ^ min (yl.length + 1) (us.drop j).length := Nat.pow_pos (by rw [ic]; omega)
      rw [hzl]
      rcases Nat.eq_zero_or_pos (Wd.val fo (us.drop (j + (yl.length + 1)))) with h | h
      ·
       exact h
      ·
       have := Nat.mul_pos h2 h; omega
     rw [e1, Wd.val_append, e2, Nat.mul_zero, Nat.add_zero, hok.rem, Ui.out]
    ·
     rw [win_length _ _ _ om]
    ·
     intro x hx
     simp only [win, List.append_assoc, List.mem_append] at hx
     rcases hx with h | h | h
     ·
      exact hinv.lt x (List.mem_of_mem_take h)
     ·
      exact hok.lt x h
     ·
      exact hinv.lt x (List.mem_of_mem_drop h)
    ·
     intro t ht
     simp only [win, List.append_assoc, List.getD]
     rw [List.getElem?_append_left (by simp; omega), List.getElem?_take, if_pos ht]
   have Je := hide hfin
   clear hinv La hql HI wd1 wd2 wd3 hfin
   go_wp2_with fail
   rw [show j + yl.length + 1 - j = yl.length + 1 by omega]
   refine (aa HDS).mono ?_
   rintro e w5 ⟨zr, q, rfl, hok, Nk, agk, hg5⟩
   have aml := (aa Je) w5 zr q hok
   have Tu := hqz.grown hg5 (by intro h; injection h with h; omega)
   have bkb := Tu.cell j (by have := Mw.out; omega)
   have bka := Tu.frozen j
   have hv5 : Ws .u64 w5 (bv + 1) (some ⟨bv, 0, none⟩) (vz.take yl.length) := Yg.grown hg5 om (fun g e => by injection e with e; omega)
   have hb5 : Below w.heap.size w w5 := hbr.grown hg5 hbr.size (fun g e => by injection e with e; subst e; exact Nat.le_trans Jb.size (Nat.le_trans hb2.size hbu))
   have hs5 : w4.heap.size < w5.heap.size := Nat.lt_of_lt_of_le auu hg5.size
   have aun : w.heap.size ≤ w4.heap.size := Zd.size
   have aay : ∀ W, W = w5.setCell ⟨w4.heap.size, j, none⟩ (.int .u64 (q : Int)) → ZB .u64 W bu 135 (win us j zr) ∧ ZB .u64 W w4.heap.size 135 (qs.set j q) ∧ Ws .u64 W (bv + 1) (some ⟨bv, 0, none⟩) (vz.take yl.length) ∧ Below w.heap.size w W ∧ w4.heap.size < W.heap.size := by
    rintro W rfl
    exact ⟨(Below.heap_setCell w5 _ _ bu (by show bu ≠ w4.heap.size; omega)).trans agk, Tu.Dl _ _, hv5.setCell (p := ⟨w4.heap.size, j, none⟩) (by show bv + 1 ≤ w4.heap.size; omega) _, hb5.setCell (p := ⟨w4.heap.size, j, none⟩) aun _, by simp [World.setCell]; omega⟩
   have HF2 := hide aay
   clear hok hg5 aay agk Tu hv5 hb5
   go_wp2_with fail
   go_roundw
   case rel =>
    obtain ⟨f1, f2, f3, f4, f5⟩ := (aa HF2) _ rfl
    exact ⟨(j : Int) - 1, win us j zr, qs.set j q, by omega, by omega, rfl, by rw [show ((j : Int) - 1 + 1).toNat = j by omega]; exact aml, by show _ = _; rw [List.length_set]; exact Mw.out, f1, f2, f3, f4, f5⟩
   case measure => simp [intOf] <;> omega

theorem acf (Ax Ay : Option Addr) (cx cy : Nat) (xl yl : List Nat) (n m : Nat) (w : World) (hx : lv w Ax cx xl n) (hy : lv w Ay cy yl m) (hm : 0 < m) (hk : xl.length + 1 ≤ 35184372088832) (hk2 : yl.length + 1 ≤ 35184372088832) :
  Calls Tryz.prog 178 #[.slice Ax xl.length cx, .slice Ay yl.length cy] w fun e w' => bew w (n / m) (n % m) e w' := by
 have hx1 := hx.tu; have hx2 := hx.cap2; have hy1 := hy.tu; have hy2 := hy.cap2
 have hyl : 0 < yl.length := by
  rcases Nat.eq_zero_or_pos yl.length with h | h
  ·
   have := List.eq_nil_of_length_eq_zero h; subst this; have := hy.val; simp [Wd.val] at this; omega
  ·
   exact h
 have hcmp := Lc Ax Ay cx cy xl yl n m w hx hy
 have HC := hide hcmp
 clear hcmp
 by_cases hlt : n < m
 ·
  have ho : uk n m = -1 := by unfold uk; rw [if_pos hlt]
  rw [ho] at HC
  have hq : n / m = 0 := Nat.div_eq_of_lt hlt
  have hr : n % m = n := Nat.mod_eq_of_lt hlt
  rw [hq, hr]
  clear ho hq hr
  go_enter Tryz.func178, Tryz.ntmps178
  go_wp2_with fail
  refine (aa HC).mono ?_
  rintro e w' ⟨rfl, k, rfl⟩
  go_wp2_with fail
  go_ret2
  exact ⟨none, 0, [], Ax, cx, xl, rfl, lv.Qz _ _ om, hx.below (qb (Below.refl _ _) k), qb (Below.refl _ _) k⟩
 ·
  have ho : decide (uk n m < 0) = false := by unfold uk; rw [if_neg hlt]; split <;> rfl
  obtain ⟨o3, ho3⟩ : ∃ t, t = uk n m := ⟨_, rfl⟩
  rw [← ho3] at HC ho
  have hny : yl.length ≤ xl.length := by
   apply Classical.byContradiction
   intro h
   have := Wd.zu qj xl yl hx.lt hy.norm om
   rw [hx.val, hy.val] at this
   omega
  clear ho3
  by_cases h1 : yl.length = 1
  ·
   have hb1 : ((yl.length : Int) == 1) = true := by simp; omega
   obtain ⟨by', oy, hA, hby, hcy⟩ := hy.ws om
   subst hA
   have hy0 := hcy 0 om
   rw [Nat.add_zero] at hy0
   have hm0 : Wd.g yl 0 = m := by rw [Te fo yl h1]; exact hy.val
   rw [hm0] at hy0
   have Kj : m < fo := by rw [← hm0]; exact Wd.getD_lt (by rw [ic]; omega) _ hy.lt _
   have HDW : ∀ k, Hid (Calls Tryz.prog 196 #[.slice Ax xl.length cx, .int .u64 ((m : Nat) : Int)] (w.drewN k) fun e w' =>
    ∃ A cap l, e = .returned (.tuple #[.slice A l.length cap, .int .u64 ((n % m : Nat) : Int)]) ∧ lv w' A cap l (n / m) ∧ Below w.heap.size w w') := fun k =>
    (ajf Ax cx xl n m (w.drewN k) (hx.below (qb (Below.refl _ _) k)) Kj hm om).mono fun e w' ⟨A, cap, l, h1, h2, h3⟩ => ⟨A, cap, l, h1, h2, (qb (Below.refl _ _) k).trans h3⟩
   have Ru : n % m < fo := Nat.lt_trans (Nat.mod_lt _ hm) Kj
   have HRB := hide Ru
   obtain ⟨r, hr⟩ : ∃ t, t = n % m := ⟨_, rfl⟩
   rw [← hr] at HDW HRB ⊢
   clear hm0 h1 hcy hr Ru
   go_enter Tryz.func178, Tryz.ntmps178
   go_wp2_with fail
   refine (aa HC).mono ?_
   rintro e w' ⟨rfl, k, rfl⟩
   go_wp2_with fail
   refine (aa (HDW k)).mono ?_
   rintro e w1 ⟨A, cap, l, rfl, hq, hb⟩
   go_wp2_with fail
   refine (Vf r HRB.out w1).mono ?_
   rintro e w2 ⟨A', cap', l', rfl, hr', hb'⟩
   go_wp2_with fail
   go_ret2
   exact ⟨A, cap, l, A', cap', l', rfl, hq.below hb', hr', hb.trans (hb'.mono hb.size)⟩
  ·
   have hb1 : ((yl.length : Int) == 1) = false := by simp; omega
   exact avh Ax Ay cx cy xl yl n m w hx hy hm hk hk2 om hny o3 HC ho
end Go.Proofs.YtjdnmdlnaoedoaaGreatDoor
namespace Go.Proofs.YtjdnmdlnaoedoaaGreatDoor
open Go.Shelf
def bfw : Go.Shelf.Ren := ⟨fun | 29 => 167 | n => n, fun | 0 => 0 | 3 => 3 | 4 => 4 | 5 => 5 | 22 => 135 | 25 => 161 | 54 => 180 | n => n, fun | 1 => 0 | n => n⟩
theorem bap : Go.Proofs.Lays7.n29 Tryz.prog bfw := {
 mixed := by kernel_rfl
 f29 := Tryz.func167.trans (congrArg some kr)
 t0 := by kernel_rfl
 a0 := fun _ => by kernel_rfl
 z0 := fun _ => by kernel_rfl
 v0 := fun _ => by kernel_rfl
 i0 := by kernel_rfl
 t3 := by kernel_rfl
 a3 := fun _ => by kernel_rfl
 z3 := fun _ => by kernel_rfl
 v3 := fun _ => by kernel_rfl
 i3 := by kernel_rfl
 t4 := by kernel_rfl
 a4 := fun _ => by kernel_rfl
 z4 := fun _ => by kernel_rfl
 v4 := fun _ => by kernel_rfl
 i4 := by kernel_rfl
 t5 := by kernel_rfl
 a5 := fun _ => by kernel_rfl
 z5 := fun _ => by kernel_rfl
 v5 := fun _ => by kernel_rfl
 i5 := by kernel_rfl
 t22 := by kernel_rfl
 a22 := fun _ => by kernel_rfl
 z22 := fun _ => by kernel_rfl
 v22 := fun _ => by kernel_rfl
 i22 := by kernel_rfl
 t25 := by kernel_rfl
 a25 := fun _ => by kernel_rfl
 z25 := fun _ => by kernel_rfl
 v25 := fun _ => by kernel_rfl
 i25 := by kernel_rfl
 t54 := by kernel_rfl
 a54 := fun _ => by kernel_rfl
 z54 := fun _ => by kernel_rfl
 g1 := by kernel_rfl }
theorem Yl (x : Nat) (hx : x < 18446744073709551616) (w : World) (hT : TabAt 0 Lib.deBruijn64tab w) :
  Calls Tryz.prog 167 #[.int .u64 ((x : Nat) : Int)] w fun e w' => e = .returned (.int .i64 (Lib.ctz 64 x : Int)) ∧ w' = w :=
 Any7.bits_TrailingZeros64 bap x hx w (fun _ => hT)
end Go.Proofs.YtjdnmdlnaoedoaaGreatDoor
namespace Go.Proofs.YtjdnmdlnaoedoaaGreatDoor
open Go.RowKit

def qy (w : World) : Prop := TabAt 0 Lib.deBruijn64tab w ∧ 0 < w.heap.size
theorem qy.below {w w' : World} (h : qy w) (hb : Below w.heap.size w w') : qy w' :=
 ⟨fun j hj => (hb.cell (p := ⟨0, j, none⟩) h.2).trans (h.1 j hj), Nat.lt_of_lt_of_le h.2 hb.size⟩
theorem qy.drew {w : World} (h : qy w) : qy w.drew := h
theorem qy.drewN {w : World} (h : qy w) (n : Nat) : qy (w.drewN n) := h
theorem qy.alloc {w : World} (h : qy w) (o : Obj) : qy (w.alloc o) := h.below ((Below.refl _ _).alloc (Nat.le_refl _) _)

theorem Ua (x : Nat) (h0 : x ≠ 0) (hx : x < 18446744073709551616) : ∃ u, Wd.Jc x (Lib.ctz 64 x) u ∧ Lib.ctz 64 x < 64 := by
 unfold Lib.ctz
 rw [if_neg h0]
 obtain ⟨m, hm, hlt⟩ := Lib.ctzFrom_spec 64 x om (by simpa using hx)
 exact ⟨2 * m + 1, ⟨hm, by omega⟩, hlt⟩

theorem acr {a b : Nat} (h : b ≤ a) (ha : a < fo) : IntKind.u64.wrap ((a : Int) - (b : Int)) = ((a - b : Nat) : Int) := by
 rw [IntKind.wrap_u64]; rw [ic] at ha; omega

theorem Qq (x y : Nat) (hx : x < fo) (hy : y < fo) (w : World) (hT : qy w) :
  Calls Tryz.prog 125 #[.int .u64 ((x : Nat) : Int), .int .u64 ((y : Nat) : Int)] w fun e w' => e = .returned (.int .u64 ((x.gcd y : Nat) : Int)) ∧ w' = w := by
 by_cases h0 : x = 0 ∨ y = 0
 ·
  have hor : Go.bits .or .u64 (x : Int) (y : Int) = ((x.gcd y : Nat) : Int) := by
   rw [bits_or_u64_nat x y hx hy]
   rcases h0 with rfl | rfl <;> simp
  rcases h0 with rfl | rfl
  all_goals
   go_enter Tryz.func125, Tryz.ntmps125
   go_wp2
   all_goals
    go_ret
    exact ⟨wy (by first | exact hor | simp_all), rfl⟩
 ·
  have b1 : ((x : Int) == 0) = false := by simp; omega
  have b2 : ((y : Int) == 0) = false := by simp; omega
  obtain ⟨o, ho⟩ : ∃ o, o = x ||| y := ⟨_, rfl⟩
  have hor : Go.bits .or .u64 (x : Int) (y : Int) = ((o : Nat) : Int) := by rw [bits_or_u64_nat x y hx hy, ho]
  obtain ⟨u, hu, bdj⟩ := Ua x om hx
  obtain ⟨v, hv, avc⟩ := Ua y om hy
  have ho0 : o ≠ 0 := by rw [ho]; intro h; rw [Nat.or_eq_zero_iff] at h; omega
  have hoB : o < fo := by rw [ho]; exact Nat.or_lt_two_pow (n := 64) hx hy
  obtain ⟨ow, how, bkf⟩ := Ua o ho0 hoB
  have hstart := Wd.Gb.start hu hv ⟨ow, by rw [← ho]; exact how⟩
  obtain ⟨t, ht⟩ : ∃ t, t = Lib.ctz 64 o := ⟨_, rfl⟩
  obtain ⟨a, ha⟩ : ∃ a, a = Lib.ctz 64 x := ⟨_, rfl⟩
  have c1 := Yl o hoB w hT.1
  have c2 := Yl x hx w hT.1
  rw [← ht] at c1 hstart bkf
  rw [← ha] at c2 hu bdj
  have hdx : (x : Int) / 2 ^ a = (u : Int) := by
   have := Wd.afs hu
   rw [← this]; simp
  have hub := Wd.ajt hu
  have HC1 := hide c1
  have HC2 := hide c2
  have HST := hide hstart
  have hG : 0 < x.gcd y ∧ x.gcd y < fo := ⟨Nat.gcd_pos_of_pos_left _ om, Nat.lt_of_le_of_lt (Nat.gcd_le_left _ om) hx⟩
  obtain ⟨G, hGG⟩ : ∃ G, G = x.gcd y := ⟨_, rfl⟩
  rw [← hGG] at hstart hG
  have HST := hide hstart
  have HGG := Lib.hid hGG
  have HG := hide hG
  clear h0 ho hv avc how hstart hu c1 c2 ht ha hGG hG
  go_enter Tryz.func125, Tryz.ntmps125
  go_wp2_with fail
  refine (aa HC1).mono ?_
  rintro e w' ⟨rfl, rfl⟩
  go_wp2_with fail
  refine (aa HC2).mono ?_
  rintro e w' ⟨rfl, rfl⟩
  go_wp2_with fail
  have HT := hide hT
  clear hT HC1 HC2 b1 b2 hor hdx bdj
  go_loop [0, 1] (fun xv yv => ∃ p q : Nat, xv = .int .u64 ((p : Nat) : Int) ∧ yv = .int .u64 ((q : Nat) : Int) ∧ p < fo ∧ q < fo ∧ Hid (Wd.Gb G t p q)) (fun xv yv => (intOf xv).toNat + (intOf yv).toNat)
  case atStart => exact ⟨u, y, rfl, rfl, by omega, hy, HST⟩
  case round =>
   obtain ⟨p, q, rfl, rfl, hp, hq, HI⟩ := hrel
   by_cases hq0 : q = 0
   ·
    subst hq0
    have e1 := HI.out.done
    have hs : IntKind.u64.wrap ((p : Int) * 2 ^ t) = (G : Int) := by
     have h2 := (aa HG).2
     rw [ic] at h2
     rw [IntKind.wrap_u64, show (p : Int) * 2 ^ t = ((p * 2 ^ t : Nat) : Int) by simp, ← e1]
     omega
    clear e1
    have hb0 : (((0 : Nat) : Int) != 0) = false := rfl
    go_wp2_with fail
    go_ret
    exact ⟨wy (by rw [HGG.out]), rfl⟩
   ·
    have hb0 : ((q : Int) != 0) = true := by simp; omega
    obtain ⟨v, hv, avc⟩ := Ua q hq0 hq
    obtain ⟨b, hb⟩ : ∃ b, b = Lib.ctz 64 q := ⟨_, rfl⟩
    have c3 := Yl q hq w' (aa HT).1
    rw [← hb] at c3 hv avc
    have HC3 := hide c3
    have hvb := Wd.ajt hv
    have hdy : (q : Int) / 2 ^ b = (v : Int) := by
     have := Wd.afs hv
     rw [← this]; simp
    have hp1 := HI.out.1
    by_cases hlt : v < p
    ·
     have hn := HI.out.ayl hv hlt
     have HN := Lib.hid hn
     have hw := acr (Nat.le_of_lt hlt) hp
     clear hn c3 hb hv
     go_wp2_with fail
     refine (aa HC3).mono ?_
     rintro e w2 ⟨rfl, rfl⟩
     go_wp2_with fail
     go_round
     case rel => exact ⟨v, p - v, rfl, by go_num, by omega, by omega, HN⟩
     case measure => simp [intOf] <;> omega
    ·
     have hn := HI.out.ayk hv om
     have HN := Lib.hid hn
     have hw := acr (show p ≤ v by omega) (show v < fo by omega)
     clear hn c3 hb hv
     go_wp2_with fail
     refine (aa HC3).mono ?_
     rintro e w2 ⟨rfl, rfl⟩
     go_wp2_with fail
     go_round
     case rel => exact ⟨p, v - p, rfl, by go_num, by omega, by omega, HN⟩
     case measure => simp [intOf] <;> omega
end Go.Proofs.YtjdnmdlnaoedoaaGreatDoor
namespace Go.Proofs.YtjdnmdlnaoedoaaGreatDoor
open Go.RowKit

def lim : Nat := 17592186044416
theorem Rq : lim = 17592186044416 := rfl

theorem aby {w : World} {A : Option Addr} {cap : Nat} {l : List Nat} {n : Nat} (h : lv w A cap l n) (hl : l.length ≤ 1) : Wd.g l 0 = n ∧ n < fo := by
 rw [← h.val]
 match l, hl, h.lt with
 | [], _, _ => exact ⟨rfl, by rw [ic]; show 0 < _; omega⟩
 | [a], _, hlt => exact ⟨by simp [Wd.val, Wd.g], by have := hlt a (by simp); simpa [Wd.val] using this⟩

theorem afu (Ax Ay : Option Addr) (cx cy : Nat) (xl yl : List Nat) (n m : Nat) (w : World) (hx : lv w Ax cx xl n) (hy : lv w Ay cy yl m) (hT : qy w) (hk : xl.length ≤ lim) (hk2 : yl.length ≤ lim) :
  Calls Tryz.prog 177 #[.slice Ax xl.length cx, .slice Ay yl.length cy] w fun e w' => Fw w (n.gcd m) e w' := by
 have HT := hide hT
 clear hT
 go_enter Tryz.func177, Tryz.ntmps177
 go_wp2_with fail
 go_loopg [0, 1] m (fun g xv yv wr => ∃ (A A' : Option Addr) (c c' : Nat) (l l' : List Nat) (n' m' : Nat), xv = .slice A l.length c ∧ yv = .slice A' l'.length c' ∧ lv wr A c l n' ∧ lv wr A' c' l' m' ∧ Hid (l.length ≤ lim) ∧ Hid (l'.length ≤ lim) ∧ Hid (n'.gcd m' = n.gcd m) ∧ Hid (m' ≤ g) ∧ Below w.heap.size w wr)
 case atStart => exact ⟨Ax, Ay, cx, cy, xl, yl, n, m, rfl, rfl, hx, hy, hk, hk2, rfl, Nat.le_refl _, Below.refl _ _⟩
 case round =>
  obtain ⟨A, A', c, c', l, l', n', m', rfl, rfl, h1, h2, hl1, hl2, ava, hmg, hb⟩ := hrel
  by_cases hone : l.length ≤ 1 ∧ l'.length ≤ 1
  ·
   obtain ⟨o1, o2⟩ := hone
   have b1 : decide ((1 : Int) < (l.length : Int)) = false := by simp; omega
   have b2 : decide ((1 : Int) < (l'.length : Int)) = false := by simp; omega
   obtain ⟨e1, e2⟩ := aby h1 o1
   obtain ⟨e3, e4⟩ := aby h2 o2
   have amk := Ky A c l wr.heap.size 0 wr h1.ws h1.tu h1.cap2 om
   have amj := Ky A' c' l' wr.heap.size 0 wr h2.ws h2.tu h2.cap2 om
   rw [e1] at amk
   rw [e3] at amj
   have L1 := hide amk; have L2 := hide amj
   have hTr : qy wr := (aa HT).below hb
   have hgB : n'.gcd m' < fo := by
    rcases Nat.eq_zero_or_pos n' with h | h
    ·
     subst h; simp; exact e4
    ·
     exact Nat.lt_of_le_of_lt (Nat.gcd_le_left _ h) e2
   have HGB := hide hgB
   have HG := hide (Qq n' m' e2 e4 wr hTr)
   clear e1 e2 e3 e4 amk amj hTr hgB o1 o2
   go_wp2_with fail
   refine (aa L1).mono ?_
   rintro e w1 ⟨rfl, hw1⟩
   obtain rfl : wr = w1 := hw1.symm
   clear hw1
   go_wp2_with fail
   refine (aa L2).mono ?_
   rintro e w1 ⟨rfl, hw1⟩
   obtain rfl : wr = w1 := hw1.symm
   clear hw1
   go_wp2_with fail
   refine (aa HG).mono ?_
   rintro e w1 ⟨rfl, hw1⟩
   obtain rfl : wr = w1 := hw1.symm
   clear hw1
   go_wp2_with fail
   refine (Vf _ (aa HGB) wr).mono ?_
   rintro e w2 ⟨A2, cap2, l2, rfl, hr, hb2⟩
   go_wp2_with fail
   go_ret
   exact ⟨A2, cap2, l2, rfl, by rw [← ava.out]; exact hr, hb.trans (hb2.mono hb.size)⟩
  ·
   have hc1 := h1.tu; have hc2 := h1.cap2; have hc3 := h2.tu; have hc4 := h2.cap2
   have b1 : (decide ((1 : Int) < (l.length : Int)) = true) ∨ (decide ((1 : Int) < (l.length : Int)) = false ∧ decide ((1 : Int) < (l'.length : Int)) = true) := by
    by_cases h : 1 < l.length
    ·
     exact .inl (decide_eq_true om)
    ·
     exact .inr ⟨decide_eq_false om, decide_eq_true om⟩
   by_cases h0 : l'.length = 0
   ·
    have hz : ((l'.length : Int) == 0) = true := beq_iff_eq.2 om
    have hm0 : m' = 0 := by rw [← h2.val, List.eq_nil_of_length_eq_zero h0]; rfl
    have hgn : n' = n.gcd m := by rw [← ava.out, hm0, Nat.gcd_zero_right]
    have HGN := Lib.hid hgn
    clear hgn hm0 h0 hone
    rcases b1 with b1 | ⟨b1, b2⟩
    all_goals
     go_wp2_with fail
     go_ret
     exact ⟨A, c, l, rfl, by rw [← HGN.out]; exact h1, hb⟩
   ·
    have hz : ((l'.length : Int) == 0) = false := beq_eq_false_iff_ne.2 om
    have hm0 : 0 < m' := by
     rw [← h2.val]; exact Wd.aft (by rw [ic]; omega) _ h2.norm (by intro h; rw [h] at h0; simp at h0)
    have HD := hide (acf A A' c c' l l' n' m' wr h1 h2 hm0 (by have := hl1.out; rw [Rq] at this; omega) (by have := hl2.out; rw [Rq] at this; omega))
    have HM0 := hide hm0
    clear hm0 h0 hone
    rcases b1 with b1 | ⟨b1, b2⟩
    all_goals
     go_wp2_with fail
     refine (aa HD).mono ?_
     rintro e w1 ⟨A1, tu, l1, A2, cap2, l2, rfl, hq, hr, hb1⟩
     have hlt : n' % m' < m' := Nat.mod_lt _ (aa HM0)
     have vo := hide hlt
     have hlen : l2.length ≤ l'.length := by
      apply Classical.byContradiction
      intro h
      have := Wd.zu qj l' l2 h2.lt hr.norm om
      rw [h2.val, hr.val] at this
      omega
     have HLEN := hide hlen
     clear hlt hlen
     go_wp2_with fail
     go_roundg (n' % m')
     case measure => have h1 := hmg.out; have h2 := vo.out; omega
     case rel => exact ⟨A', A2, c', cap2, l', l2, m', n' % m', rfl, rfl, h2.below hb1, hr, hl2, Nat.le_trans (aa HLEN) hl2.out, by show _ = _; rw [← ava.out, Nat.gcd_comm m', ← Nat.gcd_rec, Nat.gcd_comm], Nat.le_refl _, hb.trans (hb1.mono hb.size)⟩
end Go.Proofs.YtjdnmdlnaoedoaaGreatDoor
namespace Go.Proofs.YtjdnmdlnaoedoaaGreatDoor
open Go.RowKit

theorem addr_add (b off j : Nat) : (⟨b, off, none⟩ : Addr).add j = ⟨b, off + j, none⟩ := by
 unfold Addr.add
 split
 ·
  rename_i h; subst h; rfl
 ·
  rfl

def yh (k : IntKind) (l : List Nat) : List Value := l.map fun (x : Nat) => Value.int k (x : Int)
theorem anq {k : IntKind} {l : List Nat} {j : Nat} {v : Value} (h : (yh k l)[j]? = some v) : j < l.length ∧ v = .int k ((Wd.g l j : Nat) : Int) := by
 simp only [yh, List.getElem?_map, Option.map_eq_some_iff] at h
 obtain ⟨x, hx, rfl⟩ := h
 obtain ⟨hl, rfl⟩ := List.getElem?_eq_some_iff.1 hx
 exact ⟨hl, by simp [Wd.g, List.getD, hl]⟩

theorem afa (k : IntKind) (l : List Nat) (n : Nat) (hn : l.length ≤ n) : (splice (yh k (List.replicate n 0)) 0 (yh k l)).toArray = wz k (l ++ List.replicate (n - l.length) 0) := by
 simp [splice, yh, wz]

theorem aec (k : IntKind) (l : List Nat) : ∀ v ∈ yh k l, v.oneCell' = true := by
 intro v hv
 simp only [yh, List.mem_map] at hv
 obtain ⟨x, _, rfl⟩ := hv
 rfl

theorem Yk (B : Nat) (l : List Nat) (n : Nat) : Wd.val B (l ++ List.replicate n 0) = Wd.val B l := by
 rw [Wd.val_append, Wd.Ut]; simp

theorem aok : (Tryz.prog.info? 135).map (·.size) = some 1 := by kernel_rfl

theorem aqy (A : Option Addr) (c : Nat) (l : List Nat) (wa : World) (B g : Nat) (hz : ZB .u64 wa g 135 (List.replicate (l.length + 1) 0)) (hws : Ws .u64 wa B A l) :
  ∃ W', (Builtin.copy_ #[70, 70] 3 #[.slice (some ⟨g, 0, none⟩) (l.length + 1) (l.length + 1), .slice A l.length c]).run Tryz.prog wa = .ok (goInt l.length) W' ∧ ZB .u64 W' g 135 (l ++ [0]) ∧ ∀ B', B' ≤ g → Below B' wa W' := by
 by_cases h0 : l.length = 0
 ·
  have hl := List.eq_nil_of_length_eq_zero h0
  subst hl
  exact ⟨wa, run_copy_none wa 70 70 3 135 _ _ _ _ _ _ Tryz.underlying70 aok (by simp), hz, fun B' _ => Below.refl _ _⟩
 ·
  obtain ⟨b, off, rfl, _, hc⟩ := hws om
  have hlen : (yh .u64 l).length = l.length := by simp [yh]
  have hsp := afa .u64 l (l.length + 1) om
  rw [show l.length + 1 - l.length = 1 by omega] at hsp
  have hrun := run_copy_row (P := Tryz.prog) wa 70 70 3 135 g 0 (l.length + 1) (l.length + 1) ⟨b, off, none⟩ l.length c (wz .u64 (List.replicate (l.length + 1) 0)) 135 (yh .u64 l) Tryz.underlying70 aok hz
   (by rw [hlen]; exact (Nat.min_eq_left om).symm) (fun j v hj => by
    obtain ⟨h1, rfl⟩ := anq hj
    rw [addr_add]
    exact hc j h1) (by rw [hlen]; simp [wz]) (aec _ _)
  rw [hlen] at hrun
  refine ⟨_, hrun, ?_, fun B' hB' => below_setRow (Below.refl _ _) hB' _⟩
  have e : ((wz .u64 (List.replicate (l.length + 1) 0)).toList.take 0 ++ yh .u64 l ++ (wz .u64 (List.replicate (l.length + 1) 0)).toList.drop (0 + l.length)).toArray = wz .u64 (l ++ [0]) := by
   rw [show [0] = List.replicate 1 0 from rfl, ← hsp]
   simp [splice, wz, yh]
  rw [e]
  exact setRow_heap wa g _ _ 135 (0, 0) hz

theorem akh {B : Nat} (hB : 1 < B) {pl ql zr : List Nat} {n m c : Nat} (h1 : Wd.val B zr + B ^ (pl ++ [0]).length * c = Wd.val B (pl ++ [0]) + Wd.val B ql) (hp : Wd.val B pl = n) (hq : Wd.val B ql = m) (hn : n < B ^ pl.length) (hm : m < B ^ ql.length) (hl : ql.length ≤ pl.length) (hc : c ≤ 1) : Wd.val B zr = n + m := by
 have h2 : Wd.val B (pl ++ [0]) = n := by rw [show [0] = List.replicate 1 0 from rfl, Yk]; exact hp
 rw [h2, hq] at h1
 have h5 : B ^ ql.length ≤ B ^ pl.length := Nat.pow_le_pow_right (Nat.lt_trans Nat.zero_lt_one hB) hl
 have h6 : B ^ (pl ++ [0]).length = B ^ pl.length * B := by rw [List.length_append, List.length_singleton, Nat.pow_succ]
 have h7 : 2 * B ^ pl.length ≤ B ^ pl.length * B := by rw [Nat.mul_comm]; exact Nat.mul_le_mul_left _ hB
 rw [h6] at h1
 generalize B ^ pl.length * B = Q at *
 generalize B ^ pl.length = P at *
 generalize B ^ ql.length = R at *
 rcases (show c = 0 ∨ c = 1 by omega) with rfl | rfl <;> omega

theorem ajv {l : List Nat} (h : ∀ x ∈ l, x < fo) : ∀ x ∈ l ++ [0], x < fo := by
 intro t ht
 rw [List.mem_append] at ht
 rcases ht with h1 | h1
 ·
  exact h t h1
 ·
  rw [List.mem_singleton] at h1; subst h1; exact Nat.lt_trans Nat.zero_lt_one qj

theorem Ry (Ax Ay : Option Addr) (cx cy : Nat) (xl yl : List Nat) (n m : Nat) (w : World) (hx : lv w Ax cx xl n) (hy : lv w Ay cy yl m) (hk : xl.length ≤ lim) (hk2 : yl.length ≤ lim) :
  Calls Tryz.prog 179 #[.slice Ax xl.length cx, .slice Ay yl.length cy] w fun e w' => Fw w (n + m) e w' := by
 have hx1 := hx.tu; have hx2 := hx.cap2; have hy1 := hy.tu; have hy2 := hy.cap2
 have hkk : xl.length ≤ 17592186044416 := by rw [← Rq]; exact hk
 have bqb : yl.length ≤ 17592186044416 := by rw [← Rq]; exact hk2
 by_cases hlt : xl.length < yl.length
 ·
  have b1 : decide ((xl.length : Int) < (yl.length : Int)) = true := decide_eq_true om
  have b2 : decide (xl.length < yl.length) = true := decide_eq_true om
  have hmk := Ma (yl.length + 1) om
  simp only [Int.natCast_add, Int.cast_ofNat_Int] at hmk
  have hws : Ws .u64 (w.alloc (.cells (wz .u64 (List.replicate (yl.length + 1) 0)) 135)) w.heap.size Ay yl := hy.ws.alloc (Nat.le_refl _) _
  obtain ⟨w1, hcopy, hz, hb0⟩ := aqy Ay cy yl _ w.heap.size w.heap.size (heap_alloc_new w _) hws
  have hb1 : Below w.heap.size w w1 := ((Below.refl _ _).alloc (Nat.le_refl _) _).trans (hb0 _ (Nat.le_refl _))
  clear hb0 hws
  go_enter Tryz.func179, Tryz.ntmps179
  go_wp2_with fail
  have hx1 := hx.below hb1
  have hadd := Rc w.heap.size 0 (yl.length + 1) 135 (yl ++ [0]) (yl ++ [0]) xl Ax cx w.heap.size w1 hz (by simp) (by rw [List.drop_zero, List.take_of_length_le (Nat.le_refl _)]) (by simp) om (hx.ws.below hb1) (Nat.le_refl _) hx.tu hx.cap2 (by simp; omega) (ajv hy.lt) hx.lt
  have e0 : (yl ++ [0]).length = yl.length + 1 := by simp
  rw [e0] at hadd
  refine hadd.mono ?_
  rintro e w2 ⟨zr, c, rfl, hok, hz2, hg2⟩
  have hl2 : zr.length = yl.length + 1 := by rw [hok.len]; simp
  rw [win_zero _ _ (by rw [hok.len])] at hz2
  have hval : Wd.val fo zr = n + m := by rw [Nat.add_comm]; exact akh qj hok.eq hy.val hx.val hy.Mc hx.Mc om hok.c1
  have hb2 : Below w.heap.size w w2 := hb1.grown hg2 hb1.size (fun g e => by injection e with e; omega)
  have HL2 := Lib.hid hl2; have aco := Lib.hid hval; have vo := hide hok.lt
  have htr := Fp (some ⟨w.heap.size, 0, none⟩) zr.length zr w2.heap.size w2 (hz2.Et _ hz2.lt) (Nat.le_refl _) om
  rw [hl2] at htr
  have HTR := hide htr
  clear hl2 hval hok hadd htr
  go_wp2_with fail
  refine (aa HTR).mono ?_
  rintro e w3 ⟨⟨k, rfl, ht, hk3⟩, hw3⟩
  obtain rfl : w2 = w3 := hw3.symm
  go_wp2_with fail
  go_ret
  have hk4 : k = (zr.take k).length := by have := HL2.out; rw [List.length_take]; omega
  have h := lv.Ct (cap := yl.length + 1) hz2 (aa vo) ht (by rw [HL2.out]; exact hk3) (by rw [HL2.out]; exact Nat.le_refl _) om
  rw [aco.out] at h
  exact ⟨some ⟨w.heap.size, 0, none⟩, yl.length + 1, zr.take k, Fa hk4, h, hb2⟩
 ·
  have b1 : decide ((xl.length : Int) < (yl.length : Int)) = false := decide_eq_false om
  have b2 : decide (xl.length < yl.length) = false := decide_eq_false om
  have hmk := Ma (xl.length + 1) om
  simp only [Int.natCast_add, Int.cast_ofNat_Int] at hmk
  have hws : Ws .u64 (w.alloc (.cells (wz .u64 (List.replicate (xl.length + 1) 0)) 135)) w.heap.size Ax xl := hx.ws.alloc (Nat.le_refl _) _
  obtain ⟨w1, hcopy, hz, hb0⟩ := aqy Ax cx xl _ w.heap.size w.heap.size (heap_alloc_new w _) hws
  have hb1 : Below w.heap.size w w1 := ((Below.refl _ _).alloc (Nat.le_refl _) _).trans (hb0 _ (Nat.le_refl _))
  clear hb0 hws
  go_enter Tryz.func179, Tryz.ntmps179
  go_wp2_with fail
  have hy1 := hy.below hb1
  have hadd := Rc w.heap.size 0 (xl.length + 1) 135 (xl ++ [0]) (xl ++ [0]) yl Ay cy w.heap.size w1 hz (by simp) (by rw [List.drop_zero, List.take_of_length_le (Nat.le_refl _)]) (by simp) om (hy.ws.below hb1) (Nat.le_refl _) hy.tu hy.cap2 (by simp; omega) (ajv hx.lt) hy.lt
  have e0 : (xl ++ [0]).length = xl.length + 1 := by simp
  rw [e0] at hadd
  refine hadd.mono ?_
  rintro e w2 ⟨zr, c, rfl, hok, hz2, hg2⟩
  have hl2 : zr.length = xl.length + 1 := by rw [hok.len]; simp
  rw [win_zero _ _ (by rw [hok.len])] at hz2
  have hval : Wd.val fo zr = n + m := akh qj hok.eq hx.val hy.val hx.Mc hy.Mc om hok.c1
  have hb2 : Below w.heap.size w w2 := hb1.grown hg2 hb1.size (fun g e => by injection e with e; omega)
  have HL2 := Lib.hid hl2; have aco := Lib.hid hval; have vo := hide hok.lt
  have htr := Fp (some ⟨w.heap.size, 0, none⟩) zr.length zr w2.heap.size w2 (hz2.Et _ hz2.lt) (Nat.le_refl _) om
  rw [hl2] at htr
  have HTR := hide htr
  clear hl2 hval hok hadd htr
  go_wp2_with fail
  refine (aa HTR).mono ?_
  rintro e w3 ⟨⟨k, rfl, ht, hk3⟩, hw3⟩
  obtain rfl : w2 = w3 := hw3.symm
  go_wp2_with fail
  go_ret
  have hk4 : k = (zr.take k).length := by have := HL2.out; rw [List.length_take]; omega
  have h := lv.Ct (cap := xl.length + 1) hz2 (aa vo) ht (by rw [HL2.out]; exact hk3) (by rw [HL2.out]; exact Nat.le_refl _) om
  rw [aco.out] at h
  exact ⟨some ⟨w.heap.size, 0, none⟩, xl.length + 1, zr.take k, Fa hk4, h, hb2⟩
end Go.Proofs.YtjdnmdlnaoedoaaGreatDoor
namespace Go.Proofs.YtjdnmdlnaoedoaaGreatDoor
open Go.RowKit

theorem fu {W w1 : World} (hb : Below W.heap.size W w1) : (∀ b o, b < W.heap.size → w1.cell? ⟨b, o, none⟩ = W.cell? ⟨b, o, none⟩) ∧ (∀ b o, b < W.heap.size → w1.frozen? ⟨b, o, none⟩ = W.frozen? ⟨b, o, none⟩) :=
 ⟨fun b o h => hb.cell (p := ⟨b, o, none⟩) h, fun b o h => hb.frozen (p := ⟨b, o, none⟩) h⟩

def Kh : Nat := 9223372036854775808
theorem zn : Kh = 9223372036854775808 := rfl

structure ig (w : World) (s : Int) (neg : Bool) (A : Option Addr) (cap : Nat) (l : List Nat) (z : Int) : Prop where
 nat : ∃ n, lv w A cap l n
 form : (l.length = 0 ∧ neg = false ∧ s = z ∧ z.natAbs < Kh) ∨ (0 < l.length ∧ s = 0 ∧ neg = decide (z < 0) ∧ Wd.val fo l = z.natAbs ∧ Kh ≤ z.natAbs)

theorem ig.below {w w' : World} {s : Int} {neg : Bool} {A : Option Addr} {cap : Nat} {l : List Nat} {z : Int} (h : ig w s neg A cap l z) (hb : Below w.heap.size w w') : ig w' s neg A cap l z :=
 ⟨let ⟨n, hn⟩ := h.nat; ⟨n, hn.below hb⟩, h.form⟩
theorem ig.small {w : World} {z : Int} (hz : z.natAbs < Kh) : ig w z false none 0 [] z := ⟨⟨0, lv.Qz _ _ om⟩, .inl ⟨rfl, rfl, rfl, hz⟩⟩

def En (w : World) (z : Int) (e : Ending) (w' : World) : Prop := ∃ s neg A cap l, e = .returned (.agg #[.int .i64 s, .bool neg, .slice A l.length cap]) ∧ ig w' s neg A cap l z ∧ Below w.heap.size w w'

def Rz (cs : Array Value) : Prop := ∀ (i : Nat) (n : Int), cs[i]? ≠ some (Value.int .u64 n)
theorem ze (s : Int) (b : Bool) (A : Option Addr) (n c : Nat) : Rz #[.int .i64 s, .bool b, .slice A n c] := by
 intro i n h
 match i, h with
 | 0, h => simp at h
 | 1, h => simp at h
 | 2, h => simp at h
 | i + 3, h => simp at h

theorem Ws.upto {w w' : World} {B g : Nat} {A : Option Addr} {l : List Nat} {T : TypeId} {cs : Array Value} (h : Ws .u64 w B A l) (hg : w.heap[g]? = some (.cells cs T (0, 0))) (hn : Rz cs) (hgr : w.grownBy w' (some g)) (hB : B ≤ w.heap.size) : Ws .u64 w' B A l := fun hl => by
 obtain ⟨b, off, rfl, hb, hc⟩ := h hl
 have hne : b ≠ g := by
  rintro rfl
  have := hc 0 hl
  simp only [World.cell?, hg, Option.isSome_none, Bool.false_eq_true, if_false] at this
  exact hn _ _ this
 exact ⟨b, off, rfl, hb, fun j hj => (World.cell?_of_block (hgr.block b om (fun e => hne (by injection e)))).trans (hc j hj)⟩
theorem lv.upto {w w' : World} {g : Nat} {A : Option Addr} {cap : Nat} {l : List Nat} {n : Nat} {T : TypeId} {cs : Array Value} (h : lv w A cap l n) (hg : w.heap[g]? = some (.cells cs T (0, 0))) (hn : Rz cs) (hgr : w.grownBy w' (some g)) : lv w' A cap l n :=
 ⟨(h.ws.upto hg hn hgr (Nat.le_refl _)).more hgr.size, h.tu, h.cap2, h.lt, h.norm, h.val⟩
theorem ig.upto {w w' : World} {g : Nat} {s : Int} {neg : Bool} {A : Option Addr} {cap : Nat} {l : List Nat} {z : Int} {T : TypeId} {cs : Array Value} (h : ig w s neg A cap l z) (hg : w.heap[g]? = some (.cells cs T (0, 0))) (hn : Rz cs) (hgr : w.grownBy w' (some g)) : ig w' s neg A cap l z :=
 ⟨let ⟨n, hn'⟩ := h.nat; ⟨n, hn'.upto hg hn hgr⟩, h.form⟩

theorem jl (w : World) (g : Nat) (u0 u1 u2 : Value) : w.grownBy (((w.setCell ⟨g, 0, none⟩ u0).setCell ⟨g, 1, none⟩ u1).setCell ⟨g, 2, none⟩ u2) (some g) :=
 ni (ni (ni (ug _ _) _ _) _ _) _ _

theorem uh (s : Int) (neg : Bool) (A : Option Addr) (cap n : Nat) (w : World) :
  Calls Tryz.prog 168 #[.agg #[.int .i64 s, .bool neg, .slice A n cap]] w fun e w' => e = .returned (.bool (decide (n = 0))) ∧ w' = w.alloc (.cells #[.int .i64 s, .bool neg, .slice A n cap] 72) := by
 by_cases h : n = 0
 ·
  subst h
  go_enter Tryz.func168, Tryz.ntmps168
  go_wp2
  go_ret
  exact ⟨rfl, rfl⟩
 ·
  have hb : ((n : Int) == 0) = false := beq_eq_false_iff_ne.2 om
  have hd : decide (n = 0) = false := decide_eq_false h
  rw [hd]
  clear hd
  go_enter Tryz.func168, Tryz.ntmps168
  go_wp2
  go_ret
  exact ⟨rfl, rfl⟩

theorem Ko (s : Int) (hs1 : -9223372036854775808 ≤ s) (hs2 : s ≤ 9223372036854775807) (w : World) :
  Calls Tryz.prog 166 #[.int .i64 s] w fun e w' => e = .returned (.int .u64 ((s.natAbs : Nat) : Int)) ∧ w' = w := by
 by_cases h : s < 0
 ·
  have e1 : IntKind.u64.wrap (-(IntKind.u64.wrap s)) = ((s.natAbs : Nat) : Int) := by
   rw [IntKind.wrap_u64, IntKind.wrap_u64]; omega
  have HE := Lib.hid e1
  clear e1 hs1 hs2
  go_enter Tryz.func166, Tryz.ntmps166
  go_wp2
  go_ret
  exact ⟨wy (by first | exact HE.out | (rw [← HE.out]; simp)), rfl⟩
 ·
  have e1 : IntKind.u64.wrap s = ((s.natAbs : Nat) : Int) := by
   rw [IntKind.wrap_u64]; omega
  have HE := Lib.hid e1
  clear e1 hs1 hs2
  go_enter Tryz.func166, Tryz.ntmps166
  go_wp2
  go_ret
  exact ⟨wy (by first | exact HE.out | (rw [← HE.out]; simp)), rfl⟩

theorem Sl (neg : Bool) (m : Nat) (hm : m < fo) (w : World) :
  Calls Tryz.prog 165 #[.bool neg, .int .u64 ((m : Nat) : Int)] w fun e w' => En w (if neg then -(m : Int) else (m : Int)) e w' := by
 by_cases h : Kh ≤ m
 ·
  have b1 : decide ((9223372036854775807 : Int) < (m : Int)) = true := decide_eq_true (by rw [zn] at h; omega)
  have hz : (if neg then -(m : Int) else (m : Int)).natAbs = m := by cases neg <;> simp
  have hn : decide ((if neg then -(m : Int) else (m : Int)) < 0) = neg := by rw [zn] at h; cases neg <;> simp <;> omega
  obtain ⟨z, hzz⟩ : ∃ z, z = if neg then -(m : Int) else (m : Int) := ⟨_, rfl⟩
  rw [← hzz] at hz hn ⊢
  have HZ := Lib.hid hz; have HN := Lib.hid hn; have HM := hide h; have HMB := hide hm
  clear hz hn hzz h hm
  go_enter Tryz.func165, Tryz.ntmps165
  go_wp2
  refine bodyPost_ret (v := .agg #[.int .i64 0, .bool neg, .slice (some ⟨w.heap.size + 1, 0, none⟩) 1 1]) (by simp [results, Tryz.results165, go_sem]) rfl ⟨0, neg, some ⟨w.heap.size + 1, 0, none⟩, 1, [m], rfl, ?_, ?_⟩
  ·
   have hz : ZB .u64 ((w.alloc (.cells #[.int .i64 0, .bool neg, .slice (some ⟨w.heap.size + 1, 0, none⟩) 1 1] 72)).alloc (.cells #[.int .u64 (m : Int)] 135)) (w.heap.size + 1) 135 [m] := by
    have : ZB .u64 ((w.alloc (.cells #[.int .i64 0, .bool neg, .slice (some ⟨w.heap.size + 1, 0, none⟩) 1 1] 72)).alloc (.cells #[.int .u64 (m : Int)] 135)) (w.alloc (.cells #[.int .i64 0, .bool neg, .slice (some ⟨w.heap.size + 1, 0, none⟩) 1 1] 72)).heap.size 135 [m] := heap_alloc_new _ _
    rwa [World.size_alloc] at this
   have h63 := HM.out
   rw [zn] at h63
   exact ⟨⟨m, hz.Et _ hz.lt, by simp, by omega, by simpa using HMB.out, .inr (by simp; omega), by simp [Wd.val]⟩, .inr ⟨by simp, rfl, HN.out.symm, by rw [HZ.out]; simp [Wd.val], by rw [HZ.out]; exact HM.out⟩⟩
  ·
   exact ((Below.refl _ _).alloc (Nat.le_refl _) _).alloc (by simp) _
 ·
  have b1 : decide ((9223372036854775807 : Int) < (m : Int)) = false := decide_eq_false (by rw [zn] at h; omega)
  have HM := hide h
  cases neg
  ·
   have e1 : IntKind.i64.wrap (m : Int) = (m : Int) := IntWalk.i64_in _ (by rw [zn] at h; omega)
   clear hm h
   go_enter Tryz.func165, Tryz.ntmps165
   go_wp2
   refine bodyPost_ret (v := .agg #[.int .i64 (m : Int), .bool false, .slice none 0 0]) (by simp [results, Tryz.results165, go_sem]) rfl ⟨(m : Int), false, none, 0, [], rfl, ?_, ?_⟩
   ·
    exact ig.small (by have := HM.out; simpa using this)
   ·
    exact (Below.refl _ _).alloc (Nat.le_refl _) _
  ·
   have e1 : IntKind.i64.wrap (m : Int) = (m : Int) := IntWalk.i64_in _ (by rw [zn] at h; omega)
   have e2 : wrap64 (-(m : Int)) = -(m : Int) := IntWalk.wrap64_in _ ⟨by rw [zn] at h; omega, by omega⟩
   clear hm h
   go_enter Tryz.func165, Tryz.ntmps165
   go_wp2
   refine bodyPost_ret (v := .agg #[.int .i64 (-(m : Int)), .bool false, .slice none 0 0]) (by simp [results, Tryz.results165, go_sem]) rfl ⟨-(m : Int), false, none, 0, [], rfl, ?_, ?_⟩
   ·
    exact ig.small (by have := HM.out; simpa using this)
   ·
    exact (Below.refl _ _).alloc (Nat.le_refl _) _

theorem Jz (n : Int) (h1 : -9223372036854775808 ≤ n) (h2 : n ≤ 9223372036854775807) (w : World) :
  Calls Tryz.prog 124 #[.int .i64 n] w fun e w' => En w n e w' := by
 have hs := Ko n h1 h2
 have hw : ∀ W, Calls Tryz.prog 165 #[.bool (decide (n < 0)), .int .u64 ((n.natAbs : Nat) : Int)] W fun e w' => En W n e w' := fun W => by
  have := Sl (decide (n < 0)) n.natAbs (by rw [ic]; omega) W
  rwa [show (if decide (n < 0) = true then -((n.natAbs : Nat) : Int) else ((n.natAbs : Nat) : Int)) = n by by_cases h : n < 0 <;> simp [h] <;> omega] at this
 have HS := hide hs; have HW := hide hw
 clear hs hw h1 h2
 by_cases hn : n < 0
 all_goals
  have hd : decide (n < 0) = decide (n < 0) := rfl
  first
   | rw [decide_eq_true hn] at HW
   | rw [decide_eq_false hn] at HW
  clear hd
  go_enter Tryz.func124, Tryz.ntmps124
  go_wp2_with fail
  refine ((aa HS) _).mono ?_
  rintro e w1 ⟨rfl, rfl⟩
  go_wp2_with fail
  refine ((aa HW) _).mono ?_
  rintro e w2 ⟨s, neg, A, cap, l, rfl, hf, hb⟩
  obtain ⟨hc, hfz⟩ := fu hb
  have hsz : w.heap.size < w2.heap.size := by have := hb.size; simp at this; omega
  have hblk : w2.heap[w.heap.size]? = some (.cells #[.int .i64 0, .bool false, .slice none 0 0] 72 (0, 0)) := (hb.block _ (by simp)).trans (heap_alloc_new w _)
  have kg := Lib.hid hblk
  clear hblk
  go_wp2_with fail
  exact bodyPost_ret (v := .agg #[.int .i64 s, .bool neg, .slice A l.length cap]) (by simp [results, Tryz.results124, go_sem, hc, hsz]) rfl
   ⟨s, neg, A, cap, l, rfl, hf.upto kg.out (ze _ _ _ _ _) (jl _ _ _ _ _), (((Below.refl _ _).alloc (Nat.le_refl _) _).trans (hb.mono (by simp))).grown (jl _ _ _ _ _) om (fun k hk => by injection hk with hk; omega)⟩

def iw (z : Int) : Int := if z < 0 then -1 else if 0 < z then 1 else 0

theorem ads (x y : Int) (w : World) :
  Calls Tryz.prog 173 #[.int .i64 x, .int .i64 y] w fun e w' => e = .returned (.int .i64 (iw (x - y))) ∧ w' = w := by
 go_enter Tryz.func173, Tryz.ntmps173
 go_wp2
 ·
  have h : x < y := by assumption
  go_ret
  exact ⟨wy (by unfold iw; rw [if_pos om]), rfl⟩
 ·
  have h : y < x := by assumption
  go_ret
  exact ⟨wy (by unfold iw; rw [if_neg om, if_pos om]), rfl⟩
 ·
  have h1 : y ≤ x := by assumption
  have h2 : x ≤ y := by assumption
  go_ret
  exact ⟨wy (by unfold iw; rw [if_neg om, if_neg om]), rfl⟩
end Go.Proofs.YtjdnmdlnaoedoaaGreatDoor
namespace Go.Proofs.YtjdnmdlnaoedoaaGreatDoor
open Go.RowKit

theorem ig.bounds {w : World} {s : Int} {neg : Bool} {A : Option Addr} {cap : Nat} {l : List Nat} {z : Int} (h : ig w s neg A cap l z) : -9223372036854775808 ≤ s ∧ s ≤ 9223372036854775807 := by
 rcases h.form with ⟨_, _, rfl, h⟩ | ⟨_, rfl, _⟩
 ·
  rw [zn] at h; omega
 ·
  omega

theorem Dy (s : Int) (neg : Bool) (A : Option Addr) (cap : Nat) (l : List Nat) (z : Int) (w : World) (h : ig w s neg A cap l z) :
  Calls Tryz.prog 171 #[.agg #[.int .i64 s, .bool neg, .slice A l.length cap]] w fun e w' => Fw w z.natAbs e w' := by
 have hsm := fun W => uh s neg A cap l.length W
 have Ga := hide hsm
 clear hsm
 rcases h.form with ⟨h1, h2, h3, h4⟩ | ⟨h1, h2, h3, h4, h5⟩
 ·
  rw [decide_eq_true h1] at Ga
  have hb := h.bounds
  have HSZ := hide (fun W => Ko s hb.1 hb.2 W)
  have Ib : z.natAbs < fo := by rw [zn] at h4; rw [ic]; omega
  rw [h3] at HSZ
  obtain ⟨a, ha⟩ : ∃ a, a = z.natAbs := ⟨_, rfl⟩
  rw [← ha] at HSZ Ib ⊢
  have HZB := hide Ib
  subst h3
  clear hb Ib h1 h2 h4 h ha
  go_enter Tryz.func171, Tryz.ntmps171
  go_wp2_with fail
  refine ((aa Ga) _).mono ?_
  rintro e w1 ⟨rfl, rfl⟩
  go_wp2_with fail
  refine ((aa HSZ) _).mono ?_
  rintro e w1 ⟨rfl, rfl⟩
  go_wp2_with fail
  refine (Vf _ (aa HZB) _).mono ?_
  rintro e w2 ⟨A', cap', l', rfl, hn, hb⟩
  go_wp2_with fail
  go_ret
  exact ⟨A', cap', l', rfl, hn, (((Below.refl _ _).alloc (Nat.le_refl _) _).alloc (by simp) _).trans (hb.mono (by simp; omega))⟩
 ·
  rw [decide_eq_false om] at Ga
  obtain ⟨n, hn⟩ := h.nat
  have hnz : n = z.natAbs := by rw [← h4, hn.val]
  subst hnz
  have HN := hide hn
  clear h1 h2 h3 h4 h5 h hn
  go_enter Tryz.func171, Tryz.ntmps171
  go_wp2_with fail
  refine ((aa Ga) _).mono ?_
  rintro e w1 ⟨rfl, rfl⟩
  go_wp2_with fail
  go_ret
  exact ⟨A, cap, l, rfl, (aa HN).below (((Below.refl _ _).alloc (Nat.le_refl _) _).alloc (by simp) _), ((Below.refl _ _).alloc (Nat.le_refl _) _).alloc (by simp) _⟩

theorem Ap (s : Int) (neg : Bool) (A : Option Addr) (cap : Nat) (l : List Nat) (z : Int) (w : World) (h : ig w s neg A cap l z) :
  Calls Tryz.prog 146 #[.agg #[.int .i64 s, .bool neg, .slice A l.length cap]] w fun e w' => e = .returned (.int .i64 (iw z)) ∧ Below w.heap.size w w' := by
 have Ga := hide (fun W => uh s neg A cap l.length W)
 rcases h.form with ⟨h1, h2, h3, h4⟩ | ⟨h1, h2, h3, h4, h5⟩
 ·
  rw [decide_eq_true h1] at Ga
  have HC := hide (fun W => ads z 0 W)
  rw [Int.sub_zero] at HC
  subst h3
  clear h1 h2 h4 h
  go_enter Tryz.func146, Tryz.ntmps146
  go_wp2_with fail
  refine ((aa Ga) _).mono ?_
  rintro e w1 ⟨rfl, rfl⟩
  go_wp2_with fail
  refine ((aa HC) _).mono ?_
  rintro e w1 ⟨rfl, rfl⟩
  go_wp2_with fail
  go_ret
  exact ⟨rfl, ((Below.refl _ _).alloc (Nat.le_refl _) _).alloc (by simp) _⟩
 ·
  rw [decide_eq_false om] at Ga
  have hs : iw z = if neg = true then -1 else 1 := by
   unfold iw; rw [h3]; rw [zn] at h5
   by_cases hz : z < 0
   ·
    simp [hz]
   ·
    simp [hz]; omega
  have HO := hide (fun W => Ql neg W)
  cases neg
  all_goals
   simp only [Bool.false_eq_true, if_false, if_true] at hs HO
   have HS := Lib.hid hs
   clear h1 h2 h3 h4 h5 h hs
   go_enter Tryz.func146, Tryz.ntmps146
   go_wp2_with fail
   refine ((aa Ga) _).mono ?_
   rintro e w1 ⟨rfl, rfl⟩
   go_wp2_with fail
   refine ((aa HO) _).mono ?_
   rintro e w1 ⟨rfl, rfl⟩
   go_wp2_with fail
   go_ret
   exact ⟨wy HS.out.symm, ((Below.refl _ _).alloc (Nat.le_refl _) _).alloc (by simp) _⟩

theorem Rn (s : Int) (neg : Bool) (A : Option Addr) (cap : Nat) (l : List Nat) (z : Int) (w : World) (h : ig w s neg A cap l z) :
  Calls Tryz.prog 147 #[.agg #[.int .i64 s, .bool neg, .slice A l.length cap]] w fun e w' => En w (-z) e w' := by
 have Ga := hide (fun W => uh s neg A cap l.length W)
 rcases h.form with ⟨h1, h2, h3, h4⟩ | ⟨h1, h2, h3, h4, h5⟩
 ·
  rw [decide_eq_true h1] at Ga
  subst h3
  have e1 : wrap64 (-s) = -s := IntWalk.wrap64_in _ (by rw [zn] at h4; omega)
  have H4 := hide h4
  clear h1 h2 h4 h
  go_enter Tryz.func147, Tryz.ntmps147
  go_wp2_with fail
  refine ((aa Ga) _).mono ?_
  rintro e w1 ⟨rfl, rfl⟩
  go_wp2_with fail
  refine bodyPost_ret (v := .agg #[.int .i64 (-s), .bool false, .slice none 0 0]) (by simp [results, Tryz.results147, go_sem]) rfl ⟨-s, false, none, 0, [], rfl, ig.small (by have := aa H4; simpa using this), ?_⟩
  exact (((Below.refl _ _).alloc (Nat.le_refl _) _).alloc (by simp) _).alloc (by simp; omega) _
 ·
  rw [decide_eq_false om] at Ga
  have hf : ig w 0 (!neg) A cap l (-z) := by
   refine ⟨h.nat, .inr ⟨h1, rfl, ?_, by rw [h4]; simp, by simpa using h5⟩⟩
   rw [h3]; rw [zn] at h5
   by_cases hz : z < 0
   ·
    simp [hz]; omega
   ·
    simp [hz]; omega
  have H := hide hf
  clear h1 h2 h3 h4 h5 h hf
  go_enter Tryz.func147, Tryz.ntmps147
  go_wp2_with fail
  refine ((aa Ga) _).mono ?_
  rintro e w1 ⟨rfl, rfl⟩
  go_wp2_with fail
  refine bodyPost_ret (v := .agg #[.int .i64 0, .bool (!neg), .slice A l.length cap]) (by simp [results, Tryz.results147, go_sem]) rfl ⟨0, !neg, A, cap, l, rfl, ?_, ?_⟩
  ·
   exact (aa H).below ((((Below.refl _ _).alloc (Nat.le_refl _) _).alloc (by simp) _).alloc (by simp; omega) _)
  ·
   exact (((Below.refl _ _).alloc (Nat.le_refl _) _).alloc (by simp) _).alloc (by simp; omega) _

theorem Bt (s : Int) (neg : Bool) (A : Option Addr) (cap n : Nat) (w : World) :
  Calls Tryz.prog 127 #[.agg #[.int .i64 s, .bool neg, .slice A n cap]] w fun e w' => e = .returned (.tuple #[.int .i64 s, .bool (decide (n = 0))]) ∧ Below w.heap.size w w' := by
 have Ga := hide (fun W => uh s neg A cap n W)
 go_enter Tryz.func127, Tryz.ntmps127
 go_wp2_with fail
 go_region_with (go_at_call 168; refine ((aa Ga) _).mono ?_; rintro e w' ⟨rfl, rfl⟩)
 all_goals
  go_wp2_with fail
  go_ret2
  refine ⟨rfl, ?_⟩
  repeat (first | exact Below.refl _ _ | refine Below.drew ?_ | (refine Below.alloc ?_ (by simp <;> omega) _))
end Go.Proofs.YtjdnmdlnaoedoaaGreatDoor
