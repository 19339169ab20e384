/- Texts beneath a law of layer 1. -/
import Derived.Test.YtfgeaakhlcaibaaGreatDoorDa4
import Derived.Deep.RegionHeld3
import Derived.IntWalk
set_option maxRecDepth 100000
set_option maxHeartbeats 16000000
namespace Go.Proofs.YtfgeaakhlcaibaaGreatDoor
open Go.RowKit

theorem addr_add (b off j : Nat) : (⟨b, off, none⟩ : Addr).add j = ⟨b, off + j, none⟩ := by
 unfold Addr.add
 split
 ·
  rename_i h; subst h; rfl
 ·
  rfl

def Gc (k : IntKind) (l : List Nat) : List Value := l.map fun (x : Nat) => Value.int k (x : Int)
theorem aok {k : IntKind} {l : List Nat} {j : Nat} {v : Value} (h : (Gc k l)[j]? = some v) : j < l.length ∧ v = .int k ((Wd.g l j : Nat) : Int) := by
 simp only [Gc, List.getElem?_map, Option.map_eq_some_iff] at h
 obtain ⟨x, hx, rfl⟩ := h
 obtain ⟨hl, rfl⟩ := List.getElem?_eq_some_iff.1 hx
 exact ⟨hl, by simp [Wd.g, List.getD, hl]⟩

theorem aes (k : IntKind) (l : List Nat) (n : Nat) (hn : l.length ≤ n) : (splice (Gc k (List.replicate n 0)) 0 (Gc k l)).toArray = vg k (l ++ List.replicate (n - l.length) 0) := by
 simp [splice, Gc, vg]

theorem adm (k : IntKind) (l : List Nat) : ∀ v ∈ Gc k l, v.oneCell' = true := by
 intro v hv
 simp only [Gc, List.mem_map] at hv
 obtain ⟨x, _, rfl⟩ := hv
 rfl

theorem Wx (B : Nat) (l : List Nat) (n : Nat) : Wd.val B (l ++ List.replicate n 0) = Wd.val B l := by
 rw [Wd.val_append, Wd.Sl]; simp

theorem ape : (Tryz.prog.info? 157).map (·.size) = some 1 := by kernel_rfl

theorem ase (A : Option Addr) (c : Nat) (l : List Nat) (wa : World) (B g : Nat) (hz : ZB .u64 wa g 157 (List.replicate (l.length + 1) 0)) (hws : Ws .u64 wa B A l) :
  ∃ W', (Builtin.copy_ #[75, 75] 3 #[.slice (some ⟨g, 0, none⟩) (l.length + 1) (l.length + 1), .slice A l.length c]).run Tryz.prog wa = .ok (goInt l.length) W' ∧ ZB .u64 W' g 157 (l ++ [0]) ∧ ∀ B', B' ≤ g → Below B' wa W' := by
 by_cases h0 : l.length = 0
 ·
  have hl := List.eq_nil_of_length_eq_zero h0
  subst hl
  exact ⟨wa, run_copy_none wa 75 75 3 157 _ _ _ _ _ _ Tryz.underlying75 ape (by simp), hz, fun B' _ => Below.refl _ _⟩
 ·
  obtain ⟨b, off, rfl, _, hc⟩ := hws om
  have hlen : (Gc .u64 l).length = l.length := by simp [Gc]
  have hsp := aes .u64 l (l.length + 1) om
  rw [show l.length + 1 - l.length = 1 by omega] at hsp
  have hrun := run_copy_row (P := Tryz.prog) wa 75 75 3 157 g 0 (l.length + 1) (l.length + 1) ⟨b, off, none⟩ l.length c (vg .u64 (List.replicate (l.length + 1) 0)) 157 (Gc .u64 l) Tryz.underlying75 ape hz
   (by rw [hlen]; exact (Nat.min_eq_left om).symm) (fun j v hj => by
    obtain ⟨h1, rfl⟩ := aok hj
    rw [addr_add]
    exact hc j h1) (by rw [hlen]; simp [vg]) (adm _ _)
  rw [hlen] at hrun
  refine ⟨_, hrun, ?_, fun B' hB' => below_setRow (Below.refl _ _) hB' _⟩
  have e : ((vg .u64 (List.replicate (l.length + 1) 0)).toList.take 0 ++ Gc .u64 l ++ (vg .u64 (List.replicate (l.length + 1) 0)).toList.drop (0 + l.length)).toArray = vg .u64 (l ++ [0]) := by
   rw [show [0] = List.replicate 1 0 from rfl, ← hsp]
   simp [splice, vg, Gc]
  rw [e]
  exact setRow_heap wa g _ _ 157 (0, 0) hz

theorem ala {B : Nat} (hB : 1 < B) {pl ql zr : List Nat} {n m c : Nat} (h1 : Wd.val B zr + B ^ (pl ++ [0]).length * c = Wd.val B (pl ++ [0]) + Wd.val B ql) (hp : Wd.val B pl = n) (hq : Wd.val B ql = m) (hn : n < B ^ pl.length) (hm : m < B ^ ql.length) (hl : ql.length ≤ pl.length) (hc : c ≤ 1) : Wd.val B zr = n + m := by
 have h2 : Wd.val B (pl ++ [0]) = n := by rw [show [0] = List.replicate 1 0 from rfl, Wx]; exact hp
 rw [h2, hq] at h1
 have h5 : B ^ ql.length ≤ B ^ pl.length := Nat.pow_le_pow_right (Nat.lt_trans Nat.zero_lt_one hB) hl
 have h6 : B ^ (pl ++ [0]).length = B ^ pl.length * B := by rw [List.length_append, List.length_singleton, Nat.pow_succ]
 have h7 : 2 * B ^ pl.length ≤ B ^ pl.length * B := by rw [Nat.mul_comm]; exact Nat.mul_le_mul_left _ hB
 rw [h6] at h1
 generalize B ^ pl.length * B = Q at *
 generalize B ^ pl.length = P at *
 generalize B ^ ql.length = R at *
 rcases (show c = 0 ∨ c = 1 by omega) with rfl | rfl <;> omega

theorem aki {l : List Nat} (h : ∀ x ∈ l, x < dh) : ∀ x ∈ l ++ [0], x < dh := by
 intro t ht
 rw [List.mem_append] at ht
 rcases ht with h1 | h1
 ·
  exact h t h1
 ·
  rw [List.mem_singleton] at h1; subst h1; exact Nat.lt_trans Nat.zero_lt_one oh

theorem Qa (Ax Ay : Option Addr) (cx cy : Nat) (xl yl : List Nat) (n m : Nat) (w : World) (hx : jy w Ax cx xl n) (hy : jy w Ay cy yl m) (hk : xl.length ≤ lim) (hk2 : yl.length ≤ lim) :
  Calls Tryz.prog 202 #[.slice Ax xl.length cx, .slice Ay yl.length cy] w fun e w' => Es w (n + m) e w' := by
 have hx1 := hx.qp; have hx2 := hx.cap2; have hy1 := hy.qp; have hy2 := hy.cap2
 have hkk : xl.length ≤ 17592186044416 := by rw [← zo]; exact hk
 have bun : yl.length ≤ 17592186044416 := by rw [← zo]; exact hk2
 by_cases hlt : xl.length < yl.length
 ·
  have b1 : decide ((xl.length : Int) < (yl.length : Int)) = true := decide_eq_true om
  have b2 : decide (xl.length < yl.length) = true := decide_eq_true om
  have hmk := Kk (yl.length + 1) om
  simp only [Int.natCast_add, Int.cast_ofNat_Int] at hmk
  have hws : Ws .u64 (w.alloc (.cells (vg .u64 (List.replicate (yl.length + 1) 0)) 157)) w.heap.size Ay yl := hy.ws.alloc (Nat.le_refl _) _
  obtain ⟨w1, hcopy, hz, hb0⟩ := ase Ay cy yl _ w.heap.size w.heap.size (heap_alloc_new w _) hws
  have hb1 : Below w.heap.size w w1 := ((Below.refl _ _).alloc (Nat.le_refl _) _).trans (hb0 _ (Nat.le_refl _))
  clear hb0 hws
  go_enter Tryz.func202, Tryz.ntmps202
  go_wp2_with fail
  have hx1 := hx.below hb1
  have hadd := Ot w.heap.size 0 (yl.length + 1) 157 (yl ++ [0]) (yl ++ [0]) xl Ax cx w.heap.size w1 hz (by simp) (by rw [List.drop_zero, List.take_of_length_le (Nat.le_refl _)]) (by simp) om (hx.ws.below hb1) (Nat.le_refl _) hx.qp hx.cap2 (by simp; omega) (aki hy.lt) hx.lt
  have e0 : (yl ++ [0]).length = yl.length + 1 := by simp
  rw [e0] at hadd
  refine hadd.mono ?_
  rintro e w2 ⟨zr, c, rfl, hok, hz2, hg2⟩
  have hl2 : zr.length = yl.length + 1 := by rw [hok.len]; simp
  rw [win_zero _ _ (by rw [hok.len])] at hz2
  have hval : Wd.val dh zr = n + m := by rw [Nat.add_comm]; exact ala oh hok.eq hy.val hx.val hy.Pq hx.Pq om hok.c1
  have hb2 : Below w.heap.size w w2 := hb1.grown hg2 hb1.size (fun g e => by injection e with e; omega)
  have HL2 := Lib.hid hl2; have axj := Lib.hid hval; have rq := hide hok.lt
  have htr := Cx (some ⟨w.heap.size, 0, none⟩) zr.length zr w2.heap.size w2 (hz2.Dw _ hz2.lt) (Nat.le_refl _) om
  rw [hl2] at htr
  have HTR := hide htr
  clear hl2 hval hok hadd htr
  go_wp2_with fail
  refine (aa HTR).mono ?_
  rintro e w3 ⟨⟨k, rfl, ht, hk3⟩, hw3⟩
  obtain rfl : w2 = w3 := hw3.symm
  go_wp2_with fail
  go_ret
  have hk4 : k = (zr.take k).length := by have := HL2.out; rw [List.length_take]; omega
  have h := jy.Bq (cap := yl.length + 1) hz2 (aa rq) ht (by rw [HL2.out]; exact hk3) (by rw [HL2.out]; exact Nat.le_refl _) om
  rw [axj.out] at h
  exact ⟨some ⟨w.heap.size, 0, none⟩, yl.length + 1, zr.take k, Hd hk4, h, hb2⟩
 ·
  have b1 : decide ((xl.length : Int) < (yl.length : Int)) = false := decide_eq_false om
  have b2 : decide (xl.length < yl.length) = false := decide_eq_false om
  have hmk := Kk (xl.length + 1) om
  simp only [Int.natCast_add, Int.cast_ofNat_Int] at hmk
  have hws : Ws .u64 (w.alloc (.cells (vg .u64 (List.replicate (xl.length + 1) 0)) 157)) w.heap.size Ax xl := hx.ws.alloc (Nat.le_refl _) _
  obtain ⟨w1, hcopy, hz, hb0⟩ := ase Ax cx xl _ w.heap.size w.heap.size (heap_alloc_new w _) hws
  have hb1 : Below w.heap.size w w1 := ((Below.refl _ _).alloc (Nat.le_refl _) _).trans (hb0 _ (Nat.le_refl _))
  clear hb0 hws
  go_enter Tryz.func202, Tryz.ntmps202
  go_wp2_with fail
  have hy1 := hy.below hb1
  have hadd := Ot w.heap.size 0 (xl.length + 1) 157 (xl ++ [0]) (xl ++ [0]) yl Ay cy w.heap.size w1 hz (by simp) (by rw [List.drop_zero, List.take_of_length_le (Nat.le_refl _)]) (by simp) om (hy.ws.below hb1) (Nat.le_refl _) hy.qp hy.cap2 (by simp; omega) (aki hx.lt) hy.lt
  have e0 : (xl ++ [0]).length = xl.length + 1 := by simp
  rw [e0] at hadd
  refine hadd.mono ?_
  rintro e w2 ⟨zr, c, rfl, hok, hz2, hg2⟩
  have hl2 : zr.length = xl.length + 1 := by rw [hok.len]; simp
  rw [win_zero _ _ (by rw [hok.len])] at hz2
  have hval : Wd.val dh zr = n + m := ala oh hok.eq hx.val hy.val hx.Pq hy.Pq om hok.c1
  have hb2 : Below w.heap.size w w2 := hb1.grown hg2 hb1.size (fun g e => by injection e with e; omega)
  have HL2 := Lib.hid hl2; have axj := Lib.hid hval; have rq := hide hok.lt
  have htr := Cx (some ⟨w.heap.size, 0, none⟩) zr.length zr w2.heap.size w2 (hz2.Dw _ hz2.lt) (Nat.le_refl _) om
  rw [hl2] at htr
  have HTR := hide htr
  clear hl2 hval hok hadd htr
  go_wp2_with fail
  refine (aa HTR).mono ?_
  rintro e w3 ⟨⟨k, rfl, ht, hk3⟩, hw3⟩
  obtain rfl : w2 = w3 := hw3.symm
  go_wp2_with fail
  go_ret
  have hk4 : k = (zr.take k).length := by have := HL2.out; rw [List.length_take]; omega
  have h := jy.Bq (cap := xl.length + 1) hz2 (aa rq) ht (by rw [HL2.out]; exact hk3) (by rw [HL2.out]; exact Nat.le_refl _) om
  rw [axj.out] at h
  exact ⟨some ⟨w.heap.size, 0, none⟩, xl.length + 1, zr.take k, Hd hk4, h, hb2⟩

theorem fe {W w1 : World} (hb : Below W.heap.size W w1) : (∀ b o, b < W.heap.size → w1.cell? ⟨b, o, none⟩ = W.cell? ⟨b, o, none⟩) ∧ (∀ b o, b < W.heap.size → w1.frozen? ⟨b, o, none⟩ = W.frozen? ⟨b, o, none⟩) :=
 ⟨fun b o h => hb.cell (p := ⟨b, o, none⟩) h, fun b o h => hb.frozen (p := ⟨b, o, none⟩) h⟩

def Iq : Nat := 9223372036854775808
theorem uf : Iq = 9223372036854775808 := rfl

structure fw (w : World) (s : Int) (neg : Bool) (A : Option Addr) (cap : Nat) (l : List Nat) (z : Int) : Prop where
 nat : ∃ n, jy w A cap l n
 form : (l.length = 0 ∧ neg = false ∧ s = z ∧ z.natAbs < Iq) ∨ (0 < l.length ∧ s = 0 ∧ neg = decide (z < 0) ∧ Wd.val dh l = z.natAbs ∧ Iq ≤ z.natAbs)

theorem fw.below {w w' : World} {s : Int} {neg : Bool} {A : Option Addr} {cap : Nat} {l : List Nat} {z : Int} (h : fw w s neg A cap l z) (hb : Below w.heap.size w w') : fw w' s neg A cap l z :=
 ⟨let ⟨n, hn⟩ := h.nat; ⟨n, hn.below hb⟩, h.form⟩
theorem fw.small {w : World} {z : Int} (hz : z.natAbs < Iq) : fw w z false none 0 [] z := ⟨⟨0, jy.Rc _ _ om⟩, .inl ⟨rfl, rfl, rfl, hz⟩⟩

def Be (w : World) (z : Int) (e : Ending) (w' : World) : Prop := ∃ s neg A cap l, e = .returned (.agg #[.int .i64 s, .bool neg, .slice A l.length cap]) ∧ fw w' s neg A cap l z ∧ Below w.heap.size w w'

def Qb (cs : Array Value) : Prop := ∀ (i : Nat) (n : Int), cs[i]? ≠ some (Value.int .u64 n)
theorem qw (s : Int) (b : Bool) (A : Option Addr) (n c : Nat) : Qb #[.int .i64 s, .bool b, .slice A n c] := by
 intro i n h
 match i, h with
 | 0, h => simp at h
 | 1, h => simp at h
 | 2, h => simp at h
 | i + 3, h => simp at h

theorem Ws.upto {w w' : World} {B g : Nat} {A : Option Addr} {l : List Nat} {T : TypeId} {cs : Array Value} (h : Ws .u64 w B A l) (hg : w.heap[g]? = some (.cells cs T (0, 0))) (hn : Qb cs) (hgr : w.grownBy w' (some g)) (hB : B ≤ w.heap.size) : Ws .u64 w' B A l := fun hl => by
 obtain ⟨b, off, rfl, hb, hc⟩ := h hl
 have hne : b ≠ g := by
  rintro rfl
  have := hc 0 hl
  simp only [World.cell?, hg, Option.isSome_none, Bool.false_eq_true, if_false] at this
  exact hn _ _ this
 exact ⟨b, off, rfl, hb, fun j hj => (World.cell?_of_block (hgr.block b om (fun e => hne (by injection e)))).trans (hc j hj)⟩
theorem jy.upto {w w' : World} {g : Nat} {A : Option Addr} {cap : Nat} {l : List Nat} {n : Nat} {T : TypeId} {cs : Array Value} (h : jy w A cap l n) (hg : w.heap[g]? = some (.cells cs T (0, 0))) (hn : Qb cs) (hgr : w.grownBy w' (some g)) : jy w' A cap l n :=
 ⟨(h.ws.upto hg hn hgr (Nat.le_refl _)).more hgr.size, h.qp, h.cap2, h.lt, h.norm, h.val⟩
theorem fw.upto {w w' : World} {g : Nat} {s : Int} {neg : Bool} {A : Option Addr} {cap : Nat} {l : List Nat} {z : Int} {T : TypeId} {cs : Array Value} (h : fw w s neg A cap l z) (hg : w.heap[g]? = some (.cells cs T (0, 0))) (hn : Qb cs) (hgr : w.grownBy w' (some g)) : fw w' s neg A cap l z :=
 ⟨let ⟨n, hn'⟩ := h.nat; ⟨n, hn'.upto hg hn hgr⟩, h.form⟩

theorem il (w : World) (g : Nat) (u0 u1 u2 : Value) : w.grownBy (((w.setCell ⟨g, 0, none⟩ u0).setCell ⟨g, 1, none⟩ u1).setCell ⟨g, 2, none⟩ u2) (some g) :=
 kz (kz (kz (qb _ _) _ _) _ _) _ _

theorem qh (s : Int) (neg : Bool) (A : Option Addr) (cap n : Nat) (w : World) :
  Calls Tryz.prog 188 #[.agg #[.int .i64 s, .bool neg, .slice A n cap]] w fun e w' => e = .returned (.bool (decide (n = 0))) ∧ w' = w.alloc (.cells #[.int .i64 s, .bool neg, .slice A n cap] 77) := by
 by_cases h : n = 0
 ·
  subst h
  go_enter Tryz.func188, Tryz.ntmps188
  go_wp2
  go_ret
  exact ⟨rfl, rfl⟩
 ·
  have hb : ((n : Int) == 0) = false := beq_eq_false_iff_ne.2 om
  have hd : decide (n = 0) = false := decide_eq_false h
  rw [hd]
  clear hd
  go_enter Tryz.func188, Tryz.ntmps188
  go_wp2
  go_ret
  exact ⟨rfl, rfl⟩

theorem Jh (s : Int) (hs1 : -9223372036854775808 ≤ s) (hs2 : s ≤ 9223372036854775807) (w : World) :
  Calls Tryz.prog 186 #[.int .i64 s] w fun e w' => e = .returned (.int .u64 ((s.natAbs : Nat) : Int)) ∧ w' = w := by
 by_cases h : s < 0
 ·
  have e1 : IntKind.u64.wrap (-(IntKind.u64.wrap s)) = ((s.natAbs : Nat) : Int) := by
   rw [IntKind.wrap_u64, IntKind.wrap_u64]; omega
  have HE := Lib.hid e1
  clear e1 hs1 hs2
  go_enter Tryz.func186, Tryz.ntmps186
  go_wp2
  go_ret
  exact ⟨wm (by first | exact HE.out | (rw [← HE.out]; simp)), rfl⟩
 ·
  have e1 : IntKind.u64.wrap s = ((s.natAbs : Nat) : Int) := by
   rw [IntKind.wrap_u64]; omega
  have HE := Lib.hid e1
  clear e1 hs1 hs2
  go_enter Tryz.func186, Tryz.ntmps186
  go_wp2
  go_ret
  exact ⟨wm (by first | exact HE.out | (rw [← HE.out]; simp)), rfl⟩

theorem Qm (neg : Bool) (m : Nat) (hm : m < dh) (w : World) :
  Calls Tryz.prog 185 #[.bool neg, .int .u64 ((m : Nat) : Int)] w fun e w' => Be w (if neg then -(m : Int) else (m : Int)) e w' := by
 by_cases h : Iq ≤ m
 ·
  have b1 : decide ((9223372036854775807 : Int) < (m : Int)) = true := decide_eq_true (by rw [uf] at h; omega)
  have hz : (if neg then -(m : Int) else (m : Int)).natAbs = m := by cases neg <;> simp
  have hn : decide ((if neg then -(m : Int) else (m : Int)) < 0) = neg := by rw [uf] at h; cases neg <;> simp <;> omega
  obtain ⟨z, hzz⟩ : ∃ z, z = if neg then -(m : Int) else (m : Int) := ⟨_, rfl⟩
  rw [← hzz] at hz hn ⊢
  have HZ := Lib.hid hz; have HN := Lib.hid hn; have HM := hide h; have HMB := hide hm
  clear hz hn hzz h hm
  go_enter Tryz.func185, Tryz.ntmps185
  go_wp2
  refine bodyPost_ret (v := .agg #[.int .i64 0, .bool neg, .slice (some ⟨w.heap.size + 1, 0, none⟩) 1 1]) (by simp [results, Tryz.results185, go_sem]) rfl ⟨0, neg, some ⟨w.heap.size + 1, 0, none⟩, 1, [m], rfl, ?_, ?_⟩
  ·
   have hz : ZB .u64 ((w.alloc (.cells #[.int .i64 0, .bool neg, .slice (some ⟨w.heap.size + 1, 0, none⟩) 1 1] 77)).alloc (.cells #[.int .u64 (m : Int)] 157)) (w.heap.size + 1) 157 [m] := by
    have : ZB .u64 ((w.alloc (.cells #[.int .i64 0, .bool neg, .slice (some ⟨w.heap.size + 1, 0, none⟩) 1 1] 77)).alloc (.cells #[.int .u64 (m : Int)] 157)) (w.alloc (.cells #[.int .i64 0, .bool neg, .slice (some ⟨w.heap.size + 1, 0, none⟩) 1 1] 77)).heap.size 157 [m] := heap_alloc_new _ _
    rwa [World.size_alloc] at this
   have h63 := HM.out
   rw [uf] at h63
   exact ⟨⟨m, hz.Dw _ hz.lt, by simp, by omega, by simpa using HMB.out, .inr (by simp; omega), by simp [Wd.val]⟩, .inr ⟨by simp, rfl, HN.out.symm, by rw [HZ.out]; simp [Wd.val], by rw [HZ.out]; exact HM.out⟩⟩
  ·
   exact ((Below.refl _ _).alloc (Nat.le_refl _) _).alloc (by simp) _
 ·
  have b1 : decide ((9223372036854775807 : Int) < (m : Int)) = false := decide_eq_false (by rw [uf] at h; omega)
  have HM := hide h
  cases neg
  ·
   have e1 : IntKind.i64.wrap (m : Int) = (m : Int) := IntWalk.i64_in _ (by rw [uf] at h; omega)
   clear hm h
   go_enter Tryz.func185, Tryz.ntmps185
   go_wp2
   refine bodyPost_ret (v := .agg #[.int .i64 (m : Int), .bool false, .slice none 0 0]) (by simp [results, Tryz.results185, go_sem]) rfl ⟨(m : Int), false, none, 0, [], rfl, ?_, ?_⟩
   ·
    exact fw.small (by have := HM.out; simpa using this)
   ·
    exact (Below.refl _ _).alloc (Nat.le_refl _) _
  ·
   have e1 : IntKind.i64.wrap (m : Int) = (m : Int) := IntWalk.i64_in _ (by rw [uf] at h; omega)
   have e2 : wrap64 (-(m : Int)) = -(m : Int) := IntWalk.wrap64_in _ ⟨by rw [uf] at h; omega, by omega⟩
   clear hm h
   go_enter Tryz.func185, Tryz.ntmps185
   go_wp2
   refine bodyPost_ret (v := .agg #[.int .i64 (-(m : Int)), .bool false, .slice none 0 0]) (by simp [results, Tryz.results185, go_sem]) rfl ⟨-(m : Int), false, none, 0, [], rfl, ?_, ?_⟩
   ·
    exact fw.small (by have := HM.out; simpa using this)
   ·
    exact (Below.refl _ _).alloc (Nat.le_refl _) _

theorem Al (n : Int) (h1 : -9223372036854775808 ≤ n) (h2 : n ≤ 9223372036854775807) (w : World) :
  Calls Tryz.prog 137 #[.int .i64 n] w fun e w' => Be w n e w' := by
 have hs := Jh n h1 h2
 have hw : ∀ W, Calls Tryz.prog 185 #[.bool (decide (n < 0)), .int .u64 ((n.natAbs : Nat) : Int)] W fun e w' => Be W n e w' := fun W => by
  have := Qm (decide (n < 0)) n.natAbs (by rw [gm]; omega) W
  rwa [show (if decide (n < 0) = true then -((n.natAbs : Nat) : Int) else ((n.natAbs : Nat) : Int)) = n by by_cases h : n < 0 <;> simp [h] <;> omega] at this
 have HS := hide hs; have HW := hide hw
 clear hs hw h1 h2
 by_cases hn : n < 0
 all_goals
  have hd : decide (n < 0) = decide (n < 0) := rfl
  first
   | rw [decide_eq_true hn] at HW
   | rw [decide_eq_false hn] at HW
  clear hd
  go_enter Tryz.func137, Tryz.ntmps137
  go_wp2_with fail
  refine ((aa HS) _).mono ?_
  rintro e w1 ⟨rfl, rfl⟩
  go_wp2_with fail
  refine ((aa HW) _).mono ?_
  rintro e w2 ⟨s, neg, A, cap, l, rfl, hf, hb⟩
  obtain ⟨hc, hfz⟩ := fe hb
  have hsz : w.heap.size < w2.heap.size := by have := hb.size; simp at this; omega
  have hblk : w2.heap[w.heap.size]? = some (.cells #[.int .i64 0, .bool false, .slice none 0 0] 77 (0, 0)) := (hb.block _ (by simp)).trans (heap_alloc_new w _)
  have ky := Lib.hid hblk
  clear hblk
  go_wp2_with fail
  exact bodyPost_ret (v := .agg #[.int .i64 s, .bool neg, .slice A l.length cap]) (by simp [results, Tryz.results137, go_sem, hc, hsz]) rfl
   ⟨s, neg, A, cap, l, rfl, hf.upto ky.out (qw _ _ _ _ _) (il _ _ _ _ _), (((Below.refl _ _).alloc (Nat.le_refl _) _).trans (hb.mono (by simp))).grown (il _ _ _ _ _) om (fun k hk => by injection hk with hk; omega)⟩

def qi (z : Int) : Int := if z < 0 then -1 else if 0 < z then 1 else 0

theorem asf (x y : Int) (w : World) :
  Calls Tryz.prog 193 #[.int .i64 x, .int .i64 y] w fun e w' => e = .returned (.int .i64 (qi (x - y))) ∧ w' = w := by
 go_enter Tryz.func193, Tryz.ntmps193
 go_wp2
 ·
  have h : x < y := by assumption
  go_ret
  exact ⟨wm (by unfold qi; rw [if_pos om]), rfl⟩
 ·
  have h : y < x := by assumption
  go_ret
  exact ⟨wm (by unfold qi; rw [if_neg om, if_pos om]), rfl⟩
 ·
  have h1 : y ≤ x := by assumption
  have h2 : x ≤ y := by assumption
  go_ret
  exact ⟨wm (by unfold qi; rw [if_neg om, if_neg om]), rfl⟩

theorem fw.bounds {w : World} {s : Int} {neg : Bool} {A : Option Addr} {cap : Nat} {l : List Nat} {z : Int} (h : fw w s neg A cap l z) : -9223372036854775808 ≤ s ∧ s ≤ 9223372036854775807 := by
 rcases h.form with ⟨_, _, rfl, h⟩ | ⟨_, rfl, _⟩
 ·
  rw [uf] at h; omega
 ·
  omega

theorem Du (s : Int) (neg : Bool) (A : Option Addr) (cap : Nat) (l : List Nat) (z : Int) (w : World) (h : fw w s neg A cap l z) :
  Calls Tryz.prog 191 #[.agg #[.int .i64 s, .bool neg, .slice A l.length cap]] w fun e w' => Es w z.natAbs e w' := by
 have hsm := fun W => qh s neg A cap l.length W
 have Fe := hide hsm
 clear hsm
 rcases h.form with ⟨h1, h2, h3, h4⟩ | ⟨h1, h2, h3, h4, h5⟩
 ·
  rw [decide_eq_true h1] at Fe
  have hb := h.bounds
  have Sd := hide (fun W => Jh s hb.1 hb.2 W)
  have Fb : z.natAbs < dh := by rw [uf] at h4; rw [gm]; omega
  rw [h3] at Sd
  obtain ⟨a, ha⟩ : ∃ a, a = z.natAbs := ⟨_, rfl⟩
  rw [← ha] at Sd Fb ⊢
  have HZB := hide Fb
  subst h3
  clear hb Fb h1 h2 h4 h ha
  go_enter Tryz.func191, Tryz.ntmps191
  go_wp2_with fail
  refine ((aa Fe) _).mono ?_
  rintro e w1 ⟨rfl, rfl⟩
  go_wp2_with fail
  refine ((aa Sd) _).mono ?_
  rintro e w1 ⟨rfl, rfl⟩
  go_wp2_with fail
  refine (Tk _ (aa HZB) _).mono ?_
  rintro e w2 ⟨A', cap', l', rfl, hn, hb⟩
  go_wp2_with fail
  go_ret
  exact ⟨A', cap', l', rfl, hn, (((Below.refl _ _).alloc (Nat.le_refl _) _).alloc (by simp) _).trans (hb.mono (by simp; omega))⟩
 ·
  rw [decide_eq_false om] at Fe
  obtain ⟨n, hn⟩ := h.nat
  have hnz : n = z.natAbs := by rw [← h4, hn.val]
  subst hnz
  have HN := hide hn
  clear h1 h2 h3 h4 h5 h hn
  go_enter Tryz.func191, Tryz.ntmps191
  go_wp2_with fail
  refine ((aa Fe) _).mono ?_
  rintro e w1 ⟨rfl, rfl⟩
  go_wp2_with fail
  go_ret
  exact ⟨A, cap, l, rfl, (aa HN).below (((Below.refl _ _).alloc (Nat.le_refl _) _).alloc (by simp) _), ((Below.refl _ _).alloc (Nat.le_refl _) _).alloc (by simp) _⟩

theorem zg (s : Int) (neg : Bool) (A : Option Addr) (cap : Nat) (l : List Nat) (z : Int) (w : World) (h : fw w s neg A cap l z) :
  Calls Tryz.prog 159 #[.agg #[.int .i64 s, .bool neg, .slice A l.length cap]] w fun e w' => e = .returned (.int .i64 (qi z)) ∧ Below w.heap.size w w' := by
 have Fe := hide (fun W => qh s neg A cap l.length W)
 rcases h.form with ⟨h1, h2, h3, h4⟩ | ⟨h1, h2, h3, h4, h5⟩
 ·
  rw [decide_eq_true h1] at Fe
  have HC := hide (fun W => asf z 0 W)
  rw [Int.sub_zero] at HC
  subst h3
  clear h1 h2 h4 h
  go_enter Tryz.func159, Tryz.ntmps159
  go_wp2_with fail
  refine ((aa Fe) _).mono ?_
  rintro e w1 ⟨rfl, rfl⟩
  go_wp2_with fail
  refine ((aa HC) _).mono ?_
  rintro e w1 ⟨rfl, rfl⟩
  go_wp2_with fail
  go_ret
  exact ⟨rfl, ((Below.refl _ _).alloc (Nat.le_refl _) _).alloc (by simp) _⟩
 ·
  rw [decide_eq_false om] at Fe
  have hs : qi z = if neg = true then -1 else 1 := by
   unfold qi; rw [h3]; rw [uf] at h5
   by_cases hz : z < 0
   ·
    simp [hz]
   ·
    simp [hz]; omega
  have HO := hide (fun W => Ns neg W)
  cases neg
  all_goals
   simp only [Bool.false_eq_true, if_false, if_true] at hs HO
   have HS := Lib.hid hs
   clear h1 h2 h3 h4 h5 h hs
   go_enter Tryz.func159, Tryz.ntmps159
   go_wp2_with fail
   refine ((aa Fe) _).mono ?_
   rintro e w1 ⟨rfl, rfl⟩
   go_wp2_with fail
   refine ((aa HO) _).mono ?_
   rintro e w1 ⟨rfl, rfl⟩
   go_wp2_with fail
   go_ret
   exact ⟨wm HS.out.symm, ((Below.refl _ _).alloc (Nat.le_refl _) _).alloc (by simp) _⟩

theorem Vb (s : Int) (neg : Bool) (A : Option Addr) (cap : Nat) (l : List Nat) (z : Int) (w : World) (h : fw w s neg A cap l z) :
  Calls Tryz.prog 160 #[.agg #[.int .i64 s, .bool neg, .slice A l.length cap]] w fun e w' => Be w (-z) e w' := by
 have Fe := hide (fun W => qh s neg A cap l.length W)
 rcases h.form with ⟨h1, h2, h3, h4⟩ | ⟨h1, h2, h3, h4, h5⟩
 ·
  rw [decide_eq_true h1] at Fe
  subst h3
  have e1 : wrap64 (-s) = -s := IntWalk.wrap64_in _ (by rw [uf] at h4; omega)
  have H4 := hide h4
  clear h1 h2 h4 h
  go_enter Tryz.func160, Tryz.ntmps160
  go_wp2_with fail
  refine ((aa Fe) _).mono ?_
  rintro e w1 ⟨rfl, rfl⟩
  go_wp2_with fail
  refine bodyPost_ret (v := .agg #[.int .i64 (-s), .bool false, .slice none 0 0]) (by simp [results, Tryz.results160, go_sem]) rfl ⟨-s, false, none, 0, [], rfl, fw.small (by have := aa H4; simpa using this), ?_⟩
  exact (((Below.refl _ _).alloc (Nat.le_refl _) _).alloc (by simp) _).alloc (by simp; omega) _
 ·
  rw [decide_eq_false om] at Fe
  have hf : fw w 0 (!neg) A cap l (-z) := by
   refine ⟨h.nat, .inr ⟨h1, rfl, ?_, by rw [h4]; simp, by simpa using h5⟩⟩
   rw [h3]; rw [uf] at h5
   by_cases hz : z < 0
   ·
    simp [hz]; omega
   ·
    simp [hz]; omega
  have H := hide hf
  clear h1 h2 h3 h4 h5 h hf
  go_enter Tryz.func160, Tryz.ntmps160
  go_wp2_with fail
  refine ((aa Fe) _).mono ?_
  rintro e w1 ⟨rfl, rfl⟩
  go_wp2_with fail
  refine bodyPost_ret (v := .agg #[.int .i64 0, .bool (!neg), .slice A l.length cap]) (by simp [results, Tryz.results160, go_sem]) rfl ⟨0, !neg, A, cap, l, rfl, ?_, ?_⟩
  ·
   exact (aa H).below ((((Below.refl _ _).alloc (Nat.le_refl _) _).alloc (by simp) _).alloc (by simp; omega) _)
  ·
   exact (((Below.refl _ _).alloc (Nat.le_refl _) _).alloc (by simp) _).alloc (by simp; omega) _

theorem yu (s : Int) (neg : Bool) (A : Option Addr) (cap n : Nat) (w : World) :
  Calls Tryz.prog 140 #[.agg #[.int .i64 s, .bool neg, .slice A n cap]] w fun e w' => e = .returned (.tuple #[.int .i64 s, .bool (decide (n = 0))]) ∧ Below w.heap.size w w' := by
 have Fe := hide (fun W => qh s neg A cap n W)
 go_enter Tryz.func140, Tryz.ntmps140
 go_wp2_with fail
 go_region_with (go_at_call 188; refine ((aa Fe) _).mono ?_; rintro e w' ⟨rfl, rfl⟩)
 all_goals
  go_wp2_with fail
  go_ret2
  refine ⟨rfl, ?_⟩
  repeat (first | exact Below.refl _ _ | refine Below.drew ?_ | (refine Below.alloc ?_ (by simp <;> omega) _))

theorem bz {w W w' : World} (h : Below w.heap.size w W) (hb : Below W.heap.size W w') : Below w.heap.size w w' := h.trans (hb.mono h.size)

theorem ay {w W w' : World} (h : Below w.heap.size w W) (hb : Below W.heap.size W w') : Below w.heap.size w w' := h.trans (hb.mono h.size)

theorem aiv {w : World} {A : Option Addr} {cap : Nat} {l : List Nat} {n : Nat} (h : jy w A cap l n) (hl : 1 < l.length) (neg : Bool) : fw w 0 neg A cap l (if neg then -(n : Int) else (n : Int)) := by
 have h1 := Wd.Va (B := dh) l h.norm (by rintro rfl; simp at hl)
 have h2 : dh ^ 1 ≤ dh ^ (l.length - 1) := Nat.pow_le_pow_right (Nat.lt_trans Nat.zero_lt_one oh) om
 rw [h.val, ] at h1
 rw [Nat.pow_one] at h2
 have h3 : Iq ≤ n ∧ 0 < n := by
  have : Iq ≤ dh := by rw [uf, gm]; omega
  have : 0 < dh := Nat.lt_trans Nat.zero_lt_one oh
  omega
 refine ⟨⟨n, h⟩, .inr ⟨by omega, rfl, ?_, ?_, ?_⟩⟩
 ·
  cases neg <;> simp <;> omega
 ·
  rw [h.val]; cases neg <;> simp
 ·
  cases neg <;> simp <;> exact h3.1

theorem xg (neg : Bool) (A : Option Addr) (cap : Nat) (l : List Nat) (n : Nat) (w : World) (h : jy w A cap l n) :
  Calls Tryz.prog 190 #[.bool neg, .slice A l.length cap] w fun e w' => Be w (if neg then -(n : Int) else (n : Int)) e w' := by
 have hc1 := h.qp; have hc2 := h.cap2
 by_cases hl : 1 < l.length
 ·
  have b1 : decide ((1 : Int) < (l.length : Int)) = true := decide_eq_true om
  have hf := aiv h hl neg
  obtain ⟨z, hz⟩ : ∃ z, z = if neg then -(n : Int) else (n : Int) := ⟨_, rfl⟩
  rw [← hz] at hf ⊢
  have HF := hide hf
  clear hf hz hl h
  go_enter Tryz.func190, Tryz.ntmps190
  go_wp2_with fail
  exact bodyPost_ret (v := .agg #[.int .i64 0, .bool neg, .slice A l.length cap]) (by simp [results, Tryz.results190, go_sem]) rfl ⟨0, neg, A, cap, l, rfl, (aa HF).below ((Below.refl _ _).alloc (Nat.le_refl _) _), (Below.refl _ _).alloc (Nat.le_refl _) _⟩
 ·
  have b1 : decide ((1 : Int) < (l.length : Int)) = false := decide_eq_false om
  obtain ⟨e1, e2⟩ := abg h om
  have hlim := fun W (hW : Below w.heap.size w W) => Jj A cap l W.heap.size 0 W (h.below hW).ws hc1 hc2 om
  rw [e1] at hlim
  have HL := hide hlim
  have HW := hide (fun W => Qm neg n e2 W)
  obtain ⟨z, hz⟩ : ∃ z, z = if neg then -(n : Int) else (n : Int) := ⟨_, rfl⟩
  rw [← hz] at HW ⊢
  clear hz hl h e1 e2 hlim
  go_enter Tryz.func190, Tryz.ntmps190
  go_wp2_with fail
  refine ((aa HL) _ ((Below.refl _ _).alloc (Nat.le_refl _) _)).mono ?_
  rintro e w1 ⟨rfl, rfl⟩
  go_wp2_with fail
  refine ((aa HW) _).mono ?_
  rintro e w2 ⟨s, ny, A', cap', l', rfl, hf, hb⟩
  obtain ⟨hc, hfz⟩ := fe hb
  have hsz : w.heap.size < w2.heap.size := by have := hb.size; simp at this; omega
  have hblk : w2.heap[w.heap.size]? = some (.cells #[.int .i64 0, .bool false, .slice none 0 0] 77 (0, 0)) := (hb.block _ (by simp)).trans (heap_alloc_new w _)
  have ky := Lib.hid hblk
  clear hblk
  go_wp2_with fail
  exact bodyPost_ret (v := .agg #[.int .i64 s, .bool ny, .slice A' l'.length cap']) (by simp [results, Tryz.results190, go_sem, hc, hsz]) rfl
   ⟨s, ny, A', cap', l', rfl, hf.upto ky.out (qw _ _ _ _ _) (il _ _ _ _ _), (((Below.refl _ _).alloc (Nat.le_refl _) _).trans (hb.mono (by simp))).grown (il _ _ _ _ _) om (fun k hk => by injection hk with hk; omega)⟩

theorem fw.Ae {w : World} {s : Int} {neg : Bool} {A : Option Addr} {cap : Nat} {l : List Nat} {z : Int} (h : fw w s neg A cap l z) (hl : l.length = 0) : s = z ∧ neg = false ∧ z.natAbs < Iq := by
 rcases h.form with ⟨_, h1, h2, h3⟩ | ⟨h1, _⟩
 ·
  exact ⟨h2, h1, h3⟩
 ·
  omega

theorem yh (w : World) (o1 o2 : Obj) : ((w.alloc o1).alloc o2).heap[w.heap.size]? = some o1 ∧ ((w.alloc o1).alloc o2).heap[w.heap.size + 1]? = some o2 ∧ ((w.alloc o1).alloc o2).heap.size = w.heap.size + 2 ∧ Below w.heap.size w ((w.alloc o1).alloc o2) := by
 refine ⟨(Below.heap_alloc _ _ _ (by simp)).trans (heap_alloc_new w o1), ?_, by simp, ((Below.refl _ _).alloc (Nat.le_refl _) _).alloc (by simp) _⟩
 have := heap_alloc_new (w.alloc o1) o2
 rwa [World.size_alloc] at this
theorem ni (w : World) (o1 o2 o3 : Obj) : (((w.alloc o1).alloc o2).alloc o3).heap[w.heap.size]? = some o1 ∧ (((w.alloc o1).alloc o2).alloc o3).heap[w.heap.size + 1]? = some o2 ∧ (((w.alloc o1).alloc o2).alloc o3).heap[w.heap.size + 1 + 1]? = some o3 ∧ (((w.alloc o1).alloc o2).alloc o3).heap.size = w.heap.size + 3 ∧ Below w.heap.size w (((w.alloc o1).alloc o2).alloc o3) := by
 obtain ⟨h1, h2, h3, h4⟩ := yh w o1 o2
 refine ⟨(Below.heap_alloc _ _ _ om).trans h1, (Below.heap_alloc _ _ _ om).trans h2, ?_, by simp, h4.alloc om _⟩
 have := heap_alloc_new ((w.alloc o1).alloc o2) o3
 rwa [h3] at this
theorem ag {w : World} {b : Nat} {cs : Array Value} {T : TypeId} {fr : Nat × Nat} (h : w.heap[b]? = some (.cells cs T fr)) (i : Nat) : w.cell? ⟨b, i, none⟩ = cs[i]? := by
 simp [World.cell?, h]
theorem ji (a b c : Value) : #[a, b, c][0]? = some a := rfl
theorem jh (a b c : Value) : #[a, b, c][1]? = some b := rfl
theorem jg (a b c : Value) : #[a, b, c][2]? = some c := rfl


theorem ai {w : World} {b : Nat} {cs : Array Value} {T : TypeId} (h : w.heap[b]? = some (.cells cs T (0, 0))) (i : Nat) : w.frozen? ⟨b, i, none⟩ = false := by
 simp [World.frozen?, h]

theorem ma {w W w1 : World} {o : Obj} (h : Below w.heap.size w W) (e : w1 = W.alloc o) : Below w.heap.size w w1 := by subst e; exact h.alloc h.size _

theorem aew (z1 z2 : Int) : (if decide (qi z1 * qi z2 < 0) = true then -((z1.natAbs * z2.natAbs : Nat) : Int) else ((z1.natAbs * z2.natAbs : Nat) : Int)) = z1 * z2 := by
 rw [Int.natCast_mul]
 rcases Int.lt_trichotomy z1 0 with a | a | a <;> rcases Int.lt_trichotomy z2 0 with b | b | b
 all_goals
  first
   | (subst a; simp [qi])
   | (subst b; simp [qi])
   | skip
 all_goals
  simp only [qi, a, b, if_true, if_neg (Int.not_lt.2 (Int.le_of_lt a)), if_neg (Int.not_lt.2 (Int.le_of_lt b))]
 ·
  rw [Int.ofNat_natAbs_of_nonpos om, Int.ofNat_natAbs_of_nonpos om]; simp [Int.neg_mul_neg]
 ·
  rw [Int.ofNat_natAbs_of_nonpos om, Int.natAbs_of_nonneg om]; simp [Int.neg_mul]
 ·
  rw [Int.natAbs_of_nonneg om, Int.ofNat_natAbs_of_nonpos om]; simp [Int.mul_neg]
 ·
  rw [Int.natAbs_of_nonneg om, Int.natAbs_of_nonneg om]; simp

theorem fw.Rw {w : World} {s : Int} {neg : Bool} {A : Option Addr} {cap : Nat} {l : List Nat} {z : Int} (h : fw w s neg A cap l z) : z.natAbs < dh ^ (max 1 l.length) := by
 rcases h.form with ⟨h1, _, _, h2⟩ | ⟨h1, _, _, h2, _⟩
 ·
  have : Iq < dh := by rw [uf, gm]; omega
  have h3 : dh ^ 1 ≤ dh ^ (max 1 l.length) := Nat.pow_le_pow_right (Nat.lt_trans Nat.zero_lt_one oh) om
  rw [Nat.pow_one] at h3
  omega
 ·
  obtain ⟨n, hn⟩ := h.nat
  rw [← h2]
  have h3 := Wd.za (B := dh) l hn.lt
  have h4 : dh ^ l.length ≤ dh ^ (max 1 l.length) := Nat.pow_le_pow_right (Nat.lt_trans Nat.zero_lt_one oh) om
  omega


theorem fw.Hl {w W : World} {s : Int} {neg : Bool} {A A' : Option Addr} {cap cap' : Nat} {l l' : List Nat} {z : Int} (h : fw w s neg A cap l z) (hl : l.length ≤ lim) (g : jy W A' cap' l' z.natAbs) : l'.length ≤ lim ∧ l'.length + 1 ≤ 35184372088832 := by
 have := g.len h.Rw
 rw [zo] at hl ⊢
 omega

theorem jy.drew {w : World} {A : Option Addr} {cap : Nat} {l : List Nat} {n : Nat} (h : jy w A cap l n) : jy w.drew A cap l n := h.below ((Below.refl _ _).drew)

theorem gp {w : World} {g : Nat} (u0 u1 u2 : Value) (b o : Nat) (h : b ≠ g) : (((w.setCell ⟨g, 0, none⟩ u0).setCell ⟨g, 1, none⟩ u1).setCell ⟨g, 2, none⟩ u2).cell? ⟨b, o, none⟩ = w.cell? ⟨b, o, none⟩ := by
 rw [World.cell?_setCell_other _ _ _ _ (by intro e; injection e with e1; exact h (by first | exact e1 | exact e1.symm)), World.cell?_setCell_other _ _ _ _ (by intro e; injection e with e1; exact h (by first | exact e1 | exact e1.symm)), World.cell?_setCell_other _ _ _ _ (by intro e; injection e with e1; exact h (by first | exact e1 | exact e1.symm))]
theorem Gy (z : Int) : qi z < 0 ↔ z < 0 := by unfold qi; (repeat' split) <;> omega


theorem avk (s1 : Int) (cz : Bool) (A1 : Option Addr) (c1 : Nat) (l1 : List Nat) (z1 : Int) (s2 : Int) (cu : Bool) (A2 : Option Addr) (c2 : Nat) (l2 : List Nat) (z2 : Int) (w : World)
  (h1 : fw w s1 cz A1 c1 l1 z1) (h2 : fw w s2 cu A2 c2 l2 z2) (hl1 : l1.length ≤ lim) (hl2 : l2.length ≤ lim) (hT : og w) :
  Calls Tryz.prog 164 #[.agg #[.int .i64 s1, .bool cz, .slice A1 l1.length c1], .agg #[.int .i64 s2, .bool cu, .slice A2 l2.length c2]] w fun e w' => Be w ((z1.natAbs.gcd z2.natAbs : Nat) : Int) e w' := by
 have nz := hide (fun W => qh s1 cz A1 c1 l1.length W)
 have HS2 := hide (fun W => qh s2 cu A2 c2 l2.length W)
 have Qd : ∀ (W : World) (A5 : Option Addr) (c5 : Nat) (l5 : List Nat) (_ : Unit), jy W A5 c5 l5 z1.natAbs → l5.length ≤ lim ∧ l5.length + 1 ≤ 35184372088832 := fun _ _ _ _ _ g => h1.Hl hl1 g
 have Un : ∀ (W : World) (A5 : Option Addr) (c5 : Nat) (l5 : List Nat) (_ : Unit), jy W A5 c5 l5 z2.natAbs → l5.length ≤ lim ∧ l5.length + 1 ≤ 35184372088832 := fun _ _ _ _ _ g => h2.Hl hl2 g
 have B1 : ∀ W0, Below w.heap.size w W0 → Hid (∀ W, Below W0.heap.size W0 W → Calls Tryz.prog 191 #[.agg #[.int .i64 s1, .bool cz, .slice A1 l1.length c1]] W fun e w' => Es W z1.natAbs e w') := fun W0 h0 W hW => Du s1 cz A1 c1 l1 z1 W (fw.below h1 (ay h0 hW))
 have B2 : ∀ W0, Below w.heap.size w W0 → Hid (∀ W, Below W0.heap.size W0 W → Calls Tryz.prog 191 #[.agg #[.int .i64 s2, .bool cu, .slice A2 l2.length c2]] W fun e w' => Es W z2.natAbs e w') := fun W0 h0 W hW => Du s2 cu A2 c2 l2 z2 W (fw.below h2 (ay h0 hW))
 have T0 : ∀ W0, Below w.heap.size w W0 → Hid (∀ W, Below W0.heap.size W0 W → og W) := fun W0 h0 W hW => hT.below (ay h0 hW)
 have Rs := h1.bounds
 have Rq := h2.bounds
 have hsz1 : l1.length = 0 → s1.natAbs = z1.natAbs ∧ z1.natAbs < Iq := fun h => by obtain ⟨e, _, e3⟩ := h1.Ae h; rw [e]; exact ⟨rfl, e3⟩
 have hsz2 : l2.length = 0 → s2.natAbs = z2.natAbs ∧ z2.natAbs < Iq := fun h => by obtain ⟨e, _, e3⟩ := h2.Ae h; rw [e]; exact ⟨rfl, e3⟩
 have Z1 := hide (fun W => Jh s1 Rs.1 Rs.2 W)
 have Z2 := hide (fun W => Jh s2 Rq.1 Rq.2 W)
 obtain ⟨m1, hm1⟩ : ∃ o, o = z1.natAbs := ⟨_, rfl⟩
 obtain ⟨m2, hm2⟩ : ∃ o, o = z2.natAbs := ⟨_, rfl⟩
 rw [← hm1] at B1 Qd hsz1 ⊢
 rw [← hm2] at B2 Un hsz2 ⊢
 have HB1 := hide B1; have HB2 := hide B2; have HLEN := hide Qd; have Cj := hide Un; have Iu := hide T0
 clear hm1 hm2 B1 B2 h1 h2 Rs Rq Qd Un hl1 hl2 T0 hT
 by_cases hs : l1.length = 0 ∧ l2.length = 0
 ·
  obtain ⟨a1, a2⟩ := hs
  rw [decide_eq_true a1] at nz
  rw [decide_eq_true a2] at HS2
  obtain ⟨y1, y2⟩ := hsz1 a1
  obtain ⟨y3, y4⟩ := hsz2 a2
  rw [y1] at Z1
  rw [y3] at Z2
  have hB1 : m1 < dh := by have := y2; rw [uf] at this; rw [gm]; omega
  have hB2 : m2 < dh := by have := y4; rw [uf] at this; rw [gm]; omega
  have HM := hide (fun W => Nz m1 m2 hB1 hB2 W)
  have hgB : m1.gcd m2 < dh := by
   rcases Nat.eq_zero_or_pos m1 with h | h
   ·
    rw [h, Nat.gcd_zero_left]; exact hB2
   ·
    exact Nat.lt_of_le_of_lt (Nat.gcd_le_left _ h) hB1
  have HW : Hid (∀ W, Calls Tryz.prog 185 #[.bool false, .int .u64 ((m1.gcd m2 : Nat) : Int)] W fun e w' => Be W ((m1.gcd m2 : Nat) : Int) e w') := hide (fun W => by
   have := Qm false (m1.gcd m2) hgB W
   rw [if_neg Bool.false_ne_true] at this; exact this)
  clear hgB hB1 hB2 y1 y2 y3 y4 hsz1 hsz2 a1 a2
  obtain ⟨g, hg⟩ : ∃ g, g = m1.gcd m2 := ⟨_, rfl⟩
  rw [← hg] at HM HW ⊢
  clear hg
  go_enter Tryz.func164, Tryz.ntmps164
  go_wp2_with fail
  obtain ⟨n1, n2, n3, hsz, hw0⟩ := ni w (.cells #[.int .i64 s1, .bool cz, .slice A1 l1.length c1] 77) (.cells #[.int .i64 s2, .bool cu, .slice A2 l2.length c2] 77) (.cells #[.int .i64 0, .bool false, .slice none 0 0] 77)
  generalize (((w.alloc (.cells #[.int .i64 s1, .bool cz, .slice A1 l1.length c1] 77)).alloc (.cells #[.int .i64 s2, .bool cu, .slice A2 l2.length c2] 77)).alloc (.cells #[.int .i64 0, .bool false, .slice none 0 0] 77)) = W0 at *
  have k1 := ag n1 0
  have k2 := ag n1 1
  have k3 := ag n1 2
  simp only [Array.getElem?_eq_getElem, ji, jh, jg] at k1 k2 k3
  have k4 := ag n2 0
  have k5 := ag n2 1
  have k6 := ag n2 2
  simp only [Array.getElem?_eq_getElem, ji, jh, jg] at k4 k5 k6
  have q0 : w.heap.size < W0.heap.size := by omega
  have q1 : w.heap.size + 1 < W0.heap.size := by omega
  have q2 : w.heap.size + 1 + 1 < W0.heap.size := by omega
  have k7 := ag n3 0
  have k8 := ag n3 1
  have k9 := ag n3 2
  simp only [Array.getElem?_eq_getElem, ji, jh, jg] at k7 k8 k9
  have f7 := ai n3 0
  have f8 := ai n3 1
  have f9 := ai n3 2
  have N3 := Lib.hid n3
  clear n3
  clear n1 n2
  have B1 := (aa HB1) W0 hw0; have B2 := (aa HB2) W0 hw0; have TT := (aa Iu) W0 hw0
  refine ((aa nz) _).mono ?_
  rintro e w1 ⟨rfl, hw1⟩
  have rf := ma (w := W0) bem hw1
  obtain ⟨hc, hfz⟩ := fe rf
  clear hw1
  go_wp2_with fail
  refine ((aa HS2) _).mono ?_
  rintro e w2 ⟨rfl, hw2⟩
  have hbw2 := ma (w := W0) bem hw2
  obtain ⟨hc, hfz⟩ := fe hbw2
  clear hw2
  go_wp2_with fail
  go_region_held3 (fun w' => w'.cell? ⟨w.heap.size, 0, none⟩ = some (.int .i64 s1) ∧ w'.cell? ⟨w.heap.size, 1, none⟩ = some (.bool cz) ∧ w'.cell? ⟨w.heap.size, 2, none⟩ = some (.slice A1 l1.length c1) ∧ w'.cell? ⟨w.heap.size + 1, 0, none⟩ = some (.int .i64 s2) ∧ w'.cell? ⟨w.heap.size + 1, 1, none⟩ = some (.bool cu) ∧ w'.cell? ⟨w.heap.size + 1, 2, none⟩ = some (.slice A2 l2.length c2)) ((first | with_reducible exact ⟨(hc _ _ q0).trans k1, (hc _ _ q0).trans k2, (hc _ _ q0).trans k3, (hc _ _ q1).trans k4, (hc _ _ q1).trans k5, (hc _ _ q1).trans k6⟩ | with_reducible exact ⟨k1, k2, k3, k4, k5, k6⟩ | with_reducible exact ⟨(gp _ _ _ _ _ om).trans ((hc _ _ q0).trans k1), (gp _ _ _ _ _ om).trans ((hc _ _ q0).trans k2), (gp _ _ _ _ _ om).trans ((hc _ _ q0).trans k3), (gp _ _ _ _ _ om).trans ((hc _ _ q1).trans k4), (gp _ _ _ _ _ om).trans ((hc _ _ q1).trans k5), (gp _ _ _ _ _ om).trans ((hc _ _ q1).trans k6)⟩ | exact ⟨(hc _ _ q0).trans k1, (hc _ _ q0).trans k2, (hc _ _ q0).trans k3, (hc _ _ q1).trans k4, (hc _ _ q1).trans k5, (hc _ _ q1).trans k6⟩ | exact ⟨k1, k2, k3, k4, k5, k6⟩)) (first | (go_at_call_of 186 (Value.int .i64 s1); refine ((aa Z1) _).mono ?_; rintro e w' ⟨rfl, Kl⟩; subst Kl) | (go_at_call_of 186 (Value.int .i64 s2); refine ((aa Z2) _).mono ?_; rintro e w' ⟨rfl, Kl⟩; subst Kl) | (go_at_call 138; refine ((aa HM) _ ((aa TT) _ bem)).mono ?_; rintro e w' ⟨rfl, Kl⟩; subst Kl) | (go_at_call 185; refine ((aa HW) _).mono ?_; rintro e w' ⟨s, ny, A', cap', l', rfl, hf, hb⟩; have hbw := bz (w := W0) bem hb; obtain ⟨hc, hfz⟩ := fe hbw))
  have hblk : w'.heap[w.heap.size + 1 + 1]? = some (.cells #[.int .i64 0, .bool false, .slice none 0 0] 77 (0, 0)) := (hbw.block _ q2).trans N3.out
  have ky := Lib.hid hblk
  have jq : Below w.heap.size w w' := ay hw0 hbw
  clear hblk
  go_wp2_with fail
  exact bodyPost_ret (v := .agg #[.int .i64 s, .bool ny, .slice A' l'.length cap']) (by simp [results, Tryz.results164, go_sem, hc, k7, k8, k9, q2]) rfl
   ⟨s, ny, A', cap', l', rfl, hf.upto ky.out (qw _ _ _ _ _) (il _ _ _ _ _), jq.grown (il _ _ _ _ _) jq.size (fun k hk => by injection hk with hk; omega)⟩
 ·
  by_cases a1 : l1.length = 0
  ·
   have a2 : ¬ l2.length = 0 := fun h => hs ⟨a1, h⟩
   rw [decide_eq_true a1] at nz
   rw [decide_eq_false a2] at HS2
   clear hsz1 hsz2 hs a1 a2
   go_enter Tryz.func164, Tryz.ntmps164
   go_wp2_with fail
   obtain ⟨n1, n2, n3, hsz, hw0⟩ := ni w (.cells #[.int .i64 s1, .bool cz, .slice A1 l1.length c1] 77) (.cells #[.int .i64 s2, .bool cu, .slice A2 l2.length c2] 77) (.cells #[.int .i64 0, .bool false, .slice none 0 0] 77)
   generalize (((w.alloc (.cells #[.int .i64 s1, .bool cz, .slice A1 l1.length c1] 77)).alloc (.cells #[.int .i64 s2, .bool cu, .slice A2 l2.length c2] 77)).alloc (.cells #[.int .i64 0, .bool false, .slice none 0 0] 77)) = W0 at *
   have k1 := ag n1 0
   have k2 := ag n1 1
   have k3 := ag n1 2
   simp only [Array.getElem?_eq_getElem, ji, jh, jg] at k1 k2 k3
   have k4 := ag n2 0
   have k5 := ag n2 1
   have k6 := ag n2 2
   simp only [Array.getElem?_eq_getElem, ji, jh, jg] at k4 k5 k6
   have q0 : w.heap.size < W0.heap.size := by omega
   have q1 : w.heap.size + 1 < W0.heap.size := by omega
   have q2 : w.heap.size + 1 + 1 < W0.heap.size := by omega
   have k7 := ag n3 0
   have k8 := ag n3 1
   have k9 := ag n3 2
   simp only [Array.getElem?_eq_getElem, ji, jh, jg] at k7 k8 k9
   have f7 := ai n3 0
   have f8 := ai n3 1
   have f9 := ai n3 2
   have N3 := Lib.hid n3
   clear n3
   clear n1 n2
   have B1 := (aa HB1) W0 hw0; have B2 := (aa HB2) W0 hw0; have TT := (aa Iu) W0 hw0
   refine ((aa nz) _).mono ?_
   rintro e w1 ⟨rfl, hw1⟩
   have rf := ma (w := W0) bem hw1
   obtain ⟨hc, hfz⟩ := fe rf
   clear hw1
   go_wp2_with fail
   refine ((aa HS2) _).mono ?_
   rintro e w2 ⟨rfl, hw2⟩
   have hbw2 := ma (w := W0) bem hw2
   obtain ⟨hc, hfz⟩ := fe hbw2
   clear hw2
   go_wp2_with fail
   go_region_held3 (fun w' => w'.cell? ⟨w.heap.size, 0, none⟩ = some (.int .i64 s1) ∧ w'.cell? ⟨w.heap.size, 1, none⟩ = some (.bool cz) ∧ w'.cell? ⟨w.heap.size, 2, none⟩ = some (.slice A1 l1.length c1) ∧ w'.cell? ⟨w.heap.size + 1, 0, none⟩ = some (.int .i64 s2) ∧ w'.cell? ⟨w.heap.size + 1, 1, none⟩ = some (.bool cu) ∧ w'.cell? ⟨w.heap.size + 1, 2, none⟩ = some (.slice A2 l2.length c2)) ((first | with_reducible exact ⟨(hc _ _ q0).trans k1, (hc _ _ q0).trans k2, (hc _ _ q0).trans k3, (hc _ _ q1).trans k4, (hc _ _ q1).trans k5, (hc _ _ q1).trans k6⟩ | with_reducible exact ⟨k1, k2, k3, k4, k5, k6⟩ | with_reducible exact ⟨(gp _ _ _ _ _ om).trans ((hc _ _ q0).trans k1), (gp _ _ _ _ _ om).trans ((hc _ _ q0).trans k2), (gp _ _ _ _ _ om).trans ((hc _ _ q0).trans k3), (gp _ _ _ _ _ om).trans ((hc _ _ q1).trans k4), (gp _ _ _ _ _ om).trans ((hc _ _ q1).trans k5), (gp _ _ _ _ _ om).trans ((hc _ _ q1).trans k6)⟩ | exact ⟨(hc _ _ q0).trans k1, (hc _ _ q0).trans k2, (hc _ _ q0).trans k3, (hc _ _ q1).trans k4, (hc _ _ q1).trans k5, (hc _ _ q1).trans k6⟩ | exact ⟨k1, k2, k3, k4, k5, k6⟩)) (first | (go_at_call_of 191 (Value.agg #[.int .i64 s1, .bool cz, .slice A1 l1.length c1]); refine ((aa B1) _ bem).mono ?_; rintro e w' ⟨A5, cap5, l5, rfl, Ah, hb⟩; have hbw := bz (w := W0) bem hb; obtain ⟨hc, hfz⟩ := fe hbw) | (go_at_call_of 191 (Value.agg #[.int .i64 s2, .bool cu, .slice A2 l2.length c2]); refine ((aa B2) _ bem).mono ?_; rintro e w' ⟨A6, cap6, l6, rfl, mg, hb⟩; have jo := Ah.below hb; have hbw := bz (w := W0) bem hb; obtain ⟨hc, hfz⟩ := fe hbw) | (go_at_call 200; refine (afn A5 A6 cap5 cap6 l5 l6 m1 m2 _ (by exact jo) (by exact mg) ((aa TT) _ bem) ((aa HLEN) _ _ _ _ () jo).1 ((aa Cj) _ _ _ _ () mg).1).mono ?_; rintro e w' ⟨A7, uq, l7, rfl, uo, hb⟩; have hbw := bz (w := W0) bem hb; obtain ⟨hc, hfz⟩ := fe hbw) | (go_at_call 190; refine (xg false A7 uq l7 (m1.gcd m2) _ (by exact uo)).mono ?_; rw [if_neg Bool.false_ne_true]; rintro e w' ⟨s, ny, A', cap', l', rfl, hf, hb⟩; have hbw := bz (w := W0) bem hb; obtain ⟨hc, hfz⟩ := fe hbw))
   have hblk : w'.heap[w.heap.size + 1 + 1]? = some (.cells #[.int .i64 0, .bool false, .slice none 0 0] 77 (0, 0)) := (hbw.block _ q2).trans N3.out
   have ky := Lib.hid hblk
   have jq : Below w.heap.size w w' := ay hw0 hbw
   clear hblk
   go_wp2_with fail
   exact bodyPost_ret (v := .agg #[.int .i64 s, .bool ny, .slice A' l'.length cap']) (by simp [results, Tryz.results164, go_sem, hc, k7, k8, k9, q2]) rfl
    ⟨s, ny, A', cap', l', rfl, hf.upto ky.out (qw _ _ _ _ _) (il _ _ _ _ _), jq.grown (il _ _ _ _ _) jq.size (fun k hk => by injection hk with hk; omega)⟩
  ·
   skip
   rw [decide_eq_false a1] at nz
   clear hsz1 hsz2 hs a1
   go_enter Tryz.func164, Tryz.ntmps164
   go_wp2_with fail
   obtain ⟨n1, n2, n3, hsz, hw0⟩ := ni w (.cells #[.int .i64 s1, .bool cz, .slice A1 l1.length c1] 77) (.cells #[.int .i64 s2, .bool cu, .slice A2 l2.length c2] 77) (.cells #[.int .i64 0, .bool false, .slice none 0 0] 77)
   generalize (((w.alloc (.cells #[.int .i64 s1, .bool cz, .slice A1 l1.length c1] 77)).alloc (.cells #[.int .i64 s2, .bool cu, .slice A2 l2.length c2] 77)).alloc (.cells #[.int .i64 0, .bool false, .slice none 0 0] 77)) = W0 at *
   have k1 := ag n1 0
   have k2 := ag n1 1
   have k3 := ag n1 2
   simp only [Array.getElem?_eq_getElem, ji, jh, jg] at k1 k2 k3
   have k4 := ag n2 0
   have k5 := ag n2 1
   have k6 := ag n2 2
   simp only [Array.getElem?_eq_getElem, ji, jh, jg] at k4 k5 k6
   have q0 : w.heap.size < W0.heap.size := by omega
   have q1 : w.heap.size + 1 < W0.heap.size := by omega
   have q2 : w.heap.size + 1 + 1 < W0.heap.size := by omega
   have k7 := ag n3 0
   have k8 := ag n3 1
   have k9 := ag n3 2
   simp only [Array.getElem?_eq_getElem, ji, jh, jg] at k7 k8 k9
   have f7 := ai n3 0
   have f8 := ai n3 1
   have f9 := ai n3 2
   have N3 := Lib.hid n3
   clear n3
   clear n1 n2
   have B1 := (aa HB1) W0 hw0; have B2 := (aa HB2) W0 hw0; have TT := (aa Iu) W0 hw0
   refine ((aa nz) _).mono ?_
   rintro e w1 ⟨rfl, hw1⟩
   have rf := ma (w := W0) bem hw1
   obtain ⟨hc, hfz⟩ := fe rf
   clear hw1
   go_wp2_with fail
   go_region_held3 (fun w' => w'.cell? ⟨w.heap.size, 0, none⟩ = some (.int .i64 s1) ∧ w'.cell? ⟨w.heap.size, 1, none⟩ = some (.bool cz) ∧ w'.cell? ⟨w.heap.size, 2, none⟩ = some (.slice A1 l1.length c1) ∧ w'.cell? ⟨w.heap.size + 1, 0, none⟩ = some (.int .i64 s2) ∧ w'.cell? ⟨w.heap.size + 1, 1, none⟩ = some (.bool cu) ∧ w'.cell? ⟨w.heap.size + 1, 2, none⟩ = some (.slice A2 l2.length c2)) ((first | with_reducible exact ⟨(hc _ _ q0).trans k1, (hc _ _ q0).trans k2, (hc _ _ q0).trans k3, (hc _ _ q1).trans k4, (hc _ _ q1).trans k5, (hc _ _ q1).trans k6⟩ | with_reducible exact ⟨k1, k2, k3, k4, k5, k6⟩ | with_reducible exact ⟨(gp _ _ _ _ _ om).trans ((hc _ _ q0).trans k1), (gp _ _ _ _ _ om).trans ((hc _ _ q0).trans k2), (gp _ _ _ _ _ om).trans ((hc _ _ q0).trans k3), (gp _ _ _ _ _ om).trans ((hc _ _ q1).trans k4), (gp _ _ _ _ _ om).trans ((hc _ _ q1).trans k5), (gp _ _ _ _ _ om).trans ((hc _ _ q1).trans k6)⟩ | exact ⟨(hc _ _ q0).trans k1, (hc _ _ q0).trans k2, (hc _ _ q0).trans k3, (hc _ _ q1).trans k4, (hc _ _ q1).trans k5, (hc _ _ q1).trans k6⟩ | exact ⟨k1, k2, k3, k4, k5, k6⟩)) (first | (go_at_call_of 191 (Value.agg #[.int .i64 s1, .bool cz, .slice A1 l1.length c1]); refine ((aa B1) _ bem).mono ?_; rintro e w' ⟨A5, cap5, l5, rfl, Ah, hb⟩; have hbw := bz (w := W0) bem hb; obtain ⟨hc, hfz⟩ := fe hbw) | (go_at_call_of 191 (Value.agg #[.int .i64 s2, .bool cu, .slice A2 l2.length c2]); refine ((aa B2) _ bem).mono ?_; rintro e w' ⟨A6, cap6, l6, rfl, mg, hb⟩; have jo := Ah.below hb; have hbw := bz (w := W0) bem hb; obtain ⟨hc, hfz⟩ := fe hbw) | (go_at_call 200; refine (afn A5 A6 cap5 cap6 l5 l6 m1 m2 _ (by exact jo) (by exact mg) ((aa TT) _ bem) ((aa HLEN) _ _ _ _ () jo).1 ((aa Cj) _ _ _ _ () mg).1).mono ?_; rintro e w' ⟨A7, uq, l7, rfl, uo, hb⟩; have hbw := bz (w := W0) bem hb; obtain ⟨hc, hfz⟩ := fe hbw) | (go_at_call 190; refine (xg false A7 uq l7 (m1.gcd m2) _ (by exact uo)).mono ?_; rw [if_neg Bool.false_ne_true]; rintro e w' ⟨s, ny, A', cap', l', rfl, hf, hb⟩; have hbw := bz (w := W0) bem hb; obtain ⟨hc, hfz⟩ := fe hbw))
   have hblk : w'.heap[w.heap.size + 1 + 1]? = some (.cells #[.int .i64 0, .bool false, .slice none 0 0] 77 (0, 0)) := (hbw.block _ q2).trans N3.out
   have ky := Lib.hid hblk
   have jq : Below w.heap.size w w' := ay hw0 hbw
   clear hblk
   go_wp2_with fail
   exact bodyPost_ret (v := .agg #[.int .i64 s, .bool ny, .slice A' l'.length cap']) (by simp [results, Tryz.results164, go_sem, hc, k7, k8, k9, q2]) rfl
    ⟨s, ny, A', cap', l', rfl, hf.upto ky.out (qw _ _ _ _ _) (il _ _ _ _ _), jq.grown (il _ _ _ _ _) jq.size (fun k hk => by injection hk with hk; omega)⟩


theorem aix (z1 z2 : Int) : (if decide (qi z1 * qi z2 < 0) = true then -((z1.natAbs / z2.natAbs : Nat) : Int) else ((z1.natAbs / z2.natAbs : Nat) : Int)) = z1.tdiv z2 := by
 rcases Int.lt_trichotomy z1 0 with a | a | a <;> rcases Int.lt_trichotomy z2 0 with b | b | b
 all_goals
  first
   | (subst a; simp [qi])
   | (subst b; simp [qi])
   | skip
 all_goals
  simp only [qi, a, b, if_true, if_neg (Int.not_lt.2 (Int.le_of_lt a)), if_neg (Int.not_lt.2 (Int.le_of_lt b))]
 ·
  obtain ⟨x, hx⟩ : ∃ x : Nat, z1 = -(x : Int) := ⟨z1.natAbs, by omega⟩
  obtain ⟨y, hy⟩ : ∃ y : Nat, z2 = -(y : Int) := ⟨z2.natAbs, by omega⟩
  subst hx; subst hy
  rw [Int.natAbs_neg, Int.natAbs_neg, Int.natAbs_natCast, Int.natAbs_natCast, Int.neg_tdiv, Int.tdiv_neg, Int.neg_neg]
  simp [Int.ofNat_tdiv]
 ·
  obtain ⟨x, hx⟩ : ∃ x : Nat, z1 = -(x : Int) := ⟨z1.natAbs, by omega⟩
  obtain ⟨y, hy⟩ : ∃ y : Nat, z2 = (y : Int) := ⟨z2.natAbs, by omega⟩
  subst hx; subst hy
  rw [Int.natAbs_neg, Int.natAbs_natCast, Int.natAbs_natCast, Int.neg_tdiv]
  simp [Int.ofNat_tdiv]
 ·
  obtain ⟨x, hx⟩ : ∃ x : Nat, z1 = (x : Int) := ⟨z1.natAbs, by omega⟩
  obtain ⟨y, hy⟩ : ∃ y : Nat, z2 = -(y : Int) := ⟨z2.natAbs, by omega⟩
  subst hx; subst hy
  rw [Int.natAbs_neg, Int.natAbs_natCast, Int.natAbs_natCast, Int.tdiv_neg]
  simp [Int.ofNat_tdiv]
 ·
  obtain ⟨x, hx⟩ : ∃ x : Nat, z1 = (x : Int) := ⟨z1.natAbs, by omega⟩
  obtain ⟨y, hy⟩ : ∃ y : Nat, z2 = (y : Int) := ⟨z2.natAbs, by omega⟩
  subst hx; subst hy
  rw [Int.natAbs_natCast, Int.natAbs_natCast]
  simp [Int.ofNat_tdiv]

theorem avi (s1 : Int) (cz : Bool) (A1 : Option Addr) (c1 : Nat) (l1 : List Nat) (z1 : Int) (s2 : Int) (cu : Bool) (A2 : Option Addr) (c2 : Nat) (l2 : List Nat) (z2 : Int) (w : World)
  (h1 : fw w s1 cz A1 c1 l1 z1) (h2 : fw w s2 cu A2 c2 l2 z2) (hl1 : l1.length ≤ lim) (hl2 : l2.length ≤ lim) (hz0 : z2 ≠ 0) :
  Calls Tryz.prog 165 #[.agg #[.int .i64 s1, .bool cz, .slice A1 l1.length c1], .agg #[.int .i64 s2, .bool cu, .slice A2 l2.length c2]] w fun e w' => Be w (z1.tdiv z2) e w' := by
 have nz := hide (fun W => qh s1 cz A1 c1 l1.length W)
 have HS2 := hide (fun W => qh s2 cu A2 c2 l2.length W)
 have hz := aix z1 z2
 have Qd : ∀ (W : World) (A5 : Option Addr) (c5 : Nat) (l5 : List Nat) (_ : Unit), jy W A5 c5 l5 z1.natAbs → l5.length ≤ lim ∧ l5.length + 1 ≤ 35184372088832 := fun _ _ _ _ _ g => h1.Hl hl1 g
 have Un : ∀ (W : World) (A5 : Option Addr) (c5 : Nat) (l5 : List Nat) (_ : Unit), jy W A5 c5 l5 z2.natAbs → l5.length ≤ lim ∧ l5.length + 1 ≤ 35184372088832 := fun _ _ _ _ _ g => h2.Hl hl2 g
 have G1 : ∀ W0, Below w.heap.size w W0 → Hid (∀ W, Below W0.heap.size W0 W → Calls Tryz.prog 159 #[.agg #[.int .i64 s1, .bool cz, .slice A1 l1.length c1]] W fun e w' => e = .returned (.int .i64 (qi z1)) ∧ Below W.heap.size W w') := fun W0 h0 W hW => zg s1 cz A1 c1 l1 z1 W (fw.below h1 (ay h0 hW))
 have G2 : ∀ W0, Below w.heap.size w W0 → Hid (∀ W, Below W0.heap.size W0 W → Calls Tryz.prog 159 #[.agg #[.int .i64 s2, .bool cu, .slice A2 l2.length c2]] W fun e w' => e = .returned (.int .i64 (qi z2)) ∧ Below W.heap.size W w') := fun W0 h0 W hW => zg s2 cu A2 c2 l2 z2 W (fw.below h2 (ay h0 hW))
 have B1 : ∀ W0, Below w.heap.size w W0 → Hid (∀ W, Below W0.heap.size W0 W → Calls Tryz.prog 191 #[.agg #[.int .i64 s1, .bool cz, .slice A1 l1.length c1]] W fun e w' => Es W z1.natAbs e w') := fun W0 h0 W hW => Du s1 cz A1 c1 l1 z1 W (fw.below h1 (ay h0 hW))
 have B2 : ∀ W0, Below w.heap.size w W0 → Hid (∀ W, Below W0.heap.size W0 W → Calls Tryz.prog 191 #[.agg #[.int .i64 s2, .bool cu, .slice A2 l2.length c2]] W fun e w' => Es W z2.natAbs e w') := fun W0 h0 W hW => Du s2 cu A2 c2 l2 z2 W (fw.below h2 (ay h0 hW))
 have ho1 : -1 ≤ qi z1 * qi z2 ∧ qi z1 * qi z2 ≤ 1 := by unfold qi; (repeat' split) <;> omega
 have hsz1 : l1.length = 0 → s1 = z1 ∧ z1.natAbs < Iq := fun h => by obtain ⟨e, _, e3⟩ := h1.Ae h; exact ⟨e, e3⟩
 have hsz2 : l2.length = 0 → s2 = z2 ∧ z2.natAbs < Iq := fun h => by obtain ⟨e, _, e3⟩ := h2.Ae h; exact ⟨e, e3⟩
 have ank : 0 < z2.natAbs := by omega
 by_cases hs : l1.length = 0 ∧ l2.length = 0
 ·
  obtain ⟨a1, a2⟩ := hs
  rw [decide_eq_true a1] at nz
  rw [decide_eq_true a2] at HS2
  obtain ⟨y1, y2⟩ := hsz1 a1
  obtain ⟨y3, y4⟩ := hsz2 a2
  subst y1; subst y3
  have hq : (s1.tdiv s2).natAbs < Iq := by rw [Int.natAbs_tdiv]; exact Nat.lt_of_le_of_lt (Nat.div_le_self _ _) y2
  have eq : IntKind.i64.wrap (s1.tdiv s2) = s1.tdiv s2 := IntWalk.i64_in _ (by rw [uf] at hq; omega)
  have eq' : wrap64 (s1.tdiv s2) = s1.tdiv s2 := IntWalk.wrap64_in _ (by rw [uf] at hq; omega)
  have HQ := hide hq
  have b0 : (s2 == 0) = false := beq_eq_false_iff_ne.2 hz0
  clear hz Qd Un G1 G2 B1 B2 ho1 hsz1 hsz2 ank h1 h2 hl1 hl2 a1 a2 y2 y4 hq
  go_enter Tryz.func165, Tryz.ntmps165
  go_wp2_with fail
  obtain ⟨n1, n2, n3, hsz, hw0⟩ := ni w (.cells #[.int .i64 s1, .bool cz, .slice A1 l1.length c1] 77) (.cells #[.int .i64 s2, .bool cu, .slice A2 l2.length c2] 77) (.cells #[.int .i64 0, .bool false, .slice none 0 0] 77)
  generalize (((w.alloc (.cells #[.int .i64 s1, .bool cz, .slice A1 l1.length c1] 77)).alloc (.cells #[.int .i64 s2, .bool cu, .slice A2 l2.length c2] 77)).alloc (.cells #[.int .i64 0, .bool false, .slice none 0 0] 77)) = W0 at *
  have k1 := ag n1 0
  have k2 := ag n1 1
  have k3 := ag n1 2
  simp only [Array.getElem?_eq_getElem, ji, jh, jg] at k1 k2 k3
  have k4 := ag n2 0
  have k5 := ag n2 1
  have k6 := ag n2 2
  simp only [Array.getElem?_eq_getElem, ji, jh, jg] at k4 k5 k6
  have q0 : w.heap.size < W0.heap.size := by omega
  have q1 : w.heap.size + 1 < W0.heap.size := by omega
  have q2 : w.heap.size + 1 + 1 < W0.heap.size := by omega
  have k7 := ag n3 0
  have k8 := ag n3 1
  have k9 := ag n3 2
  simp only [Array.getElem?_eq_getElem, ji, jh, jg] at k7 k8 k9
  have f7 := ai n3 0
  have f8 := ai n3 1
  have f9 := ai n3 2
  have N3 := Lib.hid n3
  clear n3
  clear n1 n2
  refine ((aa nz) _).mono ?_
  rintro e w1 ⟨rfl, hw1⟩
  have rf := ma (w := W0) bem hw1
  obtain ⟨hc, hfz⟩ := fe rf
  clear hw1
  go_wp2_with fail
  refine ((aa HS2) _).mono ?_
  rintro e w2 ⟨rfl, hw2⟩
  have hbw2 := ma (w := W0) bem hw2
  obtain ⟨hc, hfz⟩ := fe hbw2
  clear hw2
  go_wp2_with fail
  refine bodyPost_ret (v := .agg #[.int .i64 (s1.tdiv s2), .bool false, .slice none 0 0]) (by simp [results, Tryz.results165, go_sem, hc, k7, k8, k9, q2]) rfl ⟨s1.tdiv s2, false, none, 0, [], rfl, fw.small (aa HQ), ?_⟩
  have jq : Below w.heap.size w w2 := ay hw0 hbw2
  exact jq.grown (il _ _ _ _ _) jq.size (fun k hk => by injection hk with hk; omega)
 ·
  
  obtain ⟨m1, hm1⟩ : ∃ o, o = z1.natAbs := ⟨_, rfl⟩
  obtain ⟨m2, hm2⟩ : ∃ o, o = z2.natAbs := ⟨_, rfl⟩
  obtain ⟨o1, agu⟩ : ∃ o, o = qi z1 := ⟨_, rfl⟩
  obtain ⟨o2, agt⟩ : ∃ o, o = qi z2 := ⟨_, rfl⟩
  rw [← hm1] at B1 Qd hz
  rw [← hm2] at B2 Un hz ank
  rw [← agu] at G1 hz ho1
  rw [← agt] at G2 hz ho1
  obtain ⟨op, hop⟩ : ∃ o, o = o1 * o2 := ⟨_, rfl⟩
  have e1 : IntKind.i64.wrap (o1 * o2) = op := by rw [hop]; exact IntWalk.i64_in _ om
  have e1' : wrap64 (o1 * o2) = op := by rw [hop]; exact IntWalk.wrap64_in _ om
  rw [← hop] at hz
  obtain ⟨ng, hng⟩ : ∃ b, b = decide (op < 0) := ⟨_, rfl⟩
  rw [← hng] at hz
  obtain ⟨Z, hZ⟩ : ∃ o, o = z1.tdiv z2 := ⟨_, rfl⟩
  rw [← hZ] at hz ⊢
  have HZ := Lib.hid hz.symm
  have Ff := hide G1; have HG2 := hide G2; have HB1 := hide B1; have HB2 := hide B2; have HLEN := hide Qd; have Cj := hide Un
  have ngE := hng.symm
  clear hm1 hm2 agu agt ho1 hop hng hz hZ G1 G2 B1 B2 h1 h2 Qd Un hl1 hl2 hz0
  by_cases a1 : l1.length = 0
  ·
   have a2 : ¬ l2.length = 0 := fun h => hs ⟨a1, h⟩
   rw [decide_eq_true a1] at nz
   rw [decide_eq_false a2] at HS2
   clear hsz1 hsz2 hs a1 a2
   go_enter Tryz.func165, Tryz.ntmps165
   go_wp2_with fail
   obtain ⟨n1, n2, n3, hsz, hw0⟩ := ni w (.cells #[.int .i64 s1, .bool cz, .slice A1 l1.length c1] 77) (.cells #[.int .i64 s2, .bool cu, .slice A2 l2.length c2] 77) (.cells #[.int .i64 0, .bool false, .slice none 0 0] 77)
   generalize (((w.alloc (.cells #[.int .i64 s1, .bool cz, .slice A1 l1.length c1] 77)).alloc (.cells #[.int .i64 s2, .bool cu, .slice A2 l2.length c2] 77)).alloc (.cells #[.int .i64 0, .bool false, .slice none 0 0] 77)) = W0 at *
   have k1 := ag n1 0
   have k2 := ag n1 1
   have k3 := ag n1 2
   simp only [Array.getElem?_eq_getElem, ji, jh, jg] at k1 k2 k3
   have k4 := ag n2 0
   have k5 := ag n2 1
   have k6 := ag n2 2
   simp only [Array.getElem?_eq_getElem, ji, jh, jg] at k4 k5 k6
   have q0 : w.heap.size < W0.heap.size := by omega
   have q1 : w.heap.size + 1 < W0.heap.size := by omega
   have q2 : w.heap.size + 1 + 1 < W0.heap.size := by omega
   have k7 := ag n3 0
   have k8 := ag n3 1
   have k9 := ag n3 2
   simp only [Array.getElem?_eq_getElem, ji, jh, jg] at k7 k8 k9
   have f7 := ai n3 0
   have f8 := ai n3 1
   have f9 := ai n3 2
   have N3 := Lib.hid n3
   clear n3
   clear n1 n2
   have G1 := (aa Ff) W0 hw0; have G2 := (aa HG2) W0 hw0; have B1 := (aa HB1) W0 hw0; have B2 := (aa HB2) W0 hw0
   refine ((aa nz) _).mono ?_
   rintro e w1 ⟨rfl, hw1⟩
   have rf := ma (w := W0) bem hw1
   obtain ⟨hc, hfz⟩ := fe rf
   clear hw1
   go_wp2_with fail
   refine ((aa HS2) _).mono ?_
   rintro e w2 ⟨rfl, hw2⟩
   have hbw2 := ma (w := W0) bem hw2
   obtain ⟨hc, hfz⟩ := fe hbw2
   clear hw2
   go_wp2_with fail
   go_region_with (first | (go_at_call_of 191 (Value.agg #[.int .i64 s1, .bool cz, .slice A1 l1.length c1]); refine ((aa B1) _ bem).mono ?_; rintro e w' ⟨A5, cap5, l5, rfl, Ah, hb⟩; have hbw := bz (w := W0) bem hb; obtain ⟨hc, hfz⟩ := fe hbw) | (go_at_call_of 191 (Value.agg #[.int .i64 s2, .bool cu, .slice A2 l2.length c2]); refine ((aa B2) _ bem).mono ?_; rintro e w' ⟨A6, cap6, l6, rfl, mg, hb⟩; have jo := Ah.below hb; have hbw := bz (w := W0) bem hb; obtain ⟨hc, hfz⟩ := fe hbw) | (go_at_call 201; refine (abn A5 A6 cap5 cap6 l5 l6 m1 m2 _ (by exact jo) (by exact mg) ank ((aa HLEN) _ _ _ _ () jo).2 ((aa Cj) _ _ _ _ () mg).2).mono ?_; rintro e w' ⟨A7, uq, l7, A8, boq, l8, rfl, uo, hn8, hb⟩; have hbw := bz (w := W0) bem hb; obtain ⟨hc, hfz⟩ := fe hbw))
   all_goals
    go_wp2_with fail
    go_region_with (first | (go_at_call_of 159 (Value.agg #[.int .i64 s1, .bool cz, .slice A1 l1.length c1]); refine ((aa G1) _ bem).mono ?_; rintro e w' ⟨rfl, hb⟩; have uo : jy w' A7 uq l7 (m1 / m2) := (by first | exact uo.below hb | exact jy.below (jy.drew uo) hb | exact jy.below (w := World.drew _) uo hb); have hbw := bz (w := W0) bem hb; obtain ⟨hc, hfz⟩ := fe hbw) | (go_at_call_of 159 (Value.agg #[.int .i64 s2, .bool cu, .slice A2 l2.length c2]); refine ((aa G2) _ bem).mono ?_; rintro e w' ⟨rfl, hb⟩; have uo : jy w' A7 uq l7 (m1 / m2) := (by first | exact uo.below hb | exact jy.below (jy.drew uo) hb | exact jy.below (w := World.drew _) uo hb); have hbw := bz (w := W0) bem hb; obtain ⟨hc, hfz⟩ := fe hbw) | (go_at_call 190; refine (xg ng A7 uq l7 (m1 / m2) _ (by exact uo)).mono ?_; rw [← HZ.out]; rintro e w' ⟨s, ny, A', cap', l', rfl, hf, hb⟩; have hbw := bz (w := W0) bem hb; obtain ⟨hc, hfz⟩ := fe hbw))
    all_goals
     have hblk : w'.heap[w.heap.size + 1 + 1]? = some (.cells #[.int .i64 0, .bool false, .slice none 0 0] 77 (0, 0)) := (hbw.block _ q2).trans N3.out
     have ky := Lib.hid hblk
     have jq : Below w.heap.size w w' := ay hw0 hbw
     clear hblk
     go_wp2_with fail
     exact bodyPost_ret (v := .agg #[.int .i64 s, .bool ny, .slice A' l'.length cap']) (by simp [results, Tryz.results165, go_sem, hc, k7, k8, k9, q2]) rfl
      ⟨s, ny, A', cap', l', rfl, hf.upto ky.out (qw _ _ _ _ _) (il _ _ _ _ _), jq.grown (il _ _ _ _ _) jq.size (fun k hk => by injection hk with hk; omega)⟩
  ·
   skip
   rw [decide_eq_false a1] at nz
   clear hsz1 hsz2 hs a1
   go_enter Tryz.func165, Tryz.ntmps165
   go_wp2_with fail
   obtain ⟨n1, n2, n3, hsz, hw0⟩ := ni w (.cells #[.int .i64 s1, .bool cz, .slice A1 l1.length c1] 77) (.cells #[.int .i64 s2, .bool cu, .slice A2 l2.length c2] 77) (.cells #[.int .i64 0, .bool false, .slice none 0 0] 77)
   generalize (((w.alloc (.cells #[.int .i64 s1, .bool cz, .slice A1 l1.length c1] 77)).alloc (.cells #[.int .i64 s2, .bool cu, .slice A2 l2.length c2] 77)).alloc (.cells #[.int .i64 0, .bool false, .slice none 0 0] 77)) = W0 at *
   have k1 := ag n1 0
   have k2 := ag n1 1
   have k3 := ag n1 2
   simp only [Array.getElem?_eq_getElem, ji, jh, jg] at k1 k2 k3
   have k4 := ag n2 0
   have k5 := ag n2 1
   have k6 := ag n2 2
   simp only [Array.getElem?_eq_getElem, ji, jh, jg] at k4 k5 k6
   have q0 : w.heap.size < W0.heap.size := by omega
   have q1 : w.heap.size + 1 < W0.heap.size := by omega
   have q2 : w.heap.size + 1 + 1 < W0.heap.size := by omega
   have k7 := ag n3 0
   have k8 := ag n3 1
   have k9 := ag n3 2
   simp only [Array.getElem?_eq_getElem, ji, jh, jg] at k7 k8 k9
   have f7 := ai n3 0
   have f8 := ai n3 1
   have f9 := ai n3 2
   have N3 := Lib.hid n3
   clear n3
   clear n1 n2
   have G1 := (aa Ff) W0 hw0; have G2 := (aa HG2) W0 hw0; have B1 := (aa HB1) W0 hw0; have B2 := (aa HB2) W0 hw0
   refine ((aa nz) _).mono ?_
   rintro e w1 ⟨rfl, hw1⟩
   have rf := ma (w := W0) bem hw1
   obtain ⟨hc, hfz⟩ := fe rf
   clear hw1
   go_wp2_with fail
   go_region_with (first | (go_at_call_of 191 (Value.agg #[.int .i64 s1, .bool cz, .slice A1 l1.length c1]); refine ((aa B1) _ bem).mono ?_; rintro e w' ⟨A5, cap5, l5, rfl, Ah, hb⟩; have hbw := bz (w := W0) bem hb; obtain ⟨hc, hfz⟩ := fe hbw) | (go_at_call_of 191 (Value.agg #[.int .i64 s2, .bool cu, .slice A2 l2.length c2]); refine ((aa B2) _ bem).mono ?_; rintro e w' ⟨A6, cap6, l6, rfl, mg, hb⟩; have jo := Ah.below hb; have hbw := bz (w := W0) bem hb; obtain ⟨hc, hfz⟩ := fe hbw) | (go_at_call 201; refine (abn A5 A6 cap5 cap6 l5 l6 m1 m2 _ (by exact jo) (by exact mg) ank ((aa HLEN) _ _ _ _ () jo).2 ((aa Cj) _ _ _ _ () mg).2).mono ?_; rintro e w' ⟨A7, uq, l7, A8, boq, l8, rfl, uo, hn8, hb⟩; have hbw := bz (w := W0) bem hb; obtain ⟨hc, hfz⟩ := fe hbw))
   all_goals
    go_wp2_with fail
    go_region_with (first | (go_at_call_of 159 (Value.agg #[.int .i64 s1, .bool cz, .slice A1 l1.length c1]); refine ((aa G1) _ bem).mono ?_; rintro e w' ⟨rfl, hb⟩; have uo : jy w' A7 uq l7 (m1 / m2) := (by first | exact uo.below hb | exact jy.below (jy.drew uo) hb | exact jy.below (w := World.drew _) uo hb); have hbw := bz (w := W0) bem hb; obtain ⟨hc, hfz⟩ := fe hbw) | (go_at_call_of 159 (Value.agg #[.int .i64 s2, .bool cu, .slice A2 l2.length c2]); refine ((aa G2) _ bem).mono ?_; rintro e w' ⟨rfl, hb⟩; have uo : jy w' A7 uq l7 (m1 / m2) := (by first | exact uo.below hb | exact jy.below (jy.drew uo) hb | exact jy.below (w := World.drew _) uo hb); have hbw := bz (w := W0) bem hb; obtain ⟨hc, hfz⟩ := fe hbw) | (go_at_call 190; refine (xg ng A7 uq l7 (m1 / m2) _ (by exact uo)).mono ?_; rw [← HZ.out]; rintro e w' ⟨s, ny, A', cap', l', rfl, hf, hb⟩; have hbw := bz (w := W0) bem hb; obtain ⟨hc, hfz⟩ := fe hbw))
    all_goals
     have hblk : w'.heap[w.heap.size + 1 + 1]? = some (.cells #[.int .i64 0, .bool false, .slice none 0 0] 77 (0, 0)) := (hbw.block _ q2).trans N3.out
     have ky := Lib.hid hblk
     have jq : Below w.heap.size w w' := ay hw0 hbw
     clear hblk
     go_wp2_with fail
     exact bodyPost_ret (v := .agg #[.int .i64 s, .bool ny, .slice A' l'.length cap']) (by simp [results, Tryz.results165, go_sem, hc, k7, k8, k9, q2]) rfl
      ⟨s, ny, A', cap', l', rfl, hf.upto ky.out (qw _ _ _ _ _) (il _ _ _ _ _), jq.grown (il _ _ _ _ _) jq.size (fun k hk => by injection hk with hk; omega)⟩


theorem ana (s1 : Int) (cz : Bool) (A1 : Option Addr) (c1 : Nat) (l1 : List Nat) (z1 : Int) (s2 : Int) (cu : Bool) (A2 : Option Addr) (c2 : Nat) (l2 : List Nat) (z2 : Int) (w : World)
  (h1 : fw w s1 cz A1 c1 l1 z1) (h2 : fw w s2 cu A2 c2 l2 z2) (hl1 : l1.length ≤ lim) (hl2 : l2.length ≤ lim) (a1 : l1.length = 0) (a2 : l2.length = 0) (hz : (z1 + z2).natAbs < Iq) :
  Calls Tryz.prog 166 #[.agg #[.int .i64 s1, .bool cz, .slice A1 l1.length c1], .agg #[.int .i64 s2, .bool cu, .slice A2 l2.length c2]] w fun e w' => Be w (z1 + z2) e w' := by
 have nz := hide (fun W => qh s1 cz A1 c1 l1.length W)
 have HS2 := hide (fun W => qh s2 cu A2 c2 l2.length W)
 rw [decide_eq_true a1] at nz
 rw [decide_eq_true a2] at HS2
 obtain ⟨e1, en1, b1⟩ := h1.Ae a1
 obtain ⟨e2, en2, b2⟩ := h2.Ae a2
 clear en1 en2
 subst e1 e2
 obtain ⟨Z, hZ⟩ : ∃ o, o = s1 + s2 := ⟨_, rfl⟩
 rw [← hZ] at hz ⊢
 rw [uf] at b1 b2
 have hz' := hz
 rw [uf] at hz'
 have w1 : IntKind.i64.wrap (s1 + s2) = Z := by rw [hZ]; exact IntWalk.i64_in _ om
 have w2 : wrap64 (s1 + s2) = Z := by rw [hZ]; exact IntWalk.wrap64_in _ om
 have n1 : (Z == -9223372036854775808) = false := beq_eq_false_iff_ne.2 om
 have n2 : (Z != -9223372036854775808) = true := by simp [bne, n1]
 have HZ := hide hz
 by_cases hp : 0 < s2
 ·
  have d1 : decide (s1 < Z) = true := decide_eq_true om
  have d2 : decide (0 < s2) = true := decide_eq_true hp
  clear h1 h2 hl1 hl2 a1 a2 hz hz' hZ b1 b2 hp
  go_enter Tryz.func166, Tryz.ntmps166
  go_wp2_with fail
  obtain ⟨n1, n2, n3, hsz, hw0⟩ := ni w (.cells #[.int .i64 s1, .bool cz, .slice A1 l1.length c1] 77) (.cells #[.int .i64 s2, .bool cu, .slice A2 l2.length c2] 77) (.cells #[.int .i64 0, .bool false, .slice none 0 0] 77)
  generalize (((w.alloc (.cells #[.int .i64 s1, .bool cz, .slice A1 l1.length c1] 77)).alloc (.cells #[.int .i64 s2, .bool cu, .slice A2 l2.length c2] 77)).alloc (.cells #[.int .i64 0, .bool false, .slice none 0 0] 77)) = W0 at *
  have k1 := ag n1 0
  have k2 := ag n1 1
  have k3 := ag n1 2
  simp only [Array.getElem?_eq_getElem, ji, jh, jg] at k1 k2 k3
  have k4 := ag n2 0
  have k5 := ag n2 1
  have k6 := ag n2 2
  simp only [Array.getElem?_eq_getElem, ji, jh, jg] at k4 k5 k6
  have q0 : w.heap.size < W0.heap.size := by omega
  have q1 : w.heap.size + 1 < W0.heap.size := by omega
  have q2 : w.heap.size + 1 + 1 < W0.heap.size := by omega
  have k7 := ag n3 0
  have k8 := ag n3 1
  have k9 := ag n3 2
  simp only [Array.getElem?_eq_getElem, ji, jh, jg] at k7 k8 k9
  have f7 := ai n3 0
  have f8 := ai n3 1
  have f9 := ai n3 2
  have N3 := Lib.hid n3
  clear n3
  clear n1 n2
  refine ((aa nz) _).mono ?_
  rintro e w1 ⟨rfl, hw1⟩
  have rf := ma (w := W0) bem hw1
  obtain ⟨hc, hfz⟩ := fe rf
  clear hw1
  go_wp2_with fail
  refine ((aa HS2) _).mono ?_
  rintro e w2 ⟨rfl, hw2⟩
  have hbw2 := ma (w := W0) bem hw2
  obtain ⟨hc, hfz⟩ := fe hbw2
  clear hw2
  go_wp2_with fail
  have hbw : Below W0.heap.size W0 w2 := by (first | assumption | (repeat (first | exact Below.refl _ _ | assumption | refine Below.drew ?_ | (refine Below.alloc ?_ (by simp <;> omega) _))))
  have hblk : w2.heap[w.heap.size + 1 + 1]? = some (.cells #[.int .i64 0, .bool false, .slice none 0 0] 77 (0, 0)) := (hbw.block _ q2).trans N3.out
  have jq : Below w.heap.size w w2 := ay hw0 hbw
  exact bodyPost_ret (v := .agg #[.int .i64 Z, .bool false, .slice none 0 0]) (by simp [results, Tryz.results166, go_sem, hc, k7, k8, k9, q2]) rfl
   ⟨Z, false, none, 0, [], rfl, fw.small (aa HZ), jq.grown (il _ _ _ _ _) jq.size (fun k hk => by injection hk with hk; omega)⟩
 ·
  have d1 : decide (s1 < Z) = false := decide_eq_false om
  have d2 : decide (0 < s2) = false := decide_eq_false hp
  clear h1 h2 hl1 hl2 a1 a2 hz hz' hZ b1 b2 hp
  go_enter Tryz.func166, Tryz.ntmps166
  go_wp2_with fail
  obtain ⟨n1, n2, n3, hsz, hw0⟩ := ni w (.cells #[.int .i64 s1, .bool cz, .slice A1 l1.length c1] 77) (.cells #[.int .i64 s2, .bool cu, .slice A2 l2.length c2] 77) (.cells #[.int .i64 0, .bool false, .slice none 0 0] 77)
  generalize (((w.alloc (.cells #[.int .i64 s1, .bool cz, .slice A1 l1.length c1] 77)).alloc (.cells #[.int .i64 s2, .bool cu, .slice A2 l2.length c2] 77)).alloc (.cells #[.int .i64 0, .bool false, .slice none 0 0] 77)) = W0 at *
  have k1 := ag n1 0
  have k2 := ag n1 1
  have k3 := ag n1 2
  simp only [Array.getElem?_eq_getElem, ji, jh, jg] at k1 k2 k3
  have k4 := ag n2 0
  have k5 := ag n2 1
  have k6 := ag n2 2
  simp only [Array.getElem?_eq_getElem, ji, jh, jg] at k4 k5 k6
  have q0 : w.heap.size < W0.heap.size := by omega
  have q1 : w.heap.size + 1 < W0.heap.size := by omega
  have q2 : w.heap.size + 1 + 1 < W0.heap.size := by omega
  have k7 := ag n3 0
  have k8 := ag n3 1
  have k9 := ag n3 2
  simp only [Array.getElem?_eq_getElem, ji, jh, jg] at k7 k8 k9
  have f7 := ai n3 0
  have f8 := ai n3 1
  have f9 := ai n3 2
  have N3 := Lib.hid n3
  clear n3
  clear n1 n2
  refine ((aa nz) _).mono ?_
  rintro e w1 ⟨rfl, hw1⟩
  have rf := ma (w := W0) bem hw1
  obtain ⟨hc, hfz⟩ := fe rf
  clear hw1
  go_wp2_with fail
  refine ((aa HS2) _).mono ?_
  rintro e w2 ⟨rfl, hw2⟩
  have hbw2 := ma (w := W0) bem hw2
  obtain ⟨hc, hfz⟩ := fe hbw2
  clear hw2
  go_wp2_with fail
  have hbw : Below W0.heap.size W0 w2 := by (first | assumption | (repeat (first | exact Below.refl _ _ | assumption | refine Below.drew ?_ | (refine Below.alloc ?_ (by simp <;> omega) _))))
  have hblk : w2.heap[w.heap.size + 1 + 1]? = some (.cells #[.int .i64 0, .bool false, .slice none 0 0] 77 (0, 0)) := (hbw.block _ q2).trans N3.out
  have jq : Below w.heap.size w w2 := ay hw0 hbw
  exact bodyPost_ret (v := .agg #[.int .i64 Z, .bool false, .slice none 0 0]) (by simp [results, Tryz.results166, go_sem, hc, k7, k8, k9, q2]) rfl
   ⟨Z, false, none, 0, [], rfl, fw.small (aa HZ), jq.grown (il _ _ _ _ _) jq.size (fun k hk => by injection hk with hk; omega)⟩

end Go.Proofs.YtfgeaakhlcaibaaGreatDoor
