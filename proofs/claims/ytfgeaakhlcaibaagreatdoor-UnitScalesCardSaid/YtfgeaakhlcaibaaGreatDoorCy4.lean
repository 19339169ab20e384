/- Texts beneath a law of layer 1. -/
import Derived.Test.YtfgeaakhlcaibaaGreatDoorCy3
import Derived.Deep.RegionHeld3
import Derived.IntWalk
set_option maxRecDepth 100000
set_option maxHeartbeats 16000000
namespace Go.Proofs.YtfgeaakhlcaibaaGreatDoor
open Go.RowKit

theorem addr_add (b off j : Nat) : (⟨b, off, none⟩ : Addr).add j = ⟨b, off + j, none⟩ := by
 unfold Addr.add
 split
 ·
  rename_i h; subst h; rfl
 ·
  rfl

def Gx (k : IntKind) (l : List Nat) : List Value := l.map fun (x : Nat) => Value.int k (x : Int)
theorem anl {k : IntKind} {l : List Nat} {j : Nat} {v : Value} (h : (Gx k l)[j]? = some v) : j < l.length ∧ v = .int k ((Wd.g l j : Nat) : Int) := by
 simp only [Gx, List.getElem?_map, Option.map_eq_some_iff] at h
 obtain ⟨x, hx, rfl⟩ := h
 obtain ⟨hl, rfl⟩ := List.getElem?_eq_some_iff.1 hx
 exact ⟨hl, by simp [Wd.g, List.getD, hl]⟩

theorem adz (k : IntKind) (l : List Nat) (n : Nat) (hn : l.length ≤ n) : (splice (Gx k (List.replicate n 0)) 0 (Gx k l)).toArray = wu k (l ++ List.replicate (n - l.length) 0) := by
 simp [splice, Gx, wu]

theorem acn (k : IntKind) (l : List Nat) : ∀ v ∈ Gx k l, v.oneCell' = true := by
 intro v hv
 simp only [Gx, List.mem_map] at hv
 obtain ⟨x, _, rfl⟩ := hv
 rfl

theorem Wo (B : Nat) (l : List Nat) (n : Nat) : Wd.val B (l ++ List.replicate n 0) = Wd.val B l := by
 rw [Wd.val_append, Wd.Sl]; simp

theorem aoi : (Tryz.prog.info? 157).map (·.size) = some 1 := by kernel_rfl

theorem arb (A : Option Addr) (c : Nat) (l : List Nat) (wa : World) (B g : Nat) (hz : ZB .u64 wa g 157 (List.replicate (l.length + 1) 0)) (hws : Ws .u64 wa B A l) :
  ∃ W', (Builtin.copy_ #[75, 75] 3 #[.slice (some ⟨g, 0, none⟩) (l.length + 1) (l.length + 1), .slice A l.length c]).run Tryz.prog wa = .ok (goInt l.length) W' ∧ ZB .u64 W' g 157 (l ++ [0]) ∧ ∀ B', B' ≤ g → Below B' wa W' := by
 by_cases h0 : l.length = 0
 ·
  have hl := List.eq_nil_of_length_eq_zero h0
  subst hl
  exact ⟨wa, run_copy_none wa 75 75 3 157 _ _ _ _ _ _ Tryz.underlying75 aoi (by simp), hz, fun B' _ => Below.refl _ _⟩
 ·
  obtain ⟨b, off, rfl, _, hc⟩ := hws om
  have hlen : (Gx .u64 l).length = l.length := by simp [Gx]
  have hsp := adz .u64 l (l.length + 1) om
  rw [show l.length + 1 - l.length = 1 by omega] at hsp
  have hrun := run_copy_row (P := Tryz.prog) wa 75 75 3 157 g 0 (l.length + 1) (l.length + 1) ⟨b, off, none⟩ l.length c (wu .u64 (List.replicate (l.length + 1) 0)) 157 (Gx .u64 l) Tryz.underlying75 aoi hz
   (by rw [hlen]; exact (Nat.min_eq_left om).symm) (fun j v hj => by
    obtain ⟨h1, rfl⟩ := anl hj
    rw [addr_add]
    exact hc j h1) (by rw [hlen]; simp [wu]) (acn _ _)
  rw [hlen] at hrun
  refine ⟨_, hrun, ?_, fun B' hB' => below_setRow (Below.refl _ _) hB' _⟩
  have e : ((wu .u64 (List.replicate (l.length + 1) 0)).toList.take 0 ++ Gx .u64 l ++ (wu .u64 (List.replicate (l.length + 1) 0)).toList.drop (0 + l.length)).toArray = wu .u64 (l ++ [0]) := by
   rw [show [0] = List.replicate 1 0 from rfl, ← hsp]
   simp [splice, wu, Gx]
  rw [e]
  exact setRow_heap wa g _ _ 157 (0, 0) hz

theorem akb {B : Nat} (hB : 1 < B) {pl ql zr : List Nat} {n m c : Nat} (h1 : Wd.val B zr + B ^ (pl ++ [0]).length * c = Wd.val B (pl ++ [0]) + Wd.val B ql) (hp : Wd.val B pl = n) (hq : Wd.val B ql = m) (hn : n < B ^ pl.length) (hm : m < B ^ ql.length) (hl : ql.length ≤ pl.length) (hc : c ≤ 1) : Wd.val B zr = n + m := by
 have h2 : Wd.val B (pl ++ [0]) = n := by rw [show [0] = List.replicate 1 0 from rfl, Wo]; exact hp
 rw [h2, hq] at h1
 have h5 : B ^ ql.length ≤ B ^ pl.length := Nat.pow_le_pow_right (Nat.lt_trans Nat.zero_lt_one hB) hl
 have h6 : B ^ (pl ++ [0]).length = B ^ pl.length * B := by rw [List.length_append, List.length_singleton, Nat.pow_succ]
 have h7 : 2 * B ^ pl.length ≤ B ^ pl.length * B := by rw [Nat.mul_comm]; exact Nat.mul_le_mul_left _ hB
 rw [h6] at h1
 generalize B ^ pl.length * B = Q at *
 generalize B ^ pl.length = P at *
 generalize B ^ ql.length = R at *
 rcases (show c = 0 ∨ c = 1 by omega) with rfl | rfl <;> omega

theorem ajn {l : List Nat} (h : ∀ x ∈ l, x < dm) : ∀ x ∈ l ++ [0], x < dm := by
 intro t ht
 rw [List.mem_append] at ht
 rcases ht with h1 | h1
 ·
  exact h t h1
 ·
  rw [List.mem_singleton] at h1; subst h1; exact Nat.lt_trans Nat.zero_lt_one pz

theorem Pn (Ax Ay : Option Addr) (cx cy : Nat) (xl yl : List Nat) (n m : Nat) (w : World) (hx : ku w Ax cx xl n) (hy : ku w Ay cy yl m) (hk : xl.length ≤ lim) (hk2 : yl.length ≤ lim) :
  Calls Tryz.prog 202 #[.slice Ax xl.length cx, .slice Ay yl.length cy] w fun e w' => Eb w (n + m) e w' := by
 have hx1 := hx.ru; have hx2 := hx.cap2; have hy1 := hy.ru; have hy2 := hy.cap2
 have hkk : xl.length ≤ 17592186044416 := by rw [← Al]; exact hk
 have btn : yl.length ≤ 17592186044416 := by rw [← Al]; exact hk2
 by_cases hlt : xl.length < yl.length
 ·
  have b1 : decide ((xl.length : Int) < (yl.length : Int)) = true := decide_eq_true om
  have b2 : decide (xl.length < yl.length) = true := decide_eq_true om
  have hmk := Kg (yl.length + 1) om
  simp only [Int.natCast_add, Int.cast_ofNat_Int] at hmk
  have hws : Ws .u64 (w.alloc (.cells (wu .u64 (List.replicate (yl.length + 1) 0)) 157)) w.heap.size Ay yl := hy.ws.alloc (Nat.le_refl _) _
  obtain ⟨w1, hcopy, hz, hb0⟩ := arb Ay cy yl _ w.heap.size w.heap.size (heap_alloc_new w _) hws
  have hb1 : Below w.heap.size w w1 := ((Below.refl _ _).alloc (Nat.le_refl _) _).trans (hb0 _ (Nat.le_refl _))
  clear hb0 hws
  go_enter Tryz.func202, Tryz.ntmps202
  go_wp2_with fail
  have hx1 := hx.below hb1
  have hadd := Om w.heap.size 0 (yl.length + 1) 157 (yl ++ [0]) (yl ++ [0]) xl Ax cx w.heap.size w1 hz (by simp) (by rw [List.drop_zero, List.take_of_length_le (Nat.le_refl _)]) (by simp) om (hx.ws.below hb1) (Nat.le_refl _) hx.ru hx.cap2 (by simp; omega) (ajn hy.lt) hx.lt
  have e0 : (yl ++ [0]).length = yl.length + 1 := by simp
  rw [e0] at hadd
  refine hadd.mono ?_
  rintro e w2 ⟨zr, c, rfl, hok, hz2, hg2⟩
  have hl2 : zr.length = yl.length + 1 := by rw [hok.len]; simp
  rw [win_zero _ _ (by rw [hok.len])] at hz2
  have hval : Wd.val dm zr = n + m := by rw [Nat.add_comm]; exact akb pz hok.eq hy.val hx.val hy.Mi hx.Mi om hok.c1
  have hb2 : Below w.heap.size w w2 := hb1.grown hg2 hb1.size (fun g e => by injection e with e; omega)
  have HL2 := Lib.hid hl2; have aax := Lib.hid hval; have qb := hide hok.lt
  have htr := Dv (some ⟨w.heap.size, 0, none⟩) zr.length zr w2.heap.size w2 (hz2.Dp _ hz2.lt) (Nat.le_refl _) om
  rw [hl2] at htr
  have HTR := hide htr
  clear hl2 hval hok hadd htr
  go_wp2_with fail
  refine (aa HTR).mono ?_
  rintro e w3 ⟨⟨k, rfl, ht, hk3⟩, hw3⟩
  obtain rfl : w2 = w3 := hw3.symm
  go_wp2_with fail
  go_ret
  have hk4 : k = (zr.take k).length := by have := HL2.out; rw [List.length_take]; omega
  have h := ku.Ao (cap := yl.length + 1) hz2 (aa qb) ht (by rw [HL2.out]; exact hk3) (by rw [HL2.out]; exact Nat.le_refl _) om
  rw [aax.out] at h
  exact ⟨some ⟨w.heap.size, 0, none⟩, yl.length + 1, zr.take k, Hw hk4, h, hb2⟩
 ·
  have b1 : decide ((xl.length : Int) < (yl.length : Int)) = false := decide_eq_false om
  have b2 : decide (xl.length < yl.length) = false := decide_eq_false om
  have hmk := Kg (xl.length + 1) om
  simp only [Int.natCast_add, Int.cast_ofNat_Int] at hmk
  have hws : Ws .u64 (w.alloc (.cells (wu .u64 (List.replicate (xl.length + 1) 0)) 157)) w.heap.size Ax xl := hx.ws.alloc (Nat.le_refl _) _
  obtain ⟨w1, hcopy, hz, hb0⟩ := arb Ax cx xl _ w.heap.size w.heap.size (heap_alloc_new w _) hws
  have hb1 : Below w.heap.size w w1 := ((Below.refl _ _).alloc (Nat.le_refl _) _).trans (hb0 _ (Nat.le_refl _))
  clear hb0 hws
  go_enter Tryz.func202, Tryz.ntmps202
  go_wp2_with fail
  have hy1 := hy.below hb1
  have hadd := Om w.heap.size 0 (xl.length + 1) 157 (xl ++ [0]) (xl ++ [0]) yl Ay cy w.heap.size w1 hz (by simp) (by rw [List.drop_zero, List.take_of_length_le (Nat.le_refl _)]) (by simp) om (hy.ws.below hb1) (Nat.le_refl _) hy.ru hy.cap2 (by simp; omega) (ajn hx.lt) hy.lt
  have e0 : (xl ++ [0]).length = xl.length + 1 := by simp
  rw [e0] at hadd
  refine hadd.mono ?_
  rintro e w2 ⟨zr, c, rfl, hok, hz2, hg2⟩
  have hl2 : zr.length = xl.length + 1 := by rw [hok.len]; simp
  rw [win_zero _ _ (by rw [hok.len])] at hz2
  have hval : Wd.val dm zr = n + m := akb pz hok.eq hx.val hy.val hx.Mi hy.Mi om hok.c1
  have hb2 : Below w.heap.size w w2 := hb1.grown hg2 hb1.size (fun g e => by injection e with e; omega)
  have HL2 := Lib.hid hl2; have aax := Lib.hid hval; have qb := hide hok.lt
  have htr := Dv (some ⟨w.heap.size, 0, none⟩) zr.length zr w2.heap.size w2 (hz2.Dp _ hz2.lt) (Nat.le_refl _) om
  rw [hl2] at htr
  have HTR := hide htr
  clear hl2 hval hok hadd htr
  go_wp2_with fail
  refine (aa HTR).mono ?_
  rintro e w3 ⟨⟨k, rfl, ht, hk3⟩, hw3⟩
  obtain rfl : w2 = w3 := hw3.symm
  go_wp2_with fail
  go_ret
  have hk4 : k = (zr.take k).length := by have := HL2.out; rw [List.length_take]; omega
  have h := ku.Ao (cap := xl.length + 1) hz2 (aa qb) ht (by rw [HL2.out]; exact hk3) (by rw [HL2.out]; exact Nat.le_refl _) om
  rw [aax.out] at h
  exact ⟨some ⟨w.heap.size, 0, none⟩, xl.length + 1, zr.take k, Hw hk4, h, hb2⟩

theorem dz {W w1 : World} (hb : Below W.heap.size W w1) : (∀ b o, b < W.heap.size → w1.cell? ⟨b, o, none⟩ = W.cell? ⟨b, o, none⟩) ∧ (∀ b o, b < W.heap.size → w1.frozen? ⟨b, o, none⟩ = W.frozen? ⟨b, o, none⟩) :=
 ⟨fun b o h => hb.cell (p := ⟨b, o, none⟩) h, fun b o h => hb.frozen (p := ⟨b, o, none⟩) h⟩

def Iq : Nat := 9223372036854775808
theorem uq : Iq = 9223372036854775808 := rfl

structure fq (w : World) (s : Int) (neg : Bool) (A : Option Addr) (cap : Nat) (l : List Nat) (z : Int) : Prop where
 nat : ∃ n, ku w A cap l n
 form : (l.length = 0 ∧ neg = false ∧ s = z ∧ z.natAbs < Iq) ∨ (0 < l.length ∧ s = 0 ∧ neg = decide (z < 0) ∧ Wd.val dm l = z.natAbs ∧ Iq ≤ z.natAbs)

theorem fq.below {w w' : World} {s : Int} {neg : Bool} {A : Option Addr} {cap : Nat} {l : List Nat} {z : Int} (h : fq w s neg A cap l z) (hb : Below w.heap.size w w') : fq w' s neg A cap l z :=
 ⟨let ⟨n, hn⟩ := h.nat; ⟨n, hn.below hb⟩, h.form⟩
theorem fq.small {w : World} {z : Int} (hz : z.natAbs < Iq) : fq w z false none 0 [] z := ⟨⟨0, ku.Qt _ _ om⟩, .inl ⟨rfl, rfl, rfl, hz⟩⟩

def Bq (w : World) (z : Int) (e : Ending) (w' : World) : Prop := ∃ s neg A cap l, e = .returned (.agg #[.int .i64 s, .bool neg, .slice A l.length cap]) ∧ fq w' s neg A cap l z ∧ Below w.heap.size w w'

def Po (cs : Array Value) : Prop := ∀ (i : Nat) (n : Int), cs[i]? ≠ some (Value.int .u64 n)
theorem si (s : Int) (b : Bool) (A : Option Addr) (n c : Nat) : Po #[.int .i64 s, .bool b, .slice A n c] := by
 intro i n h
 match i, h with
 | 0, h => simp at h
 | 1, h => simp at h
 | 2, h => simp at h
 | i + 3, h => simp at h

theorem Ws.upto {w w' : World} {B g : Nat} {A : Option Addr} {l : List Nat} {T : TypeId} {cs : Array Value} (h : Ws .u64 w B A l) (hg : w.heap[g]? = some (.cells cs T (0, 0))) (hn : Po cs) (hgr : w.grownBy w' (some g)) (hB : B ≤ w.heap.size) : Ws .u64 w' B A l := fun hl => by
 obtain ⟨b, off, rfl, hb, hc⟩ := h hl
 have hne : b ≠ g := by
  rintro rfl
  have := hc 0 hl
  simp only [World.cell?, hg, Option.isSome_none, Bool.false_eq_true, if_false] at this
  exact hn _ _ this
 exact ⟨b, off, rfl, hb, fun j hj => (World.cell?_of_block (hgr.block b om (fun e => hne (by injection e)))).trans (hc j hj)⟩
theorem ku.upto {w w' : World} {g : Nat} {A : Option Addr} {cap : Nat} {l : List Nat} {n : Nat} {T : TypeId} {cs : Array Value} (h : ku w A cap l n) (hg : w.heap[g]? = some (.cells cs T (0, 0))) (hn : Po cs) (hgr : w.grownBy w' (some g)) : ku w' A cap l n :=
 ⟨(h.ws.upto hg hn hgr (Nat.le_refl _)).more hgr.size, h.ru, h.cap2, h.lt, h.norm, h.val⟩
theorem fq.upto {w w' : World} {g : Nat} {s : Int} {neg : Bool} {A : Option Addr} {cap : Nat} {l : List Nat} {z : Int} {T : TypeId} {cs : Array Value} (h : fq w s neg A cap l z) (hg : w.heap[g]? = some (.cells cs T (0, 0))) (hn : Po cs) (hgr : w.grownBy w' (some g)) : fq w' s neg A cap l z :=
 ⟨let ⟨n, hn'⟩ := h.nat; ⟨n, hn'.upto hg hn hgr⟩, h.form⟩

theorem ik (w : World) (g : Nat) (u0 u1 u2 : Value) : w.grownBy (((w.setCell ⟨g, 0, none⟩ u0).setCell ⟨g, 1, none⟩ u1).setCell ⟨g, 2, none⟩ u2) (some g) :=
 ll (ll (ll (qo _ _) _ _) _ _) _ _

theorem qi (s : Int) (neg : Bool) (A : Option Addr) (cap n : Nat) (w : World) :
  Calls Tryz.prog 188 #[.agg #[.int .i64 s, .bool neg, .slice A n cap]] w fun e w' => e = .returned (.bool (decide (n = 0))) ∧ w' = w.alloc (.cells #[.int .i64 s, .bool neg, .slice A n cap] 77) := by
 by_cases h : n = 0
 ·
  subst h
  go_enter Tryz.func188, Tryz.ntmps188
  go_wp2
  go_ret
  exact ⟨rfl, rfl⟩
 ·
  have hb : ((n : Int) == 0) = false := beq_eq_false_iff_ne.2 om
  have hd : decide (n = 0) = false := decide_eq_false h
  rw [hd]
  clear hd
  go_enter Tryz.func188, Tryz.ntmps188
  go_wp2
  go_ret
  exact ⟨rfl, rfl⟩

theorem Jd (s : Int) (hs1 : -9223372036854775808 ≤ s) (hs2 : s ≤ 9223372036854775807) (w : World) :
  Calls Tryz.prog 186 #[.int .i64 s] w fun e w' => e = .returned (.int .u64 ((s.natAbs : Nat) : Int)) ∧ w' = w := by
 by_cases h : s < 0
 ·
  have e1 : IntKind.u64.wrap (-(IntKind.u64.wrap s)) = ((s.natAbs : Nat) : Int) := by
   rw [IntKind.wrap_u64, IntKind.wrap_u64]; omega
  have HE := Lib.hid e1
  clear e1 hs1 hs2
  go_enter Tryz.func186, Tryz.ntmps186
  go_wp2
  go_ret
  exact ⟨rf (by first | exact HE.out | (rw [← HE.out]; simp)), rfl⟩
 ·
  have e1 : IntKind.u64.wrap s = ((s.natAbs : Nat) : Int) := by
   rw [IntKind.wrap_u64]; omega
  have HE := Lib.hid e1
  clear e1 hs1 hs2
  go_enter Tryz.func186, Tryz.ntmps186
  go_wp2
  go_ret
  exact ⟨rf (by first | exact HE.out | (rw [← HE.out]; simp)), rfl⟩

theorem Qb (neg : Bool) (m : Nat) (hm : m < dm) (w : World) :
  Calls Tryz.prog 185 #[.bool neg, .int .u64 ((m : Nat) : Int)] w fun e w' => Bq w (if neg then -(m : Int) else (m : Int)) e w' := by
 by_cases h : Iq ≤ m
 ·
  have b1 : decide ((9223372036854775807 : Int) < (m : Int)) = true := decide_eq_true (by rw [uq] at h; omega)
  have hz : (if neg then -(m : Int) else (m : Int)).natAbs = m := by cases neg <;> simp
  have hn : decide ((if neg then -(m : Int) else (m : Int)) < 0) = neg := by rw [uq] at h; cases neg <;> simp <;> omega
  obtain ⟨z, hzz⟩ : ∃ z, z = if neg then -(m : Int) else (m : Int) := ⟨_, rfl⟩
  rw [← hzz] at hz hn ⊢
  have HZ := Lib.hid hz; have HN := Lib.hid hn; have HM := hide h; have HMB := hide hm
  clear hz hn hzz h hm
  go_enter Tryz.func185, Tryz.ntmps185
  go_wp2
  refine bodyPost_ret (v := .agg #[.int .i64 0, .bool neg, .slice (some ⟨w.heap.size + 1, 0, none⟩) 1 1]) (by simp [results, Tryz.results185, go_sem]) rfl ⟨0, neg, some ⟨w.heap.size + 1, 0, none⟩, 1, [m], rfl, ?_, ?_⟩
  ·
   have hz : ZB .u64 ((w.alloc (.cells #[.int .i64 0, .bool neg, .slice (some ⟨w.heap.size + 1, 0, none⟩) 1 1] 77)).alloc (.cells #[.int .u64 (m : Int)] 157)) (w.heap.size + 1) 157 [m] := by
    have : ZB .u64 ((w.alloc (.cells #[.int .i64 0, .bool neg, .slice (some ⟨w.heap.size + 1, 0, none⟩) 1 1] 77)).alloc (.cells #[.int .u64 (m : Int)] 157)) (w.alloc (.cells #[.int .i64 0, .bool neg, .slice (some ⟨w.heap.size + 1, 0, none⟩) 1 1] 77)).heap.size 157 [m] := heap_alloc_new _ _
    rwa [World.size_alloc] at this
   have h63 := HM.out
   rw [uq] at h63
   exact ⟨⟨m, hz.Dp _ hz.lt, by simp, by omega, by simpa using HMB.out, .inr (by simp; omega), by simp [Wd.val]⟩, .inr ⟨by simp, rfl, HN.out.symm, by rw [HZ.out]; simp [Wd.val], by rw [HZ.out]; exact HM.out⟩⟩
  ·
   exact ((Below.refl _ _).alloc (Nat.le_refl _) _).alloc (by simp) _
 ·
  have b1 : decide ((9223372036854775807 : Int) < (m : Int)) = false := decide_eq_false (by rw [uq] at h; omega)
  have HM := hide h
  cases neg
  ·
   have e1 : IntKind.i64.wrap (m : Int) = (m : Int) := IntWalk.i64_in _ (by rw [uq] at h; omega)
   clear hm h
   go_enter Tryz.func185, Tryz.ntmps185
   go_wp2
   refine bodyPost_ret (v := .agg #[.int .i64 (m : Int), .bool false, .slice none 0 0]) (by simp [results, Tryz.results185, go_sem]) rfl ⟨(m : Int), false, none, 0, [], rfl, ?_, ?_⟩
   ·
    exact fq.small (by have := HM.out; simpa using this)
   ·
    exact (Below.refl _ _).alloc (Nat.le_refl _) _
  ·
   have e1 : IntKind.i64.wrap (m : Int) = (m : Int) := IntWalk.i64_in _ (by rw [uq] at h; omega)
   have e2 : wrap64 (-(m : Int)) = -(m : Int) := IntWalk.wrap64_in _ ⟨by rw [uq] at h; omega, by omega⟩
   clear hm h
   go_enter Tryz.func185, Tryz.ntmps185
   go_wp2
   refine bodyPost_ret (v := .agg #[.int .i64 (-(m : Int)), .bool false, .slice none 0 0]) (by simp [results, Tryz.results185, go_sem]) rfl ⟨-(m : Int), false, none, 0, [], rfl, ?_, ?_⟩
   ·
    exact fq.small (by have := HM.out; simpa using this)
   ·
    exact (Below.refl _ _).alloc (Nat.le_refl _) _

theorem zm (n : Int) (h1 : -9223372036854775808 ≤ n) (h2 : n ≤ 9223372036854775807) (w : World) :
  Calls Tryz.prog 137 #[.int .i64 n] w fun e w' => Bq w n e w' := by
 have hs := Jd n h1 h2
 have hw : ∀ W, Calls Tryz.prog 185 #[.bool (decide (n < 0)), .int .u64 ((n.natAbs : Nat) : Int)] W fun e w' => Bq W n e w' := fun W => by
  have := Qb (decide (n < 0)) n.natAbs (by rw [gp]; omega) W
  rwa [show (if decide (n < 0) = true then -((n.natAbs : Nat) : Int) else ((n.natAbs : Nat) : Int)) = n by by_cases h : n < 0 <;> simp [h] <;> omega] at this
 have HS := hide hs; have HW := hide hw
 clear hs hw h1 h2
 by_cases hn : n < 0
 all_goals
  have hd : decide (n < 0) = decide (n < 0) := rfl
  first
   | rw [decide_eq_true hn] at HW
   | rw [decide_eq_false hn] at HW
  clear hd
  go_enter Tryz.func137, Tryz.ntmps137
  go_wp2_with fail
  refine ((aa HS) _).mono ?_
  rintro e w1 ⟨rfl, rfl⟩
  go_wp2_with fail
  refine ((aa HW) _).mono ?_
  rintro e w2 ⟨s, neg, A, cap, l, rfl, hf, hb⟩
  obtain ⟨hc, hfz⟩ := dz hb
  have hsz : w.heap.size < w2.heap.size := by have := hb.size; simp at this; omega
  have hblk : w2.heap[w.heap.size]? = some (.cells #[.int .i64 0, .bool false, .slice none 0 0] 77 (0, 0)) := (hb.block _ (by simp)).trans (heap_alloc_new w _)
  have jy := Lib.hid hblk
  clear hblk
  go_wp2_with fail
  exact bodyPost_ret (v := .agg #[.int .i64 s, .bool neg, .slice A l.length cap]) (by simp [results, Tryz.results137, go_sem, hc, hsz]) rfl
   ⟨s, neg, A, cap, l, rfl, hf.upto jy.out (si _ _ _ _ _) (ik _ _ _ _ _), (((Below.refl _ _).alloc (Nat.le_refl _) _).trans (hb.mono (by simp))).grown (ik _ _ _ _ _) om (fun k hk => by injection hk with hk; omega)⟩

def lh (z : Int) : Int := if z < 0 then -1 else if 0 < z then 1 else 0

theorem ace (x y : Int) (w : World) :
  Calls Tryz.prog 193 #[.int .i64 x, .int .i64 y] w fun e w' => e = .returned (.int .i64 (lh (x - y))) ∧ w' = w := by
 go_enter Tryz.func193, Tryz.ntmps193
 go_wp2
 ·
  have h : x < y := by assumption
  go_ret
  exact ⟨rf (by unfold lh; rw [if_pos om]), rfl⟩
 ·
  have h : y < x := by assumption
  go_ret
  exact ⟨rf (by unfold lh; rw [if_neg om, if_pos om]), rfl⟩
 ·
  have h1 : y ≤ x := by assumption
  have h2 : x ≤ y := by assumption
  go_ret
  exact ⟨rf (by unfold lh; rw [if_neg om, if_neg om]), rfl⟩

theorem fq.bounds {w : World} {s : Int} {neg : Bool} {A : Option Addr} {cap : Nat} {l : List Nat} {z : Int} (h : fq w s neg A cap l z) : -9223372036854775808 ≤ s ∧ s ≤ 9223372036854775807 := by
 rcases h.form with ⟨_, _, rfl, h⟩ | ⟨_, rfl, _⟩
 ·
  rw [uq] at h; omega
 ·
  omega

theorem Ck (s : Int) (neg : Bool) (A : Option Addr) (cap : Nat) (l : List Nat) (z : Int) (w : World) (h : fq w s neg A cap l z) :
  Calls Tryz.prog 191 #[.agg #[.int .i64 s, .bool neg, .slice A l.length cap]] w fun e w' => Eb w z.natAbs e w' := by
 have hsm := fun W => qi s neg A cap l.length W
 have Du := hide hsm
 clear hsm
 rcases h.form with ⟨h1, h2, h3, h4⟩ | ⟨h1, h2, h3, h4, h5⟩
 ·
  rw [decide_eq_true h1] at Du
  have hb := h.bounds
  have Ry := hide (fun W => Jd s hb.1 hb.2 W)
  have Gi : z.natAbs < dm := by rw [uq] at h4; rw [gp]; omega
  rw [h3] at Ry
  obtain ⟨a, ha⟩ : ∃ a, a = z.natAbs := ⟨_, rfl⟩
  rw [← ha] at Ry Gi ⊢
  have HZB := hide Gi
  subst h3
  clear hb Gi h1 h2 h4 h ha
  go_enter Tryz.func191, Tryz.ntmps191
  go_wp2_with fail
  refine ((aa Du) _).mono ?_
  rintro e w1 ⟨rfl, rfl⟩
  go_wp2_with fail
  refine ((aa Ry) _).mono ?_
  rintro e w1 ⟨rfl, rfl⟩
  go_wp2_with fail
  refine (Tj _ (aa HZB) _).mono ?_
  rintro e w2 ⟨A', cap', l', rfl, hn, hb⟩
  go_wp2_with fail
  go_ret
  exact ⟨A', cap', l', rfl, hn, (((Below.refl _ _).alloc (Nat.le_refl _) _).alloc (by simp) _).trans (hb.mono (by simp; omega))⟩
 ·
  rw [decide_eq_false om] at Du
  obtain ⟨n, hn⟩ := h.nat
  have hnz : n = z.natAbs := by rw [← h4, hn.val]
  subst hnz
  have HN := hide hn
  clear h1 h2 h3 h4 h5 h hn
  go_enter Tryz.func191, Tryz.ntmps191
  go_wp2_with fail
  refine ((aa Du) _).mono ?_
  rintro e w1 ⟨rfl, rfl⟩
  go_wp2_with fail
  go_ret
  exact ⟨A, cap, l, rfl, (aa HN).below (((Below.refl _ _).alloc (Nat.le_refl _) _).alloc (by simp) _), ((Below.refl _ _).alloc (Nat.le_refl _) _).alloc (by simp) _⟩

theorem ve (s : Int) (neg : Bool) (A : Option Addr) (cap : Nat) (l : List Nat) (z : Int) (w : World) (h : fq w s neg A cap l z) :
  Calls Tryz.prog 159 #[.agg #[.int .i64 s, .bool neg, .slice A l.length cap]] w fun e w' => e = .returned (.int .i64 (lh z)) ∧ Below w.heap.size w w' := by
 have Du := hide (fun W => qi s neg A cap l.length W)
 rcases h.form with ⟨h1, h2, h3, h4⟩ | ⟨h1, h2, h3, h4, h5⟩
 ·
  rw [decide_eq_true h1] at Du
  have HC := hide (fun W => ace z 0 W)
  rw [Int.sub_zero] at HC
  subst h3
  clear h1 h2 h4 h
  go_enter Tryz.func159, Tryz.ntmps159
  go_wp2_with fail
  refine ((aa Du) _).mono ?_
  rintro e w1 ⟨rfl, rfl⟩
  go_wp2_with fail
  refine ((aa HC) _).mono ?_
  rintro e w1 ⟨rfl, rfl⟩
  go_wp2_with fail
  go_ret
  exact ⟨rfl, ((Below.refl _ _).alloc (Nat.le_refl _) _).alloc (by simp) _⟩
 ·
  rw [decide_eq_false om] at Du
  have hs : lh z = if neg = true then -1 else 1 := by
   unfold lh; rw [h3]; rw [uq] at h5
   by_cases hz : z < 0
   ·
    simp [hz]
   ·
    simp [hz]; omega
  have HO := hide (fun W => Nq neg W)
  cases neg
  all_goals
   simp only [Bool.false_eq_true, if_false, if_true] at hs HO
   have HS := Lib.hid hs
   clear h1 h2 h3 h4 h5 h hs
   go_enter Tryz.func159, Tryz.ntmps159
   go_wp2_with fail
   refine ((aa Du) _).mono ?_
   rintro e w1 ⟨rfl, rfl⟩
   go_wp2_with fail
   refine ((aa HO) _).mono ?_
   rintro e w1 ⟨rfl, rfl⟩
   go_wp2_with fail
   go_ret
   exact ⟨rf HS.out.symm, ((Below.refl _ _).alloc (Nat.le_refl _) _).alloc (by simp) _⟩

theorem Vd (s : Int) (neg : Bool) (A : Option Addr) (cap : Nat) (l : List Nat) (z : Int) (w : World) (h : fq w s neg A cap l z) :
  Calls Tryz.prog 160 #[.agg #[.int .i64 s, .bool neg, .slice A l.length cap]] w fun e w' => Bq w (-z) e w' := by
 have Du := hide (fun W => qi s neg A cap l.length W)
 rcases h.form with ⟨h1, h2, h3, h4⟩ | ⟨h1, h2, h3, h4, h5⟩
 ·
  rw [decide_eq_true h1] at Du
  subst h3
  have e1 : wrap64 (-s) = -s := IntWalk.wrap64_in _ (by rw [uq] at h4; omega)
  have H4 := hide h4
  clear h1 h2 h4 h
  go_enter Tryz.func160, Tryz.ntmps160
  go_wp2_with fail
  refine ((aa Du) _).mono ?_
  rintro e w1 ⟨rfl, rfl⟩
  go_wp2_with fail
  refine bodyPost_ret (v := .agg #[.int .i64 (-s), .bool false, .slice none 0 0]) (by simp [results, Tryz.results160, go_sem]) rfl ⟨-s, false, none, 0, [], rfl, fq.small (by have := aa H4; simpa using this), ?_⟩
  exact (((Below.refl _ _).alloc (Nat.le_refl _) _).alloc (by simp) _).alloc (by simp; omega) _
 ·
  rw [decide_eq_false om] at Du
  have hf : fq w 0 (!neg) A cap l (-z) := by
   refine ⟨h.nat, .inr ⟨h1, rfl, ?_, by rw [h4]; simp, by simpa using h5⟩⟩
   rw [h3]; rw [uq] at h5
   by_cases hz : z < 0
   ·
    simp [hz]; omega
   ·
    simp [hz]; omega
  have H := hide hf
  clear h1 h2 h3 h4 h5 h hf
  go_enter Tryz.func160, Tryz.ntmps160
  go_wp2_with fail
  refine ((aa Du) _).mono ?_
  rintro e w1 ⟨rfl, rfl⟩
  go_wp2_with fail
  refine bodyPost_ret (v := .agg #[.int .i64 0, .bool (!neg), .slice A l.length cap]) (by simp [results, Tryz.results160, go_sem]) rfl ⟨0, !neg, A, cap, l, rfl, ?_, ?_⟩
  ·
   exact (aa H).below ((((Below.refl _ _).alloc (Nat.le_refl _) _).alloc (by simp) _).alloc (by simp; omega) _)
  ·
   exact (((Below.refl _ _).alloc (Nat.le_refl _) _).alloc (by simp) _).alloc (by simp; omega) _

theorem zu (s : Int) (neg : Bool) (A : Option Addr) (cap n : Nat) (w : World) :
  Calls Tryz.prog 140 #[.agg #[.int .i64 s, .bool neg, .slice A n cap]] w fun e w' => e = .returned (.tuple #[.int .i64 s, .bool (decide (n = 0))]) ∧ Below w.heap.size w w' := by
 have Du := hide (fun W => qi s neg A cap n W)
 go_enter Tryz.func140, Tryz.ntmps140
 go_wp2_with fail
 go_region_with (go_at_call 188; refine ((aa Du) _).mono ?_; rintro e w' ⟨rfl, rfl⟩)
 all_goals
  go_wp2_with fail
  go_ret2
  refine ⟨rfl, ?_⟩
  repeat (first | exact Below.refl _ _ | refine Below.drew ?_ | (refine Below.alloc ?_ (by simp <;> omega) _))

theorem bz {w W w' : World} (h : Below w.heap.size w W) (hb : Below W.heap.size W w') : Below w.heap.size w w' := h.trans (hb.mono h.size)

theorem bg {w W w' : World} (h : Below w.heap.size w W) (hb : Below W.heap.size W w') : Below w.heap.size w w' := h.trans (hb.mono h.size)

theorem ahz {w : World} {A : Option Addr} {cap : Nat} {l : List Nat} {n : Nat} (h : ku w A cap l n) (hl : 1 < l.length) (neg : Bool) : fq w 0 neg A cap l (if neg then -(n : Int) else (n : Int)) := by
 have h1 := Wd.Vb (B := dm) l h.norm (by rintro rfl; simp at hl)
 have h2 : dm ^ 1 ≤ dm ^ (l.length - 1) := Nat.pow_le_pow_right (Nat.lt_trans Nat.zero_lt_one pz) om
 rw [h.val, ] at h1
 rw [Nat.pow_one] at h2
 have h3 : Iq ≤ n ∧ 0 < n := by
  have : Iq ≤ dm := by rw [uq, gp]; omega
  have : 0 < dm := Nat.lt_trans Nat.zero_lt_one pz
  omega
 refine ⟨⟨n, h⟩, .inr ⟨by omega, rfl, ?_, ?_, ?_⟩⟩
 ·
  cases neg <;> simp <;> omega
 ·
  rw [h.val]; cases neg <;> simp
 ·
  cases neg <;> simp <;> exact h3.1

theorem yg (neg : Bool) (A : Option Addr) (cap : Nat) (l : List Nat) (n : Nat) (w : World) (h : ku w A cap l n) :
  Calls Tryz.prog 190 #[.bool neg, .slice A l.length cap] w fun e w' => Bq w (if neg then -(n : Int) else (n : Int)) e w' := by
 have hc1 := h.ru; have hc2 := h.cap2
 by_cases hl : 1 < l.length
 ·
  have b1 : decide ((1 : Int) < (l.length : Int)) = true := decide_eq_true om
  have hf := ahz h hl neg
  obtain ⟨z, hz⟩ : ∃ z, z = if neg then -(n : Int) else (n : Int) := ⟨_, rfl⟩
  rw [← hz] at hf ⊢
  have HF := hide hf
  clear hf hz hl h
  go_enter Tryz.func190, Tryz.ntmps190
  go_wp2_with fail
  exact bodyPost_ret (v := .agg #[.int .i64 0, .bool neg, .slice A l.length cap]) (by simp [results, Tryz.results190, go_sem]) rfl ⟨0, neg, A, cap, l, rfl, (aa HF).below ((Below.refl _ _).alloc (Nat.le_refl _) _), (Below.refl _ _).alloc (Nat.le_refl _) _⟩
 ·
  have b1 : decide ((1 : Int) < (l.length : Int)) = false := decide_eq_false om
  obtain ⟨e1, e2⟩ := aak h om
  have hlim := fun W (hW : Below w.heap.size w W) => Jg A cap l W.heap.size 0 W (h.below hW).ws hc1 hc2 om
  rw [e1] at hlim
  have HL := hide hlim
  have HW := hide (fun W => Qb neg n e2 W)
  obtain ⟨z, hz⟩ : ∃ z, z = if neg then -(n : Int) else (n : Int) := ⟨_, rfl⟩
  rw [← hz] at HW ⊢
  clear hz hl h e1 e2 hlim
  go_enter Tryz.func190, Tryz.ntmps190
  go_wp2_with fail
  refine ((aa HL) _ ((Below.refl _ _).alloc (Nat.le_refl _) _)).mono ?_
  rintro e w1 ⟨rfl, rfl⟩
  go_wp2_with fail
  refine ((aa HW) _).mono ?_
  rintro e w2 ⟨s, oz, A', cap', l', rfl, hf, hb⟩
  obtain ⟨hc, hfz⟩ := dz hb
  have hsz : w.heap.size < w2.heap.size := by have := hb.size; simp at this; omega
  have hblk : w2.heap[w.heap.size]? = some (.cells #[.int .i64 0, .bool false, .slice none 0 0] 77 (0, 0)) := (hb.block _ (by simp)).trans (heap_alloc_new w _)
  have jy := Lib.hid hblk
  clear hblk
  go_wp2_with fail
  exact bodyPost_ret (v := .agg #[.int .i64 s, .bool oz, .slice A' l'.length cap']) (by simp [results, Tryz.results190, go_sem, hc, hsz]) rfl
   ⟨s, oz, A', cap', l', rfl, hf.upto jy.out (si _ _ _ _ _) (ik _ _ _ _ _), (((Below.refl _ _).alloc (Nat.le_refl _) _).trans (hb.mono (by simp))).grown (ik _ _ _ _ _) om (fun k hk => by injection hk with hk; omega)⟩

theorem fq.zh {w : World} {s : Int} {neg : Bool} {A : Option Addr} {cap : Nat} {l : List Nat} {z : Int} (h : fq w s neg A cap l z) (hl : l.length = 0) : s = z ∧ neg = false ∧ z.natAbs < Iq := by
 rcases h.form with ⟨_, h1, h2, h3⟩ | ⟨h1, _⟩
 ·
  exact ⟨h2, h1, h3⟩
 ·
  omega

theorem avq (x y : Int) (w : World) :
  Calls Tryz.prog 194 #[.int .i64 x, .int .i64 y] w fun e w' => e = .returned (.int .i64 (lh (x - y))) ∧ w' = w := by
 go_enter Tryz.func194, Tryz.ntmps194
 go_wp2
 ·
  have h : x < y := by assumption
  go_ret
  exact ⟨rf (by unfold lh; rw [if_pos om]), rfl⟩
 ·
  have h : y < x := by assumption
  go_ret
  exact ⟨rf (by unfold lh; rw [if_neg om, if_pos om]), rfl⟩
 ·
  have h1 : y ≤ x := by assumption
  have h2 : x ≤ y := by assumption
  go_ret
  exact ⟨rf (by unfold lh; rw [if_neg om, if_neg om]), rfl⟩

theorem qw (w : World) (o1 o2 : Obj) : ((w.alloc o1).alloc o2).heap[w.heap.size]? = some o1 ∧ ((w.alloc o1).alloc o2).heap[w.heap.size + 1]? = some o2 ∧ ((w.alloc o1).alloc o2).heap.size = w.heap.size + 2 ∧ Below w.heap.size w ((w.alloc o1).alloc o2) := by
 refine ⟨(Below.heap_alloc _ _ _ (by simp)).trans (heap_alloc_new w o1), ?_, by simp, ((Below.refl _ _).alloc (Nat.le_refl _) _).alloc (by simp) _⟩
 have := heap_alloc_new (w.alloc o1) o2
 rwa [World.size_alloc] at this
theorem oh (w : World) (o1 o2 o3 : Obj) : (((w.alloc o1).alloc o2).alloc o3).heap[w.heap.size]? = some o1 ∧ (((w.alloc o1).alloc o2).alloc o3).heap[w.heap.size + 1]? = some o2 ∧ (((w.alloc o1).alloc o2).alloc o3).heap[w.heap.size + 1 + 1]? = some o3 ∧ (((w.alloc o1).alloc o2).alloc o3).heap.size = w.heap.size + 3 ∧ Below w.heap.size w (((w.alloc o1).alloc o2).alloc o3) := by
 obtain ⟨h1, h2, h3, h4⟩ := qw w o1 o2
 refine ⟨(Below.heap_alloc _ _ _ om).trans h1, (Below.heap_alloc _ _ _ om).trans h2, ?_, by simp, h4.alloc om _⟩
 have := heap_alloc_new ((w.alloc o1).alloc o2) o3
 rwa [h3] at this
theorem ag {w : World} {b : Nat} {cs : Array Value} {T : TypeId} {fr : Nat × Nat} (h : w.heap[b]? = some (.cells cs T fr)) (i : Nat) : w.cell? ⟨b, i, none⟩ = cs[i]? := by
 simp [World.cell?, h]
theorem jd (a b c : Value) : #[a, b, c][0]? = some a := rfl
theorem jc (a b c : Value) : #[a, b, c][1]? = some b := rfl
theorem jb (a b c : Value) : #[a, b, c][2]? = some c := rfl

theorem aic {z1 z2 : Int} (h : lh z1 = lh z2) : lh z1 * rq z1.natAbs z2.natAbs = lh (z1 - z2) := by
 unfold lh rq at *
 by_cases a1 : z1 < 0 <;> by_cases a2 : z2 < 0 <;> by_cases a3 : 0 < z1 <;> by_cases a4 : 0 < z2 <;> simp only [a1, a2, a3, a4, if_true, if_false] at h ⊢ <;> try omega
 all_goals
  (repeat' split) <;> omega
theorem azi {z1 z2 : Int} (h : lh z1 ≠ lh z2) : lh (lh z1 - lh z2) = lh (z1 - z2) := by
 unfold lh at *
 by_cases a1 : z1 < 0 <;> by_cases a2 : z2 < 0 <;> by_cases a3 : 0 < z1 <;> by_cases a4 : 0 < z2 <;> simp only [a1, a2, a3, a4, if_true, if_false] at h ⊢ <;> first | omega | ((repeat' split) <;> omega)

theorem auf (s1 : Int) (cz : Bool) (A1 : Option Addr) (c1 : Nat) (l1 : List Nat) (z1 : Int) (s2 : Int) (cu : Bool) (A2 : Option Addr) (c2 : Nat) (l2 : List Nat) (z2 : Int) (w : World)
  (h1 : fq w s1 cz A1 c1 l1 z1) (h2 : fq w s2 cu A2 c2 l2 z2) :
  Calls Tryz.prog 148 #[.agg #[.int .i64 s1, .bool cz, .slice A1 l1.length c1], .agg #[.int .i64 s2, .bool cu, .slice A2 l2.length c2]] w fun e w' => e = .returned (.int .i64 (lh (z1 - z2))) ∧ Below w.heap.size w w' := by
 have nz := hide (fun W => qi s1 cz A1 c1 l1.length W)
 have HS2 := hide (fun W => qi s2 cu A2 c2 l2.length W)
 by_cases hs : l1.length = 0 ∧ l2.length = 0
 ·
  obtain ⟨a1, a2⟩ := hs
  rw [decide_eq_true a1] at nz
  rw [decide_eq_true a2] at HS2
  have e1 := (h1.zh a1).1
  have e2 := (h2.zh a2).1
  subst e1 e2
  have HC := hide (fun W => ace s1 s2 W)
  clear a1 a2 h1 h2
  go_enter Tryz.func148, Tryz.ntmps148
  go_wp2_with fail
  refine ((aa nz) _).mono ?_
  rintro e w1 ⟨rfl, rfl⟩
  go_wp2_with fail
  refine ((aa HS2) _).mono ?_
  rintro e w1 ⟨rfl, rfl⟩
  go_wp2_with fail
  refine ((aa HC) _).mono ?_
  rintro e w1 ⟨rfl, rfl⟩
  go_wp2_with fail
  go_ret
  refine ⟨rfl, ?_⟩
  repeat (first | exact Below.refl _ _ | refine Below.drew ?_ | (refine Below.alloc ?_ (by simp <;> omega) _))
 ·
  have hcase : (decide (l1.length = 0) = false) ∨ (decide (l1.length = 0) = true ∧ decide (l2.length = 0) = false) := by
   by_cases h : l1.length = 0
   ·
    exact .inr ⟨decide_eq_true h, decide_eq_false om⟩
   ·
    exact .inl (decide_eq_false h)
  by_cases hsg : lh z1 = lh z2
  ·
   have hne : (lh z1 != lh z2) = false := by rw [hsg]; simp
   have hsub := aic hsg
   have G1 : ∀ W0, Below w.heap.size w W0 → Hid (∀ W, Below W0.heap.size W0 W → Calls Tryz.prog 159 #[.agg #[.int .i64 s1, .bool cz, .slice A1 l1.length c1]] W fun e w' => e = .returned (.int .i64 (lh z1)) ∧ Below W.heap.size W w') := fun W0 h0 W hW => ve s1 cz A1 c1 l1 z1 W (fq.below h1 (bg h0 hW))
   have G2 : ∀ W0, Below w.heap.size w W0 → Hid (∀ W, Below W0.heap.size W0 W → Calls Tryz.prog 159 #[.agg #[.int .i64 s2, .bool cu, .slice A2 l2.length c2]] W fun e w' => e = .returned (.int .i64 (lh z2)) ∧ Below W.heap.size W w') := fun W0 h0 W hW => ve s2 cu A2 c2 l2 z2 W (fq.below h2 (bg h0 hW))
   have B1 : ∀ W0, Below w.heap.size w W0 → Hid (∀ W, Below W0.heap.size W0 W → Calls Tryz.prog 191 #[.agg #[.int .i64 s1, .bool cz, .slice A1 l1.length c1]] W fun e w' => Eb W z1.natAbs e w') := fun W0 h0 W hW => Ck s1 cz A1 c1 l1 z1 W (fq.below h1 (bg h0 hW))
   have B2 : ∀ W0, Below w.heap.size w W0 → Hid (∀ W, Below W0.heap.size W0 W → Calls Tryz.prog 191 #[.agg #[.int .i64 s2, .bool cu, .slice A2 l2.length c2]] W fun e w' => Eb W z2.natAbs e w') := fun W0 h0 W hW => Ck s2 cu A2 c2 l2 z2 W (fq.below h2 (bg h0 hW))
   have ho : -1 ≤ lh z1 * rq z1.natAbs z2.natAbs ∧ lh z1 * rq z1.natAbs z2.natAbs ≤ 1 := by rw [hsub]; unfold lh; (repeat' split) <;> omega
   obtain ⟨m1, hn1⟩ : ∃ o, o = z1.natAbs := ⟨_, rfl⟩
   obtain ⟨m2, hn2⟩ : ∃ o, o = z2.natAbs := ⟨_, rfl⟩
   obtain ⟨o1, ho1⟩ : ∃ o, o = lh z1 := ⟨_, rfl⟩
   obtain ⟨o2, ho2⟩ : ∃ o, o = lh z2 := ⟨_, rfl⟩
   rw [← ho1] at G1 hne hsub ho
   rw [← ho2] at G2 hne
   rw [← hn1] at B1 hsub ho
   rw [← hn2] at B2 hsub ho
   obtain ⟨od, hod⟩ : ∃ o, o = rq m1 m2 := ⟨_, rfl⟩
   rw [← hod] at hsub ho
   have e1 : IntKind.i64.wrap (o1 * od) = o1 * od := IntWalk.i64_in _ om
   have Ul := Lib.hid hsub; have HOD := Lib.hid hod
   have Cb := hide G1; have HG2 := hide G2; have HB1 := hide B1; have HB2 := hide B2
   clear hsg ho1 ho2 hsub hs G1 G2 B1 B2 h1 h2 hn1 hn2 hod ho
   rcases hcase with hc1 | ⟨hc1, hc2⟩
   ·
    rw [hc1] at nz
    clear hc1
    go_enter Tryz.func148, Tryz.ntmps148
    go_wp2_with fail
    obtain ⟨n1, n2, hsz, hw0⟩ := qw w (.cells #[.int .i64 s1, .bool cz, .slice A1 l1.length c1] 77) (.cells #[.int .i64 s2, .bool cu, .slice A2 l2.length c2] 77)
    generalize (((w.alloc (.cells #[.int .i64 s1, .bool cz, .slice A1 l1.length c1] 77)).alloc (.cells #[.int .i64 s2, .bool cu, .slice A2 l2.length c2] 77))) = W0 at *
    have k1 := ag n1 0
    have k2 := ag n1 1
    have k3 := ag n1 2
    simp only [Array.getElem?_eq_getElem, jd, jc, jb] at k1 k2 k3
    have k4 := ag n2 0
    have k5 := ag n2 1
    have k6 := ag n2 2
    simp only [Array.getElem?_eq_getElem, jd, jc, jb] at k4 k5 k6
    have q0 : w.heap.size < W0.heap.size := by omega
    have q1 : w.heap.size + 1 < W0.heap.size := by omega
    refine ((aa nz) _).mono ?_
    rintro e w1 ⟨rfl, hw1⟩
    have hbw : Below W0.heap.size W0 w1 := by rw [hw1]; exact (Below.refl _ _).alloc (Nat.le_refl _) _
    obtain ⟨hc, hfz⟩ := dz hbw
    clear hw1
    go_wp2_with fail
    have G1 := (aa Cb) W0 hw0; have G2 := (aa HG2) W0 hw0; have B1 := (aa HB1) W0 hw0; have B2 := (aa HB2) W0 hw0
    go_region_held3 (fun w' => w'.cell? ⟨w.heap.size, 0, none⟩ = some (.int .i64 s1) ∧ w'.cell? ⟨w.heap.size, 1, none⟩ = some (.bool cz) ∧ w'.cell? ⟨w.heap.size, 2, none⟩ = some (.slice A1 l1.length c1) ∧ w'.cell? ⟨w.heap.size + 1, 0, none⟩ = some (.int .i64 s2) ∧ w'.cell? ⟨w.heap.size + 1, 1, none⟩ = some (.bool cu) ∧ w'.cell? ⟨w.heap.size + 1, 2, none⟩ = some (.slice A2 l2.length c2)) ((first | exact ⟨(hc _ _ q0).trans k1, (hc _ _ q0).trans k2, (hc _ _ q0).trans k3, (hc _ _ q1).trans k4, (hc _ _ q1).trans k5, (hc _ _ q1).trans k6⟩ | exact ⟨k1, k2, k3, k4, k5, k6⟩)) (first | (go_at_call_of 159 (Value.agg #[.int .i64 s1, .bool cz, .slice A1 l1.length c1]); refine ((aa G1) _ bem).mono ?_; rintro e w' ⟨rfl, hb⟩; have hbw := bz (w := W0) bem hb; obtain ⟨hc, hfz⟩ := dz hbw) | (go_at_call_of 159 (Value.agg #[.int .i64 s2, .bool cu, .slice A2 l2.length c2]); refine ((aa G2) _ bem).mono ?_; rintro e w' ⟨rfl, hb⟩; have hbw := bz (w := W0) bem hb; obtain ⟨hc, hfz⟩ := dz hbw))
    go_wp2_with fail
    go_region_held3 (fun w' => w'.cell? ⟨w.heap.size, 0, none⟩ = some (.int .i64 s1) ∧ w'.cell? ⟨w.heap.size, 1, none⟩ = some (.bool cz) ∧ w'.cell? ⟨w.heap.size, 2, none⟩ = some (.slice A1 l1.length c1) ∧ w'.cell? ⟨w.heap.size + 1, 0, none⟩ = some (.int .i64 s2) ∧ w'.cell? ⟨w.heap.size + 1, 1, none⟩ = some (.bool cu) ∧ w'.cell? ⟨w.heap.size + 1, 2, none⟩ = some (.slice A2 l2.length c2)) ((first | exact ⟨(hc _ _ q0).trans k1, (hc _ _ q0).trans k2, (hc _ _ q0).trans k3, (hc _ _ q1).trans k4, (hc _ _ q1).trans k5, (hc _ _ q1).trans k6⟩ | exact ⟨k1, k2, k3, k4, k5, k6⟩)) (first | (go_at_call_of 159 (Value.agg #[.int .i64 s1, .bool cz, .slice A1 l1.length c1]); refine ((aa G1) _ bem).mono ?_; rintro e w' ⟨rfl, hb⟩; have hbw := bz (w := W0) bem hb; obtain ⟨hc, hfz⟩ := dz hbw) | (go_at_call_of 159 (Value.agg #[.int .i64 s2, .bool cu, .slice A2 l2.length c2]); refine ((aa G2) _ bem).mono ?_; rintro e w' ⟨rfl, hb⟩; have hbw := bz (w := W0) bem hb; obtain ⟨hc, hfz⟩ := dz hbw) | (go_at_call_of 191 (Value.agg #[.int .i64 s1, .bool cz, .slice A1 l1.length c1]); refine ((aa B1) _ bem).mono ?_; rintro e w' ⟨A5, cap5, l5, rfl, xc, hb⟩; have hbw := bz (w := W0) bem hb; obtain ⟨hc, hfz⟩ := dz hbw) | (go_at_call_of 191 (Value.agg #[.int .i64 s2, .bool cu, .slice A2 l2.length c2]); refine ((aa B2) _ bem).mono ?_; rintro e w' ⟨A6, cap6, l6, rfl, mq, hb⟩; have jl := xc.below hb; have hbw := bz (w := W0) bem hb; obtain ⟨hc, hfz⟩ := dz hbw) | (go_at_call 195; refine (Jl A5 A6 cap5 cap6 l5 l6 m1 m2 _ (by exact jl) (by exact mq)).mono ?_; rintro e w' ⟨rfl, kd, hw3⟩; subst hw3; rw [← HOD.out]))
    go_wp2_with fail
    go_ret
    exact ⟨rf Ul.out, bg hw0 (mi bem _)⟩
   ·
    rw [hc1] at nz
    rw [hc2] at HS2
    clear hc1 hc2
    go_enter Tryz.func148, Tryz.ntmps148
    go_wp2_with fail
    obtain ⟨n1, n2, hsz, hw0⟩ := qw w (.cells #[.int .i64 s1, .bool cz, .slice A1 l1.length c1] 77) (.cells #[.int .i64 s2, .bool cu, .slice A2 l2.length c2] 77)
    generalize (((w.alloc (.cells #[.int .i64 s1, .bool cz, .slice A1 l1.length c1] 77)).alloc (.cells #[.int .i64 s2, .bool cu, .slice A2 l2.length c2] 77))) = W0 at *
    have k1 := ag n1 0
    have k2 := ag n1 1
    have k3 := ag n1 2
    simp only [Array.getElem?_eq_getElem, jd, jc, jb] at k1 k2 k3
    have k4 := ag n2 0
    have k5 := ag n2 1
    have k6 := ag n2 2
    simp only [Array.getElem?_eq_getElem, jd, jc, jb] at k4 k5 k6
    have q0 : w.heap.size < W0.heap.size := by omega
    have q1 : w.heap.size + 1 < W0.heap.size := by omega
    refine ((aa nz) _).mono ?_
    rintro e w1 ⟨rfl, hw1⟩
    have hbw : Below W0.heap.size W0 w1 := by rw [hw1]; exact (Below.refl _ _).alloc (Nat.le_refl _) _
    obtain ⟨hc, hfz⟩ := dz hbw
    clear hw1
    go_wp2_with fail
    refine ((aa HS2) _).mono ?_
    rintro e w2 ⟨rfl, hw2⟩
    have hbw2 : Below W0.heap.size W0 w2 := by rw [hw2]; exact hbw.alloc hbw.size _
    clear hc hfz
    obtain ⟨hc, hfz⟩ := dz hbw2
    clear hw2
    go_wp2_with fail
    have G1 := (aa Cb) W0 hw0; have G2 := (aa HG2) W0 hw0; have B1 := (aa HB1) W0 hw0; have B2 := (aa HB2) W0 hw0
    go_region_held3 (fun w' => w'.cell? ⟨w.heap.size, 0, none⟩ = some (.int .i64 s1) ∧ w'.cell? ⟨w.heap.size, 1, none⟩ = some (.bool cz) ∧ w'.cell? ⟨w.heap.size, 2, none⟩ = some (.slice A1 l1.length c1) ∧ w'.cell? ⟨w.heap.size + 1, 0, none⟩ = some (.int .i64 s2) ∧ w'.cell? ⟨w.heap.size + 1, 1, none⟩ = some (.bool cu) ∧ w'.cell? ⟨w.heap.size + 1, 2, none⟩ = some (.slice A2 l2.length c2)) ((first | exact ⟨(hc _ _ q0).trans k1, (hc _ _ q0).trans k2, (hc _ _ q0).trans k3, (hc _ _ q1).trans k4, (hc _ _ q1).trans k5, (hc _ _ q1).trans k6⟩ | exact ⟨k1, k2, k3, k4, k5, k6⟩)) (first | (go_at_call_of 159 (Value.agg #[.int .i64 s1, .bool cz, .slice A1 l1.length c1]); refine ((aa G1) _ bem).mono ?_; rintro e w' ⟨rfl, hb⟩; have hbw := bz (w := W0) bem hb; obtain ⟨hc, hfz⟩ := dz hbw) | (go_at_call_of 159 (Value.agg #[.int .i64 s2, .bool cu, .slice A2 l2.length c2]); refine ((aa G2) _ bem).mono ?_; rintro e w' ⟨rfl, hb⟩; have hbw := bz (w := W0) bem hb; obtain ⟨hc, hfz⟩ := dz hbw))
    go_wp2_with fail
    go_region_held3 (fun w' => w'.cell? ⟨w.heap.size, 0, none⟩ = some (.int .i64 s1) ∧ w'.cell? ⟨w.heap.size, 1, none⟩ = some (.bool cz) ∧ w'.cell? ⟨w.heap.size, 2, none⟩ = some (.slice A1 l1.length c1) ∧ w'.cell? ⟨w.heap.size + 1, 0, none⟩ = some (.int .i64 s2) ∧ w'.cell? ⟨w.heap.size + 1, 1, none⟩ = some (.bool cu) ∧ w'.cell? ⟨w.heap.size + 1, 2, none⟩ = some (.slice A2 l2.length c2)) ((first | exact ⟨(hc _ _ q0).trans k1, (hc _ _ q0).trans k2, (hc _ _ q0).trans k3, (hc _ _ q1).trans k4, (hc _ _ q1).trans k5, (hc _ _ q1).trans k6⟩ | exact ⟨k1, k2, k3, k4, k5, k6⟩)) (first | (go_at_call_of 159 (Value.agg #[.int .i64 s1, .bool cz, .slice A1 l1.length c1]); refine ((aa G1) _ bem).mono ?_; rintro e w' ⟨rfl, hb⟩; have hbw := bz (w := W0) bem hb; obtain ⟨hc, hfz⟩ := dz hbw) | (go_at_call_of 159 (Value.agg #[.int .i64 s2, .bool cu, .slice A2 l2.length c2]); refine ((aa G2) _ bem).mono ?_; rintro e w' ⟨rfl, hb⟩; have hbw := bz (w := W0) bem hb; obtain ⟨hc, hfz⟩ := dz hbw) | (go_at_call_of 191 (Value.agg #[.int .i64 s1, .bool cz, .slice A1 l1.length c1]); refine ((aa B1) _ bem).mono ?_; rintro e w' ⟨A5, cap5, l5, rfl, xc, hb⟩; have hbw := bz (w := W0) bem hb; obtain ⟨hc, hfz⟩ := dz hbw) | (go_at_call_of 191 (Value.agg #[.int .i64 s2, .bool cu, .slice A2 l2.length c2]); refine ((aa B2) _ bem).mono ?_; rintro e w' ⟨A6, cap6, l6, rfl, mq, hb⟩; have jl := xc.below hb; have hbw := bz (w := W0) bem hb; obtain ⟨hc, hfz⟩ := dz hbw) | (go_at_call 195; refine (Jl A5 A6 cap5 cap6 l5 l6 m1 m2 _ (by exact jl) (by exact mq)).mono ?_; rintro e w' ⟨rfl, kd, hw3⟩; subst hw3; rw [← HOD.out]))
    go_wp2_with fail
    go_ret
    exact ⟨rf Ul.out, bg hw0 (mi bem _)⟩
  ·
   have hne : (lh z1 != lh z2) = true := bne_iff_ne.2 hsg
   have hsub := azi hsg
   obtain ⟨o1, ho1⟩ : ∃ o, o = lh z1 := ⟨_, rfl⟩
   obtain ⟨o2, ho2⟩ : ∃ o, o = lh z2 := ⟨_, rfl⟩
   have G1 : ∀ W0, Below w.heap.size w W0 → Hid (∀ W, Below W0.heap.size W0 W → Calls Tryz.prog 159 #[.agg #[.int .i64 s1, .bool cz, .slice A1 l1.length c1]] W fun e w' => e = .returned (.int .i64 (lh z1)) ∧ Below W.heap.size W w') := fun W0 h0 W hW => ve s1 cz A1 c1 l1 z1 W (fq.below h1 (bg h0 hW))
   have G2 : ∀ W0, Below w.heap.size w W0 → Hid (∀ W, Below W0.heap.size W0 W → Calls Tryz.prog 159 #[.agg #[.int .i64 s2, .bool cu, .slice A2 l2.length c2]] W fun e w' => e = .returned (.int .i64 (lh z2)) ∧ Below W.heap.size W w') := fun W0 h0 W hW => ve s2 cu A2 c2 l2 z2 W (fq.below h2 (bg h0 hW))
   rw [← ho1] at G1 hne hsub
   rw [← ho2] at G2 hne hsub
   have Ul := Lib.hid hsub
   have Cb := hide G1; have HG2 := hide G2
   have HCI := hide (fun W => avq o1 o2 W)
   clear hsg ho1 ho2 hsub hs G1 G2 h1 h2
   rcases hcase with hc1 | ⟨hc1, hc2⟩
   ·
    rw [hc1] at nz
    clear hc1
    go_enter Tryz.func148, Tryz.ntmps148
    go_wp2_with fail
    obtain ⟨n1, n2, hsz, hw0⟩ := qw w (.cells #[.int .i64 s1, .bool cz, .slice A1 l1.length c1] 77) (.cells #[.int .i64 s2, .bool cu, .slice A2 l2.length c2] 77)
    generalize (((w.alloc (.cells #[.int .i64 s1, .bool cz, .slice A1 l1.length c1] 77)).alloc (.cells #[.int .i64 s2, .bool cu, .slice A2 l2.length c2] 77))) = W0 at *
    have k1 := ag n1 0
    have k2 := ag n1 1
    have k3 := ag n1 2
    simp only [Array.getElem?_eq_getElem, jd, jc, jb] at k1 k2 k3
    have k4 := ag n2 0
    have k5 := ag n2 1
    have k6 := ag n2 2
    simp only [Array.getElem?_eq_getElem, jd, jc, jb] at k4 k5 k6
    have q0 : w.heap.size < W0.heap.size := by omega
    have q1 : w.heap.size + 1 < W0.heap.size := by omega
    refine ((aa nz) _).mono ?_
    rintro e w1 ⟨rfl, hw1⟩
    have hbw : Below W0.heap.size W0 w1 := by rw [hw1]; exact (Below.refl _ _).alloc (Nat.le_refl _) _
    obtain ⟨hc, hfz⟩ := dz hbw
    clear hw1
    go_wp2_with fail
    have G1 := (aa Cb) W0 hw0; have G2 := (aa HG2) W0 hw0
    go_region_held3 (fun w' => w'.cell? ⟨w.heap.size, 0, none⟩ = some (.int .i64 s1) ∧ w'.cell? ⟨w.heap.size, 1, none⟩ = some (.bool cz) ∧ w'.cell? ⟨w.heap.size, 2, none⟩ = some (.slice A1 l1.length c1) ∧ w'.cell? ⟨w.heap.size + 1, 0, none⟩ = some (.int .i64 s2) ∧ w'.cell? ⟨w.heap.size + 1, 1, none⟩ = some (.bool cu) ∧ w'.cell? ⟨w.heap.size + 1, 2, none⟩ = some (.slice A2 l2.length c2)) ((first | exact ⟨(hc _ _ q0).trans k1, (hc _ _ q0).trans k2, (hc _ _ q0).trans k3, (hc _ _ q1).trans k4, (hc _ _ q1).trans k5, (hc _ _ q1).trans k6⟩ | exact ⟨k1, k2, k3, k4, k5, k6⟩)) (first | (go_at_call_of 159 (Value.agg #[.int .i64 s1, .bool cz, .slice A1 l1.length c1]); refine ((aa G1) _ bem).mono ?_; rintro e w' ⟨rfl, hb⟩; have hbw := bz (w := W0) bem hb; obtain ⟨hc, hfz⟩ := dz hbw) | (go_at_call_of 159 (Value.agg #[.int .i64 s2, .bool cu, .slice A2 l2.length c2]); refine ((aa G2) _ bem).mono ?_; rintro e w' ⟨rfl, hb⟩; have hbw := bz (w := W0) bem hb; obtain ⟨hc, hfz⟩ := dz hbw))
    go_wp2_with fail
    go_region_held3 (fun w' => w'.cell? ⟨w.heap.size, 0, none⟩ = some (.int .i64 s1) ∧ w'.cell? ⟨w.heap.size, 1, none⟩ = some (.bool cz) ∧ w'.cell? ⟨w.heap.size, 2, none⟩ = some (.slice A1 l1.length c1) ∧ w'.cell? ⟨w.heap.size + 1, 0, none⟩ = some (.int .i64 s2) ∧ w'.cell? ⟨w.heap.size + 1, 1, none⟩ = some (.bool cu) ∧ w'.cell? ⟨w.heap.size + 1, 2, none⟩ = some (.slice A2 l2.length c2)) ((first | exact ⟨(hc _ _ q0).trans k1, (hc _ _ q0).trans k2, (hc _ _ q0).trans k3, (hc _ _ q1).trans k4, (hc _ _ q1).trans k5, (hc _ _ q1).trans k6⟩ | exact ⟨k1, k2, k3, k4, k5, k6⟩)) (first | (go_at_call_of 159 (Value.agg #[.int .i64 s1, .bool cz, .slice A1 l1.length c1]); refine ((aa G1) _ bem).mono ?_; rintro e w' ⟨rfl, hb⟩; have hbw := bz (w := W0) bem hb; obtain ⟨hc, hfz⟩ := dz hbw) | (go_at_call_of 159 (Value.agg #[.int .i64 s2, .bool cu, .slice A2 l2.length c2]); refine ((aa G2) _ bem).mono ?_; rintro e w' ⟨rfl, hb⟩; have hbw := bz (w := W0) bem hb; obtain ⟨hc, hfz⟩ := dz hbw) | (go_at_call 194; refine ((aa HCI) _).mono ?_; rintro e w' ⟨rfl, hw3⟩; subst hw3))
    go_wp2_with fail
    go_ret
    exact ⟨rf Ul.out, bg hw0 bem⟩
   ·
    rw [hc1] at nz
    rw [hc2] at HS2
    clear hc1 hc2
    go_enter Tryz.func148, Tryz.ntmps148
    go_wp2_with fail
    obtain ⟨n1, n2, hsz, hw0⟩ := qw w (.cells #[.int .i64 s1, .bool cz, .slice A1 l1.length c1] 77) (.cells #[.int .i64 s2, .bool cu, .slice A2 l2.length c2] 77)
    generalize (((w.alloc (.cells #[.int .i64 s1, .bool cz, .slice A1 l1.length c1] 77)).alloc (.cells #[.int .i64 s2, .bool cu, .slice A2 l2.length c2] 77))) = W0 at *
    have k1 := ag n1 0
    have k2 := ag n1 1
    have k3 := ag n1 2
    simp only [Array.getElem?_eq_getElem, jd, jc, jb] at k1 k2 k3
    have k4 := ag n2 0
    have k5 := ag n2 1
    have k6 := ag n2 2
    simp only [Array.getElem?_eq_getElem, jd, jc, jb] at k4 k5 k6
    have q0 : w.heap.size < W0.heap.size := by omega
    have q1 : w.heap.size + 1 < W0.heap.size := by omega
    refine ((aa nz) _).mono ?_
    rintro e w1 ⟨rfl, hw1⟩
    have hbw : Below W0.heap.size W0 w1 := by rw [hw1]; exact (Below.refl _ _).alloc (Nat.le_refl _) _
    obtain ⟨hc, hfz⟩ := dz hbw
    clear hw1
    go_wp2_with fail
    refine ((aa HS2) _).mono ?_
    rintro e w2 ⟨rfl, hw2⟩
    have hbw2 : Below W0.heap.size W0 w2 := by rw [hw2]; exact hbw.alloc hbw.size _
    clear hc hfz
    obtain ⟨hc, hfz⟩ := dz hbw2
    clear hw2
    go_wp2_with fail
    have G1 := (aa Cb) W0 hw0; have G2 := (aa HG2) W0 hw0
    go_region_held3 (fun w' => w'.cell? ⟨w.heap.size, 0, none⟩ = some (.int .i64 s1) ∧ w'.cell? ⟨w.heap.size, 1, none⟩ = some (.bool cz) ∧ w'.cell? ⟨w.heap.size, 2, none⟩ = some (.slice A1 l1.length c1) ∧ w'.cell? ⟨w.heap.size + 1, 0, none⟩ = some (.int .i64 s2) ∧ w'.cell? ⟨w.heap.size + 1, 1, none⟩ = some (.bool cu) ∧ w'.cell? ⟨w.heap.size + 1, 2, none⟩ = some (.slice A2 l2.length c2)) ((first | exact ⟨(hc _ _ q0).trans k1, (hc _ _ q0).trans k2, (hc _ _ q0).trans k3, (hc _ _ q1).trans k4, (hc _ _ q1).trans k5, (hc _ _ q1).trans k6⟩ | exact ⟨k1, k2, k3, k4, k5, k6⟩)) (first | (go_at_call_of 159 (Value.agg #[.int .i64 s1, .bool cz, .slice A1 l1.length c1]); refine ((aa G1) _ bem).mono ?_; rintro e w' ⟨rfl, hb⟩; have hbw := bz (w := W0) bem hb; obtain ⟨hc, hfz⟩ := dz hbw) | (go_at_call_of 159 (Value.agg #[.int .i64 s2, .bool cu, .slice A2 l2.length c2]); refine ((aa G2) _ bem).mono ?_; rintro e w' ⟨rfl, hb⟩; have hbw := bz (w := W0) bem hb; obtain ⟨hc, hfz⟩ := dz hbw))
    go_wp2_with fail
    go_region_held3 (fun w' => w'.cell? ⟨w.heap.size, 0, none⟩ = some (.int .i64 s1) ∧ w'.cell? ⟨w.heap.size, 1, none⟩ = some (.bool cz) ∧ w'.cell? ⟨w.heap.size, 2, none⟩ = some (.slice A1 l1.length c1) ∧ w'.cell? ⟨w.heap.size + 1, 0, none⟩ = some (.int .i64 s2) ∧ w'.cell? ⟨w.heap.size + 1, 1, none⟩ = some (.bool cu) ∧ w'.cell? ⟨w.heap.size + 1, 2, none⟩ = some (.slice A2 l2.length c2)) ((first | exact ⟨(hc _ _ q0).trans k1, (hc _ _ q0).trans k2, (hc _ _ q0).trans k3, (hc _ _ q1).trans k4, (hc _ _ q1).trans k5, (hc _ _ q1).trans k6⟩ | exact ⟨k1, k2, k3, k4, k5, k6⟩)) (first | (go_at_call_of 159 (Value.agg #[.int .i64 s1, .bool cz, .slice A1 l1.length c1]); refine ((aa G1) _ bem).mono ?_; rintro e w' ⟨rfl, hb⟩; have hbw := bz (w := W0) bem hb; obtain ⟨hc, hfz⟩ := dz hbw) | (go_at_call_of 159 (Value.agg #[.int .i64 s2, .bool cu, .slice A2 l2.length c2]); refine ((aa G2) _ bem).mono ?_; rintro e w' ⟨rfl, hb⟩; have hbw := bz (w := W0) bem hb; obtain ⟨hc, hfz⟩ := dz hbw) | (go_at_call 194; refine ((aa HCI) _).mono ?_; rintro e w' ⟨rfl, hw3⟩; subst hw3))
    go_wp2_with fail
    go_ret
    exact ⟨rf Ul.out, bg hw0 bem⟩

theorem ai {w : World} {b : Nat} {cs : Array Value} {T : TypeId} (h : w.heap[b]? = some (.cells cs T (0, 0))) (i : Nat) : w.frozen? ⟨b, i, none⟩ = false := by
 simp [World.frozen?, h]

theorem mo {w W w1 : World} {o : Obj} (h : Below w.heap.size w W) (e : w1 = W.alloc o) : Below w.heap.size w w1 := by subst e; exact h.alloc h.size _

theorem aee (z1 z2 : Int) : (if decide (lh z1 * lh z2 < 0) = true then -((z1.natAbs * z2.natAbs : Nat) : Int) else ((z1.natAbs * z2.natAbs : Nat) : Int)) = z1 * z2 := by
 rw [Int.natCast_mul]
 rcases Int.lt_trichotomy z1 0 with a | a | a <;> rcases Int.lt_trichotomy z2 0 with b | b | b
 all_goals
  first
   | (subst a; simp [lh])
   | (subst b; simp [lh])
   | skip
 all_goals
  simp only [lh, a, b, if_true, if_neg (Int.not_lt.2 (Int.le_of_lt a)), if_neg (Int.not_lt.2 (Int.le_of_lt b))]
 ·
  rw [Int.ofNat_natAbs_of_nonpos om, Int.ofNat_natAbs_of_nonpos om]; simp [Int.neg_mul_neg]
 ·
  rw [Int.ofNat_natAbs_of_nonpos om, Int.natAbs_of_nonneg om]; simp [Int.neg_mul]
 ·
  rw [Int.natAbs_of_nonneg om, Int.ofNat_natAbs_of_nonpos om]; simp [Int.mul_neg]
 ·
  rw [Int.natAbs_of_nonneg om, Int.natAbs_of_nonneg om]; simp

theorem fq.Ro {w : World} {s : Int} {neg : Bool} {A : Option Addr} {cap : Nat} {l : List Nat} {z : Int} (h : fq w s neg A cap l z) : z.natAbs < dm ^ (max 1 l.length) := by
 rcases h.form with ⟨h1, _, _, h2⟩ | ⟨h1, _, _, h2, _⟩
 ·
  have : Iq < dm := by rw [uq, gp]; omega
  have h3 : dm ^ 1 ≤ dm ^ (max 1 l.length) := Nat.pow_le_pow_right (Nat.lt_trans Nat.zero_lt_one pz) om
  rw [Nat.pow_one] at h3
  omega
 ·
  obtain ⟨n, hn⟩ := h.nat
  rw [← h2]
  have h3 := Wd.Ae (B := dm) l hn.lt
  have h4 : dm ^ l.length ≤ dm ^ (max 1 l.length) := Nat.pow_le_pow_right (Nat.lt_trans Nat.zero_lt_one pz) om
  omega


theorem fq.Ib {w W : World} {s : Int} {neg : Bool} {A A' : Option Addr} {cap cap' : Nat} {l l' : List Nat} {z : Int} (h : fq w s neg A cap l z) (hl : l.length ≤ lim) (g : ku W A' cap' l' z.natAbs) : l'.length ≤ lim ∧ l'.length + 1 ≤ 35184372088832 := by
 have := g.len h.Ro
 rw [Al] at hl ⊢
 omega

theorem ku.drew {w : World} {A : Option Addr} {cap : Nat} {l : List Nat} {n : Nat} (h : ku w A cap l n) : ku w.drew A cap l n := h.below ((Below.refl _ _).drew)

theorem gu {w : World} {g : Nat} (u0 u1 u2 : Value) (b o : Nat) (h : b ≠ g) : (((w.setCell ⟨g, 0, none⟩ u0).setCell ⟨g, 1, none⟩ u1).setCell ⟨g, 2, none⟩ u2).cell? ⟨b, o, none⟩ = w.cell? ⟨b, o, none⟩ := by
 rw [World.cell?_setCell_other _ _ _ _ (by intro e; injection e with e1; exact h (by first | exact e1 | exact e1.symm)), World.cell?_setCell_other _ _ _ _ (by intro e; injection e with e1; exact h (by first | exact e1 | exact e1.symm)), World.cell?_setCell_other _ _ _ _ (by intro e; injection e with e1; exact h (by first | exact e1 | exact e1.symm))]
theorem Ht (z : Int) : lh z < 0 ↔ z < 0 := by unfold lh; (repeat' split) <;> omega


theorem aue (s1 : Int) (cz : Bool) (A1 : Option Addr) (c1 : Nat) (l1 : List Nat) (z1 : Int) (s2 : Int) (cu : Bool) (A2 : Option Addr) (c2 : Nat) (l2 : List Nat) (z2 : Int) (w : World)
  (h1 : fq w s1 cz A1 c1 l1 z1) (h2 : fq w s2 cu A2 c2 l2 z2) (hl1 : l1.length ≤ lim) (hl2 : l2.length ≤ lim) (hT : qm w) :
  Calls Tryz.prog 164 #[.agg #[.int .i64 s1, .bool cz, .slice A1 l1.length c1], .agg #[.int .i64 s2, .bool cu, .slice A2 l2.length c2]] w fun e w' => Bq w ((z1.natAbs.gcd z2.natAbs : Nat) : Int) e w' := by
 have nz := hide (fun W => qi s1 cz A1 c1 l1.length W)
 have HS2 := hide (fun W => qi s2 cu A2 c2 l2.length W)
 have Pp : ∀ (W : World) (A5 : Option Addr) (c5 : Nat) (l5 : List Nat) (_ : Unit), ku W A5 c5 l5 z1.natAbs → l5.length ≤ lim ∧ l5.length + 1 ≤ 35184372088832 := fun _ _ _ _ _ g => h1.Ib hl1 g
 have Uk : ∀ (W : World) (A5 : Option Addr) (c5 : Nat) (l5 : List Nat) (_ : Unit), ku W A5 c5 l5 z2.natAbs → l5.length ≤ lim ∧ l5.length + 1 ≤ 35184372088832 := fun _ _ _ _ _ g => h2.Ib hl2 g
 have B1 : ∀ W0, Below w.heap.size w W0 → Hid (∀ W, Below W0.heap.size W0 W → Calls Tryz.prog 191 #[.agg #[.int .i64 s1, .bool cz, .slice A1 l1.length c1]] W fun e w' => Eb W z1.natAbs e w') := fun W0 h0 W hW => Ck s1 cz A1 c1 l1 z1 W (fq.below h1 (bg h0 hW))
 have B2 : ∀ W0, Below w.heap.size w W0 → Hid (∀ W, Below W0.heap.size W0 W → Calls Tryz.prog 191 #[.agg #[.int .i64 s2, .bool cu, .slice A2 l2.length c2]] W fun e w' => Eb W z2.natAbs e w') := fun W0 h0 W hW => Ck s2 cu A2 c2 l2 z2 W (fq.below h2 (bg h0 hW))
 have T0 : ∀ W0, Below w.heap.size w W0 → Hid (∀ W, Below W0.heap.size W0 W → qm W) := fun W0 h0 W hW => hT.below (bg h0 hW)
 have Rj := h1.bounds
 have Ri := h2.bounds
 have hsz1 : l1.length = 0 → s1.natAbs = z1.natAbs ∧ z1.natAbs < Iq := fun h => by obtain ⟨e, _, e3⟩ := h1.zh h; rw [e]; exact ⟨rfl, e3⟩
 have hsz2 : l2.length = 0 → s2.natAbs = z2.natAbs ∧ z2.natAbs < Iq := fun h => by obtain ⟨e, _, e3⟩ := h2.zh h; rw [e]; exact ⟨rfl, e3⟩
 have Z1 := hide (fun W => Jd s1 Rj.1 Rj.2 W)
 have Z2 := hide (fun W => Jd s2 Ri.1 Ri.2 W)
 obtain ⟨m1, hm1⟩ : ∃ o, o = z1.natAbs := ⟨_, rfl⟩
 obtain ⟨m2, hm2⟩ : ∃ o, o = z2.natAbs := ⟨_, rfl⟩
 rw [← hm1] at B1 Pp hsz1 ⊢
 rw [← hm2] at B2 Uk hsz2 ⊢
 have HB1 := hide B1; have HB2 := hide B2; have HLEN := hide Pp; have Dc := hide Uk; have Pq := hide T0
 clear hm1 hm2 B1 B2 h1 h2 Rj Ri Pp Uk hl1 hl2 T0 hT
 by_cases hs : l1.length = 0 ∧ l2.length = 0
 ·
  obtain ⟨a1, a2⟩ := hs
  rw [decide_eq_true a1] at nz
  rw [decide_eq_true a2] at HS2
  obtain ⟨y1, y2⟩ := hsz1 a1
  obtain ⟨y3, y4⟩ := hsz2 a2
  rw [y1] at Z1
  rw [y3] at Z2
  have hB1 : m1 < dm := by have := y2; rw [uq] at this; rw [gp]; omega
  have hB2 : m2 < dm := by have := y4; rw [uq] at this; rw [gp]; omega
  have HM := hide (fun W => Nv m1 m2 hB1 hB2 W)
  have hgB : m1.gcd m2 < dm := by
   rcases Nat.eq_zero_or_pos m1 with h | h
   ·
    rw [h, Nat.gcd_zero_left]; exact hB2
   ·
    exact Nat.lt_of_le_of_lt (Nat.gcd_le_left _ h) hB1
  have HW : Hid (∀ W, Calls Tryz.prog 185 #[.bool false, .int .u64 ((m1.gcd m2 : Nat) : Int)] W fun e w' => Bq W ((m1.gcd m2 : Nat) : Int) e w') := hide (fun W => by
   have := Qb false (m1.gcd m2) hgB W
   rw [if_neg Bool.false_ne_true] at this; exact this)
  clear hgB hB1 hB2 y1 y2 y3 y4 hsz1 hsz2 a1 a2
  obtain ⟨g, hg⟩ : ∃ g, g = m1.gcd m2 := ⟨_, rfl⟩
  rw [← hg] at HM HW ⊢
  clear hg
  go_enter Tryz.func164, Tryz.ntmps164
  go_wp2_with fail
  obtain ⟨n1, n2, n3, hsz, hw0⟩ := oh w (.cells #[.int .i64 s1, .bool cz, .slice A1 l1.length c1] 77) (.cells #[.int .i64 s2, .bool cu, .slice A2 l2.length c2] 77) (.cells #[.int .i64 0, .bool false, .slice none 0 0] 77)
  generalize (((w.alloc (.cells #[.int .i64 s1, .bool cz, .slice A1 l1.length c1] 77)).alloc (.cells #[.int .i64 s2, .bool cu, .slice A2 l2.length c2] 77)).alloc (.cells #[.int .i64 0, .bool false, .slice none 0 0] 77)) = W0 at *
  have k1 := ag n1 0
  have k2 := ag n1 1
  have k3 := ag n1 2
  simp only [Array.getElem?_eq_getElem, jd, jc, jb] at k1 k2 k3
  have k4 := ag n2 0
  have k5 := ag n2 1
  have k6 := ag n2 2
  simp only [Array.getElem?_eq_getElem, jd, jc, jb] at k4 k5 k6
  have q0 : w.heap.size < W0.heap.size := by omega
  have q1 : w.heap.size + 1 < W0.heap.size := by omega
  have q2 : w.heap.size + 1 + 1 < W0.heap.size := by omega
  have k7 := ag n3 0
  have k8 := ag n3 1
  have k9 := ag n3 2
  simp only [Array.getElem?_eq_getElem, jd, jc, jb] at k7 k8 k9
  have f7 := ai n3 0
  have f8 := ai n3 1
  have f9 := ai n3 2
  have N3 := Lib.hid n3
  clear n3
  clear n1 n2
  have B1 := (aa HB1) W0 hw0; have B2 := (aa HB2) W0 hw0; have TT := (aa Pq) W0 hw0
  refine ((aa nz) _).mono ?_
  rintro e w1 ⟨rfl, hw1⟩
  have tq := mo (w := W0) bem hw1
  obtain ⟨hc, hfz⟩ := dz tq
  clear hw1
  go_wp2_with fail
  refine ((aa HS2) _).mono ?_
  rintro e w2 ⟨rfl, hw2⟩
  have hbw2 := mo (w := W0) bem hw2
  obtain ⟨hc, hfz⟩ := dz hbw2
  clear hw2
  go_wp2_with fail
  go_region_held3 (fun w' => w'.cell? ⟨w.heap.size, 0, none⟩ = some (.int .i64 s1) ∧ w'.cell? ⟨w.heap.size, 1, none⟩ = some (.bool cz) ∧ w'.cell? ⟨w.heap.size, 2, none⟩ = some (.slice A1 l1.length c1) ∧ w'.cell? ⟨w.heap.size + 1, 0, none⟩ = some (.int .i64 s2) ∧ w'.cell? ⟨w.heap.size + 1, 1, none⟩ = some (.bool cu) ∧ w'.cell? ⟨w.heap.size + 1, 2, none⟩ = some (.slice A2 l2.length c2)) ((first | with_reducible exact ⟨(hc _ _ q0).trans k1, (hc _ _ q0).trans k2, (hc _ _ q0).trans k3, (hc _ _ q1).trans k4, (hc _ _ q1).trans k5, (hc _ _ q1).trans k6⟩ | with_reducible exact ⟨k1, k2, k3, k4, k5, k6⟩ | with_reducible exact ⟨(gu _ _ _ _ _ om).trans ((hc _ _ q0).trans k1), (gu _ _ _ _ _ om).trans ((hc _ _ q0).trans k2), (gu _ _ _ _ _ om).trans ((hc _ _ q0).trans k3), (gu _ _ _ _ _ om).trans ((hc _ _ q1).trans k4), (gu _ _ _ _ _ om).trans ((hc _ _ q1).trans k5), (gu _ _ _ _ _ om).trans ((hc _ _ q1).trans k6)⟩ | exact ⟨(hc _ _ q0).trans k1, (hc _ _ q0).trans k2, (hc _ _ q0).trans k3, (hc _ _ q1).trans k4, (hc _ _ q1).trans k5, (hc _ _ q1).trans k6⟩ | exact ⟨k1, k2, k3, k4, k5, k6⟩)) (first | (go_at_call_of 186 (Value.int .i64 s1); refine ((aa Z1) _).mono ?_; rintro e w' ⟨rfl, Kj⟩; subst Kj) | (go_at_call_of 186 (Value.int .i64 s2); refine ((aa Z2) _).mono ?_; rintro e w' ⟨rfl, Kj⟩; subst Kj) | (go_at_call 138; refine ((aa HM) _ ((aa TT) _ bem)).mono ?_; rintro e w' ⟨rfl, Kj⟩; subst Kj) | (go_at_call 185; refine ((aa HW) _).mono ?_; rintro e w' ⟨s, oz, A', cap', l', rfl, hf, hb⟩; have hbw := bz (w := W0) bem hb; obtain ⟨hc, hfz⟩ := dz hbw))
  have hblk : w'.heap[w.heap.size + 1 + 1]? = some (.cells #[.int .i64 0, .bool false, .slice none 0 0] 77 (0, 0)) := (hbw.block _ q2).trans N3.out
  have jy := Lib.hid hblk
  have jh : Below w.heap.size w w' := bg hw0 hbw
  clear hblk
  go_wp2_with fail
  exact bodyPost_ret (v := .agg #[.int .i64 s, .bool oz, .slice A' l'.length cap']) (by simp [results, Tryz.results164, go_sem, hc, k7, k8, k9, q2]) rfl
   ⟨s, oz, A', cap', l', rfl, hf.upto jy.out (si _ _ _ _ _) (ik _ _ _ _ _), jh.grown (ik _ _ _ _ _) jh.size (fun k hk => by injection hk with hk; omega)⟩
 ·
  by_cases a1 : l1.length = 0
  ·
   have a2 : ¬ l2.length = 0 := fun h => hs ⟨a1, h⟩
   rw [decide_eq_true a1] at nz
   rw [decide_eq_false a2] at HS2
   clear hsz1 hsz2 hs a1 a2
   go_enter Tryz.func164, Tryz.ntmps164
   go_wp2_with fail
   obtain ⟨n1, n2, n3, hsz, hw0⟩ := oh w (.cells #[.int .i64 s1, .bool cz, .slice A1 l1.length c1] 77) (.cells #[.int .i64 s2, .bool cu, .slice A2 l2.length c2] 77) (.cells #[.int .i64 0, .bool false, .slice none 0 0] 77)
   generalize (((w.alloc (.cells #[.int .i64 s1, .bool cz, .slice A1 l1.length c1] 77)).alloc (.cells #[.int .i64 s2, .bool cu, .slice A2 l2.length c2] 77)).alloc (.cells #[.int .i64 0, .bool false, .slice none 0 0] 77)) = W0 at *
   have k1 := ag n1 0
   have k2 := ag n1 1
   have k3 := ag n1 2
   simp only [Array.getElem?_eq_getElem, jd, jc, jb] at k1 k2 k3
   have k4 := ag n2 0
   have k5 := ag n2 1
   have k6 := ag n2 2
   simp only [Array.getElem?_eq_getElem, jd, jc, jb] at k4 k5 k6
   have q0 : w.heap.size < W0.heap.size := by omega
   have q1 : w.heap.size + 1 < W0.heap.size := by omega
   have q2 : w.heap.size + 1 + 1 < W0.heap.size := by omega
   have k7 := ag n3 0
   have k8 := ag n3 1
   have k9 := ag n3 2
   simp only [Array.getElem?_eq_getElem, jd, jc, jb] at k7 k8 k9
   have f7 := ai n3 0
   have f8 := ai n3 1
   have f9 := ai n3 2
   have N3 := Lib.hid n3
   clear n3
   clear n1 n2
   have B1 := (aa HB1) W0 hw0; have B2 := (aa HB2) W0 hw0; have TT := (aa Pq) W0 hw0
   refine ((aa nz) _).mono ?_
   rintro e w1 ⟨rfl, hw1⟩
   have tq := mo (w := W0) bem hw1
   obtain ⟨hc, hfz⟩ := dz tq
   clear hw1
   go_wp2_with fail
   refine ((aa HS2) _).mono ?_
   rintro e w2 ⟨rfl, hw2⟩
   have hbw2 := mo (w := W0) bem hw2
   obtain ⟨hc, hfz⟩ := dz hbw2
   clear hw2
   go_wp2_with fail
   go_region_held3 (fun w' => w'.cell? ⟨w.heap.size, 0, none⟩ = some (.int .i64 s1) ∧ w'.cell? ⟨w.heap.size, 1, none⟩ = some (.bool cz) ∧ w'.cell? ⟨w.heap.size, 2, none⟩ = some (.slice A1 l1.length c1) ∧ w'.cell? ⟨w.heap.size + 1, 0, none⟩ = some (.int .i64 s2) ∧ w'.cell? ⟨w.heap.size + 1, 1, none⟩ = some (.bool cu) ∧ w'.cell? ⟨w.heap.size + 1, 2, none⟩ = some (.slice A2 l2.length c2)) ((first | with_reducible exact ⟨(hc _ _ q0).trans k1, (hc _ _ q0).trans k2, (hc _ _ q0).trans k3, (hc _ _ q1).trans k4, (hc _ _ q1).trans k5, (hc _ _ q1).trans k6⟩ | with_reducible exact ⟨k1, k2, k3, k4, k5, k6⟩ | with_reducible exact ⟨(gu _ _ _ _ _ om).trans ((hc _ _ q0).trans k1), (gu _ _ _ _ _ om).trans ((hc _ _ q0).trans k2), (gu _ _ _ _ _ om).trans ((hc _ _ q0).trans k3), (gu _ _ _ _ _ om).trans ((hc _ _ q1).trans k4), (gu _ _ _ _ _ om).trans ((hc _ _ q1).trans k5), (gu _ _ _ _ _ om).trans ((hc _ _ q1).trans k6)⟩ | exact ⟨(hc _ _ q0).trans k1, (hc _ _ q0).trans k2, (hc _ _ q0).trans k3, (hc _ _ q1).trans k4, (hc _ _ q1).trans k5, (hc _ _ q1).trans k6⟩ | exact ⟨k1, k2, k3, k4, k5, k6⟩)) (first | (go_at_call_of 191 (Value.agg #[.int .i64 s1, .bool cz, .slice A1 l1.length c1]); refine ((aa B1) _ bem).mono ?_; rintro e w' ⟨A5, cap5, l5, rfl, xc, hb⟩; have hbw := bz (w := W0) bem hb; obtain ⟨hc, hfz⟩ := dz hbw) | (go_at_call_of 191 (Value.agg #[.int .i64 s2, .bool cu, .slice A2 l2.length c2]); refine ((aa B2) _ bem).mono ?_; rintro e w' ⟨A6, cap6, l6, rfl, mq, hb⟩; have jl := xc.below hb; have hbw := bz (w := W0) bem hb; obtain ⟨hc, hfz⟩ := dz hbw) | (go_at_call 200; refine (aeu A5 A6 cap5 cap6 l5 l6 m1 m2 _ (by exact jl) (by exact mq) ((aa TT) _ bem) ((aa HLEN) _ _ _ _ () jl).1 ((aa Dc) _ _ _ _ () mq).1).mono ?_; rintro e w' ⟨A7, vv, l7, rfl, vo, hb⟩; have hbw := bz (w := W0) bem hb; obtain ⟨hc, hfz⟩ := dz hbw) | (go_at_call 190; refine (yg false A7 vv l7 (m1.gcd m2) _ (by exact vo)).mono ?_; rw [if_neg Bool.false_ne_true]; rintro e w' ⟨s, oz, A', cap', l', rfl, hf, hb⟩; have hbw := bz (w := W0) bem hb; obtain ⟨hc, hfz⟩ := dz hbw))
   have hblk : w'.heap[w.heap.size + 1 + 1]? = some (.cells #[.int .i64 0, .bool false, .slice none 0 0] 77 (0, 0)) := (hbw.block _ q2).trans N3.out
   have jy := Lib.hid hblk
   have jh : Below w.heap.size w w' := bg hw0 hbw
   clear hblk
   go_wp2_with fail
   exact bodyPost_ret (v := .agg #[.int .i64 s, .bool oz, .slice A' l'.length cap']) (by simp [results, Tryz.results164, go_sem, hc, k7, k8, k9, q2]) rfl
    ⟨s, oz, A', cap', l', rfl, hf.upto jy.out (si _ _ _ _ _) (ik _ _ _ _ _), jh.grown (ik _ _ _ _ _) jh.size (fun k hk => by injection hk with hk; omega)⟩
  ·
   skip
   rw [decide_eq_false a1] at nz
   clear hsz1 hsz2 hs a1
   go_enter Tryz.func164, Tryz.ntmps164
   go_wp2_with fail
   obtain ⟨n1, n2, n3, hsz, hw0⟩ := oh w (.cells #[.int .i64 s1, .bool cz, .slice A1 l1.length c1] 77) (.cells #[.int .i64 s2, .bool cu, .slice A2 l2.length c2] 77) (.cells #[.int .i64 0, .bool false, .slice none 0 0] 77)
   generalize (((w.alloc (.cells #[.int .i64 s1, .bool cz, .slice A1 l1.length c1] 77)).alloc (.cells #[.int .i64 s2, .bool cu, .slice A2 l2.length c2] 77)).alloc (.cells #[.int .i64 0, .bool false, .slice none 0 0] 77)) = W0 at *
   have k1 := ag n1 0
   have k2 := ag n1 1
   have k3 := ag n1 2
   simp only [Array.getElem?_eq_getElem, jd, jc, jb] at k1 k2 k3
   have k4 := ag n2 0
   have k5 := ag n2 1
   have k6 := ag n2 2
   simp only [Array.getElem?_eq_getElem, jd, jc, jb] at k4 k5 k6
   have q0 : w.heap.size < W0.heap.size := by omega
   have q1 : w.heap.size + 1 < W0.heap.size := by omega
   have q2 : w.heap.size + 1 + 1 < W0.heap.size := by omega
   have k7 := ag n3 0
   have k8 := ag n3 1
   have k9 := ag n3 2
   simp only [Array.getElem?_eq_getElem, jd, jc, jb] at k7 k8 k9
   have f7 := ai n3 0
   have f8 := ai n3 1
   have f9 := ai n3 2
   have N3 := Lib.hid n3
   clear n3
   clear n1 n2
   have B1 := (aa HB1) W0 hw0; have B2 := (aa HB2) W0 hw0; have TT := (aa Pq) W0 hw0
   refine ((aa nz) _).mono ?_
   rintro e w1 ⟨rfl, hw1⟩
   have tq := mo (w := W0) bem hw1
   obtain ⟨hc, hfz⟩ := dz tq
   clear hw1
   go_wp2_with fail
   go_region_held3 (fun w' => w'.cell? ⟨w.heap.size, 0, none⟩ = some (.int .i64 s1) ∧ w'.cell? ⟨w.heap.size, 1, none⟩ = some (.bool cz) ∧ w'.cell? ⟨w.heap.size, 2, none⟩ = some (.slice A1 l1.length c1) ∧ w'.cell? ⟨w.heap.size + 1, 0, none⟩ = some (.int .i64 s2) ∧ w'.cell? ⟨w.heap.size + 1, 1, none⟩ = some (.bool cu) ∧ w'.cell? ⟨w.heap.size + 1, 2, none⟩ = some (.slice A2 l2.length c2)) ((first | with_reducible exact ⟨(hc _ _ q0).trans k1, (hc _ _ q0).trans k2, (hc _ _ q0).trans k3, (hc _ _ q1).trans k4, (hc _ _ q1).trans k5, (hc _ _ q1).trans k6⟩ | with_reducible exact ⟨k1, k2, k3, k4, k5, k6⟩ | with_reducible exact ⟨(gu _ _ _ _ _ om).trans ((hc _ _ q0).trans k1), (gu _ _ _ _ _ om).trans ((hc _ _ q0).trans k2), (gu _ _ _ _ _ om).trans ((hc _ _ q0).trans k3), (gu _ _ _ _ _ om).trans ((hc _ _ q1).trans k4), (gu _ _ _ _ _ om).trans ((hc _ _ q1).trans k5), (gu _ _ _ _ _ om).trans ((hc _ _ q1).trans k6)⟩ | exact ⟨(hc _ _ q0).trans k1, (hc _ _ q0).trans k2, (hc _ _ q0).trans k3, (hc _ _ q1).trans k4, (hc _ _ q1).trans k5, (hc _ _ q1).trans k6⟩ | exact ⟨k1, k2, k3, k4, k5, k6⟩)) (first | (go_at_call_of 191 (Value.agg #[.int .i64 s1, .bool cz, .slice A1 l1.length c1]); refine ((aa B1) _ bem).mono ?_; rintro e w' ⟨A5, cap5, l5, rfl, xc, hb⟩; have hbw := bz (w := W0) bem hb; obtain ⟨hc, hfz⟩ := dz hbw) | (go_at_call_of 191 (Value.agg #[.int .i64 s2, .bool cu, .slice A2 l2.length c2]); refine ((aa B2) _ bem).mono ?_; rintro e w' ⟨A6, cap6, l6, rfl, mq, hb⟩; have jl := xc.below hb; have hbw := bz (w := W0) bem hb; obtain ⟨hc, hfz⟩ := dz hbw) | (go_at_call 200; refine (aeu A5 A6 cap5 cap6 l5 l6 m1 m2 _ (by exact jl) (by exact mq) ((aa TT) _ bem) ((aa HLEN) _ _ _ _ () jl).1 ((aa Dc) _ _ _ _ () mq).1).mono ?_; rintro e w' ⟨A7, vv, l7, rfl, vo, hb⟩; have hbw := bz (w := W0) bem hb; obtain ⟨hc, hfz⟩ := dz hbw) | (go_at_call 190; refine (yg false A7 vv l7 (m1.gcd m2) _ (by exact vo)).mono ?_; rw [if_neg Bool.false_ne_true]; rintro e w' ⟨s, oz, A', cap', l', rfl, hf, hb⟩; have hbw := bz (w := W0) bem hb; obtain ⟨hc, hfz⟩ := dz hbw))
   have hblk : w'.heap[w.heap.size + 1 + 1]? = some (.cells #[.int .i64 0, .bool false, .slice none 0 0] 77 (0, 0)) := (hbw.block _ q2).trans N3.out
   have jy := Lib.hid hblk
   have jh : Below w.heap.size w w' := bg hw0 hbw
   clear hblk
   go_wp2_with fail
   exact bodyPost_ret (v := .agg #[.int .i64 s, .bool oz, .slice A' l'.length cap']) (by simp [results, Tryz.results164, go_sem, hc, k7, k8, k9, q2]) rfl
    ⟨s, oz, A', cap', l', rfl, hf.upto jy.out (si _ _ _ _ _) (ik _ _ _ _ _), jh.grown (ik _ _ _ _ _) jh.size (fun k hk => by injection hk with hk; omega)⟩

end Go.Proofs.YtfgeaakhlcaibaaGreatDoor
