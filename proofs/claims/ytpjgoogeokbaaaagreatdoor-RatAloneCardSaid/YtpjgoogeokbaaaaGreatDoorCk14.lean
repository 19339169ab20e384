/- Texts beneath a law of layer 1. -/
import Derived.Test.YtpjgoogeokbaaaaGreatDoorCk13
import Derived.StillTail
import Derived.OrdersHeld
set_option maxRecDepth 100000
namespace Go.Proofs.YtpjgoogeokbaaaaGreatDoor
namespace Wd

theorem boz {a b c d p q : Int} (hb : 0 < b) (hd : 0 < d) (Gt : b * c - a * d = 1) (h1 : 0 < p * b - a * q) (h2 : 0 < c * q - p * d) : b + d ≤ q := by
 have e : q = b * (c * q - p * d) + d * (p * b - a * q) := by
  have e1 : b * (c * q - p * d) + d * (p * b - a * q) = (b * c - a * d) * q := by
   rw [Int.mul_sub, Int.mul_sub, Int.sub_mul]
   have i1 : b * (c * q) = b * c * q := (Int.mul_assoc b c q).symm
   have i2 : d * (a * q) = a * d * q := by rw [← Int.mul_assoc, Int.mul_comm d a]
   have i3 : b * (p * d) = d * (p * b) := by rw [Int.mul_comm b, Int.mul_assoc, Int.mul_comm p, Int.mul_assoc, Int.mul_comm b p]
   omega
  rw [e1, Gt, Int.one_mul]
 have m1 : b * 1 ≤ b * (c * q - p * d) := Int.mul_le_mul_of_nonneg_left om om
 have m2 : d * 1 ≤ d * (p * b - a * q) := Int.mul_le_mul_of_nonneg_left om om
 generalize b * (c * q - p * d) = u at *
 generalize d * (p * b - a * q) = v at *
 omega
structure Io (N D bn bd ln ld n d s : Int) : Prop where
 num : N = ln * n + bn * d
 den : D = ld * n + bd * d
 Gt : ln * bd - bn * ld = s
 gm : s = 1 ∨ s = -1
 bd0 : 0 ≤ bd
 ld0 : 0 ≤ ld
 d0 : 0 ≤ d
theorem Io.start (N : Int) {D : Int} (h : 0 < D) : Io N D 0 1 1 0 N D 1 :=
 ⟨by omega, by omega, by omega, .inl rfl, by omega, by omega, by omega⟩
theorem Io.step {N D bn bd ln ld n d s : Int} (h : Io N D bn bd ln ld n d s) (hd : 0 < d) (a : Int) (ha : a = n / d) (h0 : 0 ≤ bd + a * ld) : Io N D ln ld (bn + a * ln) (bd + a * ld) d (n - a * d) (-s) := by
 have e1 := Int.emod_nonneg n (show d ≠ 0 by omega)
 have e3 := Int.mul_ediv_add_emod n d
 rw [← ha, Int.mul_comm] at e3
 refine ⟨?_, ?_, ?_, ?_, h.ld0, h0, by omega⟩
 ·
  rw [h.num, Int.add_mul, Int.mul_sub]
  have i1 : ln * (a * d) = a * ln * d := by rw [← Int.mul_assoc, Int.mul_comm ln a]
  omega
 ·
  rw [h.den, Int.add_mul, Int.mul_sub]
  have i1 : ld * (a * d) = a * ld * d := by rw [← Int.mul_assoc, Int.mul_comm ld a]
  omega
 ·
  rw [← h.Gt, Int.add_mul, Int.mul_add]
  have i1 : ln * (a * ld) = a * ln * ld := by rw [← Int.mul_assoc, Int.mul_comm ln a]
  omega
 ·
  rcases h.gm with e | e
  ·
   exact .inr om
  ·
   exact .inl om
theorem Io.ends {N D bn bd ln ld n d s : Int} (h : Io N D bn bd ln ld n d s) (t : Int) :
  N * ld - D * ln = -(s * d) ∧ N * (bd + t * ld) - D * (bn + t * ln) = s * (n - t * d) ∧ ln * (bd + t * ld) - (bn + t * ln) * ld = s := by
 have ajv := h.Gt
 have b1 : N * ld - D * ln = -(s * d) := by
  rw [h.num, h.den, ← ajv, Int.add_mul, Int.add_mul, Int.sub_mul]
  have i1 : ln * n * ld = ld * n * ln := by rw [Int.mul_right_comm, Int.mul_comm ln ld, Int.mul_right_comm]
  have i2 : bn * d * ld = bn * ld * d := Int.mul_right_comm bn d ld
  have i3 : bd * d * ln = ln * bd * d := by rw [Int.mul_right_comm, Int.mul_comm bd ln]
  omega
 have b2 : N * bd - D * bn = s * n := by
  rw [h.num, h.den, ← ajv, Int.add_mul, Int.add_mul, Int.sub_mul]
  have i1 : ln * n * bd = ln * bd * n := Int.mul_right_comm ln n bd
  have i2 : ld * n * bn = bn * ld * n := by rw [Int.mul_right_comm, Int.mul_comm ld bn]
  have i3 : bn * d * bd = bd * d * bn := by rw [Int.mul_comm bn d, Int.mul_assoc, Int.mul_comm bn bd, ← Int.mul_assoc, Int.mul_comm d bd]
  omega
 refine ⟨b1, ?_, ?_⟩
 ·
  rw [Int.mul_add, Int.mul_add, Int.mul_sub]
  have i1 : N * (t * ld) = t * (N * ld) := Int.mul_left_comm N t ld
  have i2 : D * (t * ln) = t * (D * ln) := Int.mul_left_comm D t ln
  have i3 : t * (N * ld) - t * (D * ln) = -(s * (t * d)) := by
   rw [← Int.mul_sub, b1, Int.mul_neg, Int.mul_left_comm]
  omega
 ·
  rw [Int.mul_add, Int.add_mul]
  have i1 : ln * (t * ld) = t * ln * ld := by rw [← Int.mul_assoc, Int.mul_comm ln t]
  omega
end Wd
end Go.Proofs.YtpjgoogeokbaaaaGreatDoor
namespace Go.Proofs.YtpjgoogeokbaaaaGreatDoor
namespace Wd

structure Ib (N D m bn bd ln ld n d s : Int) : Prop where
 inv : Io N D bn bd ln ld n d s
 dp : 0 < d
 lm : ld ≤ m
 bm : bd ≤ m
 way : (ld = 0 ∧ bd = 1) ∨ (1 ≤ ld ∧ d < n)
 nb : -1000000000000 ≤ n ∧ n ≤ 1000000000000
 db : d ≤ D
 lb : -1000000000001 ≤ ln ∧ ln ≤ 1000000000001
 bb : -1000000000001 ≤ bn ∧ bn ≤ 1000000000001
theorem Ib.start {N D m : Int} (h : nu N D) (hm : 1 ≤ m) : Ib N D m 0 1 1 0 N D 1 := by
 obtain ⟨h1, h2, h3, h4, _⟩ := h
 exact ⟨Io.start N om, by omega, by omega, by omega, .inl ⟨rfl, rfl⟩, ⟨by omega, by omega⟩, by omega, by omega, by omega⟩
structure blv (N D bd ln ld n d a : Int) (bn nx ny : Int) : Prop where
 ny0 : 1 ≤ ny
 nyD : ny ≤ D
 nxb : -1000000000001 ≤ nx ∧ nx ≤ 1000000000001
 kc : -2000000000002 ≤ a * ln ∧ a * ln ≤ 2000000000002
 kd : -1000000000000 ≤ a * ld ∧ a * ld ≤ 1000000000000
 ab : -1000000000000 ≤ a ∧ a ≤ 1000000000000
theorem avv {n d : Int} (hd : 0 < d) (hn : -1000000000000 ≤ n ∧ n ≤ 1000000000000) : -1000000000000 ≤ n / d ∧ n / d ≤ 1000000000000 := by
 constructor
 ·
  rw [Int.le_ediv_iff_mul_le hd]; omega
 ·
  rcases Int.lt_or_le n 0 with h | h
  ·
   have : n / d < 0 := Int.ediv_neg_of_neg_of_pos h hd
   omega
  ·
   have := Int.ediv_le_self d h
   omega
theorem Ib.nx {N D m bn bd ln ld n d s a nx ny : Int} (h : Ib N D m bn bd ln ld n d s) (ok : nu N D) (hmD : m < D) (ha : a = n / d) (hx : nx = bn + a * ln) (hy : ny = bd + a * ld) : blv N D bd ln ld n d a bn nx ny := by
 have hab := avv h.dp h.nb
 rw [← ha] at hab
 have e1 := Int.emod_nonneg n (show d ≠ 0 by have := h.dp; omega)
 have e2 := Int.emod_lt_of_pos n h.dp
 have e3 := Int.mul_ediv_add_emod n d
 rw [← ha, Int.mul_comm] at e3
 have buc : 1 ≤ ny := by
  rcases h.way with ⟨h1, h2⟩ | ⟨h1, h2⟩
  ·
   rw [hy, h1, h2]; simp
  ·
   have a1 : 1 ≤ a := by
    rw [ha, Int.le_ediv_iff_mul_le h.dp]; omega
   have m1 : 1 * 1 ≤ a * ld := Int.mul_le_mul a1 h1 om om
   have := h.inv.bd0
   omega
 have hst := h.inv.step h.dp a ha om
 rw [← hx, ← hy] at hst
 have hyD : ny ≤ D := by
  have := hst.den
  have m1 : ny * 1 ≤ ny * d := Int.mul_le_mul_of_nonneg_left (by have := h.dp; omega) om
  have m2 : 0 ≤ ld * (n - a * d) := Int.mul_nonneg h.inv.ld0 om
  generalize ny * d = u at *
  generalize ld * (n - a * d) = v at *
  omega
 obtain ⟨o1, o2, o3, o4, o5⟩ := ok
 have he := (h.inv.ends a).2.1
 rw [← hx, ← hy] at he
 have hs : -d ≤ s * (n - a * d) ∧ s * (n - a * d) ≤ d := by
  rcases h.inv.gm with e | e <;> rw [e] <;> constructor <;> omega
 have hNy : -(1000000000000 * D) ≤ N * ny ∧ N * ny ≤ 1000000000000 * D := by
  have t1 : N * ny ≤ 1000000000000 * ny := Int.mul_le_mul_of_nonneg_right om om
  have t2 : -1000000000000 * ny ≤ N * ny := Int.mul_le_mul_of_nonneg_right om om
  generalize N * ny = u at *
  omega
 have hdb := h.db
 have hnx : -1000000000001 ≤ nx ∧ nx ≤ 1000000000001 := by
  have hD : 0 < D := by omega
  constructor
  ·
   refine Int.le_of_mul_le_mul_left (a := D) ?_ hD
   generalize N * ny = u at *
   generalize s * (n - a * d) = v at *
   generalize D * nx = z at *
   omega
  ·
   refine Int.le_of_mul_le_mul_left (a := D) ?_ hD
   generalize N * ny = u at *
   generalize s * (n - a * d) = v at *
   generalize D * nx = z at *
   omega
 have hbb := h.bb
 have hbm := h.bm; have hb0 := h.inv.bd0
 refine ⟨buc, hyD, hnx, ⟨?_, ?_⟩, ⟨?_, ?_⟩, hab⟩
 ·
  generalize a * ln = u at *; omega
 ·
  generalize a * ln = u at *; omega
 ·
  generalize a * ld = u at *; omega
 ·
  generalize a * ld = u at *; omega
theorem Ib.next {N D m bn bd ln ld n d s a nx ny : Int} (h : Ib N D m bn bd ln ld n d s) (ok : nu N D) (hmD : m < D) (ha : a = n / d) (hx : nx = bn + a * ln) (hy : ny = bd + a * ld) (hm : ny ≤ m) : Ib N D m ln ld nx ny d (n - a * d) (-s) := by
 have hn := h.nx ok hmD ha hx hy
 have e1 := Int.emod_nonneg n (show d ≠ 0 by have := h.dp; omega)
 have e2 := Int.emod_lt_of_pos n h.dp
 have e3 := Int.mul_ediv_add_emod n d
 rw [← ha, Int.mul_comm] at e3
 have hst := h.inv.step h.dp a ha (by have := hn.ny0; omega)
 rw [← hx, ← hy] at hst
 have hdp := h.dp; have hdb := h.db
 obtain ⟨o1, o2, o3, o4, o5⟩ := ok
 have hr : 0 < n - a * d := by
  rcases Int.lt_or_eq_of_le (show 0 ≤ n - a * d by omega) with h1 | h1
  ·
   exact h1
  ·
   exfalso
   have q1 := hst.num; have q2 := hst.den
   rw [← h1, Int.mul_zero, Int.add_zero] at q1 q2
   have g1 : d.natAbs ∣ N.natAbs := by rw [q1, Int.natAbs_mul]; exact Nat.dvd_mul_left _ _
   have g2 : d.natAbs ∣ D.natAbs := by rw [q2, Int.natAbs_mul]; exact Nat.dvd_mul_left _ _
   have g3 := Nat.dvd_gcd g1 g2
   rw [o5, Nat.dvd_one] at g3
   have g4 : d = 1 := by omega
   rw [g4, Int.mul_one] at q2
   omega
 exact ⟨hst, hr, hm, h.lm, .inr ⟨hn.ny0, by omega⟩, ⟨by omega, by omega⟩, by omega, hn.nxb, h.lb⟩
structure Vx (N D m ln ld c e d s u : Int) : Prop where
 ld1 : 1 ≤ ld
 lm : ld ≤ m
 e1 : 1 ≤ e
 em : e ≤ m
 sum : m < e + ld
 Gt : ln * e - c * ld = s
 gm : s = 1 ∨ s = -1
 bay : N * ld - D * ln = -(s * d)
 aqe : N * e - D * c = s * u
 dp : 0 < d
 up : 0 < u
 lb : -1000000000001 ≤ ln ∧ ln ≤ 1000000000001
 cb : -1000000000001 ≤ c ∧ c ≤ 1000000000001
theorem Ib.stop {N D m bn bd ln ld n d s a nx ny t c e : Int} (h : Ib N D m bn bd ln ld n d s) (ok : nu N D) (hm1 : 1 ≤ m) (hmD : m < D) (ha : a = n / d) (hx : nx = bn + a * ln) (hy : ny = bd + a * ld) (hm : m < ny) (ht : t = (m - bd) / ld) (hc : c = bn + t * ln) (he : e = bd + t * ld) :
  Vx N D m ln ld c e d s (n - t * d) ∧ 0 ≤ t ∧ t ≤ 1000000000000 ∧ (-2000000000002 ≤ t * ln ∧ t * ln ≤ 2000000000002) ∧ (0 ≤ t * ld ∧ t * ld ≤ 1000000000000) := by
 have hn := h.nx ok hmD ha hx hy
 have hld : 1 ≤ ld := by
  rcases h.way with ⟨h1, h2⟩ | ⟨h1, _⟩
  ·
   rw [h1, Int.mul_zero, h2] at hy; omega
  ·
   exact h1
 have hbm := h.bm
 have t0 : 0 ≤ t := by rw [ht]; exact Int.ediv_nonneg om om
 have ta : t < a := by
  rw [ht, Int.ediv_lt_iff_lt_mul om]; omega
 have tm : t * ld ≤ m - bd := by rw [ht]; exact Int.ediv_mul_le _ om
 have tm2 : m - bd < (t + 1) * ld := by rw [ht]; exact Int.lt_ediv_add_one_mul_self _ om
 rw [Int.add_mul, Int.one_mul] at tm2
 have e1 := Int.emod_nonneg n (show d ≠ 0 by have := h.dp; omega)
 have e3 := Int.mul_ediv_add_emod n d
 rw [← ha, Int.mul_comm] at e3
 have hdp := h.dp
 have td : t * d ≤ (a - 1) * d := Int.mul_le_mul_of_nonneg_right om om
 rw [Int.sub_mul, Int.one_mul] at td
 obtain ⟨f1, f2, f3⟩ := h.inv.ends t
 rw [← hc, ← he] at f2 f3
 have hkc := hn.kc
 have tl : -2000000000002 ≤ t * ln ∧ t * ln ≤ 2000000000002 ∧ ((0 ≤ t * ln ∧ t * ln ≤ a * ln) ∨ (a * ln ≤ t * ln ∧ t * ln ≤ 0)) := by
  rcases Int.lt_or_le ln 0 with hl | hl
  ·
   have m1 : t * (-ln) ≤ a * (-ln) := Int.mul_le_mul_of_nonneg_right om om
   have m2 : 0 ≤ t * (-ln) := Int.mul_nonneg t0 om
   rw [Int.mul_neg, Int.mul_neg] at m1
   rw [Int.mul_neg] at m2
   generalize t * ln = u at *
   generalize a * ln = v at *
   exact ⟨by omega, by omega, .inr ⟨by omega, by omega⟩⟩
  ·
   have m1 : t * ln ≤ a * ln := Int.mul_le_mul_of_nonneg_right om hl
   have m2 : 0 ≤ t * ln := Int.mul_nonneg t0 hl
   generalize t * ln = u at *
   generalize a * ln = v at *
   exact ⟨by omega, by omega, .inl ⟨by omega, by omega⟩⟩
 have tld : 0 ≤ t * ld := Int.mul_nonneg t0 om
 have hb0 := h.inv.bd0
 have hbb := h.bb; have bam := hn.nxb
 obtain ⟨o1, o2, o3, o4, o5⟩ := ok
 have hab := hn.ab
 refine ⟨⟨hld, h.lm, ?_, ?_, ?_, f3, h.inv.gm, f1, f2, hdp, ?_, h.lb, ?_⟩, t0, by omega, ⟨tl.1, tl.2.1⟩, tld, ?_⟩
 ·
  have := h.lm
  generalize t * ld = u at *
  omega
 ·
  generalize t * ld = u at *; omega
 ·
  generalize t * ld = u at *; omega
 ·
  generalize t * d = u at *; generalize a * d = v at *; omega
 ·
  obtain ⟨_, _, tl⟩ := tl
  generalize t * ln = u at *
  generalize a * ln = v at *
  omega
 ·
  generalize t * ld = u at *; omega
end Wd
end Go.Proofs.YtpjgoogeokbaaaaGreatDoor
namespace Go.Proofs.YtpjgoogeokbaaaaGreatDoor
open Go.RowKit

structure NbG (w wr : World) (N D b0 b1 l0 l1 : Int) : Prop where
 below : Below w.heap.size w wr
 x : wr.heap[w.heap.size]? = some (.cells #[.int .i64 N, .int .i64 D] 23 (0, 0))
 lo : wr.heap[w.heap.size + 1]? = some (.cells #[.int .i64 0, .int .i64 0] 23 (0, 0))
 hi : wr.heap[w.heap.size + 2]? = some (.cells #[.int .i64 0, .int .i64 0] 23 (0, 0))
 Ga : wr.heap[w.heap.size + 3]? = some (.cells #[.int .i64 b0, .int .i64 b1] 23 (0, 0))
 last : wr.heap[w.heap.size + 4]? = some (.cells #[.int .i64 l0, .int .i64 l1] 23 (0, 0))
theorem NbG.step {w wr w' : World} {N D b0 b1 l0 l1 : Int} (h : NbG w wr N D b0 b1 l0 l1) (hb : Below wr.heap.size wr w') : NbG w w' N D b0 b1 l0 l1 :=
 ⟨au h.below hb, (hb.block _ (lt_of_block h.x)).trans h.x, (hb.block _ (lt_of_block h.lo)).trans h.lo, (hb.block _ (lt_of_block h.hi)).trans h.hi, (hb.block _ (lt_of_block h.Ga)).trans h.Ga, (hb.block _ (lt_of_block h.last)).trans h.last⟩
theorem NbG.set {w wr : World} {N D b0 b1 l0 l1 : Int} (h : NbG w wr N D b0 b1 l0 l1) (u0 u1 v0 v1 : Int) :
  NbG w ((((wr.setCell ⟨w.heap.size + 3, 0, none⟩ (.int .i64 u0)).setCell ⟨w.heap.size + 3, 1, none⟩ (.int .i64 u1)).setCell ⟨w.heap.size + 4, 0, none⟩ (.int .i64 v0)).setCell ⟨w.heap.size + 4, 1, none⟩ (.int .i64 v1)) N D u0 u1 v0 v1 := by
 have g1 := fq wr (w.heap.size + 3) (.int .i64 u0) (.int .i64 u1)
 have g2 := fq ((wr.setCell ⟨w.heap.size + 3, 0, none⟩ (.int .i64 u0)).setCell ⟨w.heap.size + 3, 1, none⟩ (.int .i64 u1)) (w.heap.size + 4) (.int .i64 v0) (.int .i64 v1)
 have s1 := g1.size
 have old : ∀ k, k < w.heap.size + 3 → ((((wr.setCell ⟨w.heap.size + 3, 0, none⟩ (.int .i64 u0)).setCell ⟨w.heap.size + 3, 1, none⟩ (.int .i64 u1)).setCell ⟨w.heap.size + 4, 0, none⟩ (.int .i64 v0)).setCell ⟨w.heap.size + 4, 1, none⟩ (.int .i64 v1)).heap[k]? = wr.heap[k]? := fun k hk => by
  have hl := lt_of_block h.last
  exact (g2.block k om (fun e => by injection e with e; omega)).trans (g1.block k om (fun e => by injection e with e; omega))
 have hl := lt_of_block h.last
 have e1 := Ea (u0 := .int .i64 u0) (u1 := .int .i64 u1) h.Ga
 refine ⟨(h.below.grown g1 h.below.size (fun k hk => by injection hk with hk; omega)).grown g2 (by have := h.below.size; omega) (fun k hk => by injection hk with hk; omega), (old _ om).trans h.x, (old _ om).trans h.lo, (old _ om).trans h.hi, ?_, ?_⟩
 ·
  exact (g2.block _ (lt_of_block e1) (fun e => by injection e with e; omega)).trans e1
 ·
  exact Ea ((g1.block _ hl (fun e => by injection e with e; omega)).trans h.last)
theorem aul (w : World) (N D : Int) (n : Nat) : NbG w ((((((w.alloc (.cells #[.int .i64 N, .int .i64 D] 23)).alloc (.cells #[.int .i64 0, .int .i64 0] 23)).alloc (.cells #[.int .i64 0, .int .i64 0] 23)).alloc (.cells #[.int .i64 0, .int .i64 1] 23)).alloc (.cells #[.int .i64 1, .int .i64 0] 23)).drewN n) N D 0 1 1 0 := by
 obtain ⟨h1, h2, h3, h4, h5⟩ := ll w (.cells #[.int .i64 N, .int .i64 D] 23) (.cells #[.int .i64 0, .int .i64 0] 23) (.cells #[.int .i64 0, .int .i64 0] 23)
 obtain ⟨g1, g2, g3, g4⟩ := jm (((w.alloc (.cells #[.int .i64 N, .int .i64 D] 23)).alloc (.cells #[.int .i64 0, .int .i64 0] 23)).alloc (.cells #[.int .i64 0, .int .i64 0] 23)) (.cells #[.int .i64 0, .int .i64 1] 23) (.cells #[.int .i64 1, .int .i64 0] 23)
 have up := g4.block
 rw [h4] at g1 g2 up
 exact ⟨(au h5 g4).grown (Qc (Dk _ none) n) (by have := (au h5 g4).size; omega) (fun k hk => by cases hk), (up _ om).trans h1, (up _ om).trans h2, (up _ om).trans h3, g1, g2⟩

theorem avr {N D m ln ld c e d s u : Int} (h : Wd.Vx N D m ln ld c e d s u) (ok : Wd.nu N D) (hmD : m < D) : Wd.nu c e ∧ Wd.nu ln ld := by
 obtain ⟨o1, o2, o3, o4, o5⟩ := ok
 have g1 := h.ld1; have g2 := h.e1; have g3 := h.dp; have g4 := h.up; have g5 := h.lm; have g6 := h.em
 have key : ld * u + e * d = D := by
  have k1 : s * (ld * u + e * d) = s * D := by
   have a1 : ld * (N * e - D * c) - e * (N * ld - D * ln) = D * (ln * e - c * ld) := by
    rw [Int.mul_sub, Int.mul_sub, Int.mul_sub]
    have i1 : ld * (N * e) = e * (N * ld) := by rw [Int.mul_comm ld, Int.mul_assoc, Int.mul_comm e ld, ← Int.mul_assoc, Int.mul_comm (N * ld) e]
    have i2 : ld * (D * c) = D * (c * ld) := by rw [Int.mul_comm ld, Int.mul_assoc]
    have i3 : e * (D * ln) = D * (ln * e) := by rw [Int.mul_comm e, Int.mul_assoc]
    omega
   rw [h.aqe, h.bay, h.Gt, Int.mul_neg] at a1
   rw [Int.mul_add, Int.mul_left_comm s ld u, Int.mul_left_comm s e d, Int.mul_comm s D]
   omega
  rcases h.gm with e | e <;> rw [e] at k1 <;> omega
 have p1 : 1 * 1 ≤ ld * u := Int.mul_le_mul om om om om
 have p2 : 1 * 1 ≤ e * d := Int.mul_le_mul om om om om
 have p3 : 1 * u ≤ ld * u := Int.mul_le_mul_of_nonneg_right om om
 have p4 : 1 * d ≤ e * d := Int.mul_le_mul_of_nonneg_right om om
 have hu : u < D := by generalize ld * u = x at *; generalize e * d = y at *; omega
 have hd : d < D := by generalize ld * u = x at *; generalize e * d = y at *; omega
 have cop : ln.natAbs.Coprime ld.natAbs ∧ c.natAbs.Coprime e.natAbs := by
  have ajv := h.Gt
  constructor
  ·
   apply Nat.dvd_one.1
   have d1 : ((ln.natAbs.gcd ld.natAbs : Nat) : Int) ∣ ln := Int.dvd_trans (Int.ofNat_dvd.2 (Nat.gcd_dvd_left _ _)) (Int.natAbs_dvd.2 (Int.dvd_refl _))
   have d2 : ((ln.natAbs.gcd ld.natAbs : Nat) : Int) ∣ ld := Int.dvd_trans (Int.ofNat_dvd.2 (Nat.gcd_dvd_right _ _)) (Int.natAbs_dvd.2 (Int.dvd_refl _))
   have d3 := Int.dvd_sub (Int.dvd_trans d1 (Int.dvd_mul_right ln e)) (Int.dvd_trans d2 (Int.dvd_mul_left c ld))
   rw [ajv] at d3
   have d4 := Int.natAbs_dvd_natAbs.2 d3
   rw [Int.natAbs_natCast] at d4
   rcases h.gm with e | e <;> rw [e] at d4 <;> exact d4
  ·
   apply Nat.dvd_one.1
   have d1 : ((c.natAbs.gcd e.natAbs : Nat) : Int) ∣ c := Int.dvd_trans (Int.ofNat_dvd.2 (Nat.gcd_dvd_left _ _)) (Int.natAbs_dvd.2 (Int.dvd_refl _))
   have d2 : ((c.natAbs.gcd e.natAbs : Nat) : Int) ∣ e := Int.dvd_trans (Int.ofNat_dvd.2 (Nat.gcd_dvd_right _ _)) (Int.natAbs_dvd.2 (Int.dvd_refl _))
   have d3 := Int.dvd_sub (Int.dvd_trans d2 (Int.dvd_mul_left ln e)) (Int.dvd_trans d1 (Int.dvd_mul_right c ld))
   rw [ajv] at d3
   have d4 := Int.natAbs_dvd_natAbs.2 d3
   rw [Int.natAbs_natCast] at d4
   rcases h.gm with e | e <;> rw [e] at d4 <;> exact d4
 have big : ∀ (x y z v : Int), 1 ≤ y → y ≤ m → N * y - D * x = v → -D < v → v < D → -1000000000000 ≤ x ∧ x ≤ 1000000000000 := fun x y z v hy hym hv v1 v2 => by
  have t1 : N * y ≤ 1000000000000 * y := Int.mul_le_mul_of_nonneg_right om om
  have t2 : -1000000000000 * y ≤ N * y := Int.mul_le_mul_of_nonneg_right om om
  constructor
  ·
   have : D * (-1000000000001) < D * x := by generalize N * y = a at *; generalize D * x = b at *; omega
   have := Int.lt_of_mul_lt_mul_left this om
   omega
  ·
   have : D * x < D * 1000000000001 := by generalize N * y = a at *; generalize D * x = b at *; omega
   have := Int.lt_of_mul_lt_mul_left this om
   omega
 have q1 := big c e 0 (s * u) om om h.aqe (by rcases h.gm with e | e <;> rw [e] <;> omega) (by rcases h.gm with e | e <;> rw [e] <;> omega)
 have q2 := big ln ld 0 (-(s * d)) om om h.bay (by rcases h.gm with e | e <;> rw [e] <;> omega) (by rcases h.gm with e | e <;> rw [e] <;> omega)
 exact ⟨⟨by omega, by omega, q1.1, q1.2, cop.2⟩, ⟨by omega, by omega, q2.1, q2.2, cop.1⟩⟩
end Go.Proofs.YtpjgoogeokbaaaaGreatDoor
namespace Go.Proofs.YtpjgoogeokbaaaaGreatDoor
open Go.RowKit

namespace Wd
end Wd

end Go.Proofs.YtpjgoogeokbaaaaGreatDoor
namespace Go.Proofs.YtpjgoogeokbaaaaGreatDoor
namespace Wd

end Wd
end Go.Proofs.YtpjgoogeokbaaaaGreatDoor
namespace Go.Proofs.YtpjgoogeokbaaaaGreatDoor
namespace Wd

structure Ac (N D m a b c e : Int) : Prop where
 b1 : 1 ≤ b
 bm : b ≤ m
 e1 : 1 ≤ e
 em : e ≤ m
 Gt : b * c - a * e = 1
 sum : m < b + e
 lo : 0 < N * b - a * D
 hi : 0 < c * D - N * e
theorem Ac.aug {N D m ln ld c e d s u : Int} (h : Vx N D m ln ld c e d s u) : (s = -1 → Ac N D m ln ld c e) ∧ (s = 1 → Ac N D m c e ln ld) := by
 have g1 := h.bay; have g2 := h.aqe; have g3 := h.Gt; have g4 := h.sum; have g5 := h.dp; have g6 := h.up
 rw [Int.mul_comm D ln] at g1
 rw [Int.mul_comm D c] at g2
 constructor
 ·
  intro hs
  rw [hs, Int.neg_mul, Int.one_mul] at g1 g2
  rw [hs] at g3
  refine ⟨h.ld1, h.lm, h.e1, h.em, ?_, by omega, by omega, by omega⟩
  rw [Int.mul_comm ld c]; omega
 ·
  intro hs
  rw [hs, Int.one_mul] at g1 g2
  rw [hs] at g3
  refine ⟨h.e1, h.em, h.ld1, h.lm, ?_, by omega, by omega, by omega⟩
  rw [Int.mul_comm e ln]; omega
theorem Ac.out {N D m a b c e p q : Int} (h : Ac N D m a b c e) (h1 : 1 ≤ q) (h2 : q ≤ m) : p * b ≤ a * q ∨ c * q ≤ p * e := by
 rcases Int.lt_or_le (a * q) (p * b) with h3 | h3
 ·
  rcases Int.lt_or_le (p * e) (c * q) with h4 | h4
  ·
   have := boz (a := a) (b := b) (c := c) (d := e) (p := p) (q := q) (by have := h.b1; omega) (by have := h.e1; omega) h.Gt om om
   have := h.sum
   omega
  ·
   exact .inr h4
 ·
  exact .inl h3
theorem ajc {N D a b p q : Int} (hD : 0 < D) (h : p * b ≤ a * q) : (N * b - a * D) * q ≤ (N * q - p * D) * b := by
 have m1 : p * b * D ≤ a * q * D := Int.mul_le_mul_of_nonneg_right h om
 rw [Int.sub_mul, Int.sub_mul, Int.mul_right_comm N b q, Int.mul_right_comm a D q, Int.mul_right_comm p D b]
 omega
theorem ajd {N D c e p q : Int} (hD : 0 < D) (h : c * q ≤ p * e) : (c * D - N * e) * q ≤ (p * D - N * q) * e := by
 have m1 : c * q * D ≤ p * e * D := Int.mul_le_mul_of_nonneg_right h om
 rw [Int.sub_mul, Int.sub_mul, Int.mul_right_comm N e q, Int.mul_right_comm c D q, Int.mul_right_comm p D e]
 omega
theorem cross {u v q y b e : Int} (hb : 0 < b) (he : 0 < e) (hq : 0 < q) (h1 : u * e ≤ v * b) (h2 : v * q ≤ y * e) : u * q ≤ y * b := by
 refine Int.le_of_mul_le_mul_right (a := e) ?_ he
 have a1 : u * e * q ≤ v * b * q := Int.mul_le_mul_of_nonneg_right h1 om
 have a2 : v * q * b ≤ y * e * b := Int.mul_le_mul_of_nonneg_right h2 om
 rw [Int.mul_right_comm u q e, Int.mul_right_comm y b e]
 rw [Int.mul_right_comm v b q] at a1
 omega
def pick (N D a b c e : Int) : Int × Int := if (N * b - a * D) * e < (c * D - N * e) * b ∨ ((N * b - a * D) * e = (c * D - N * e) * b ∧ b ≤ e) then (a, b) else (c, e)
theorem bgr (N D a b c e : Int) : pick N D a b c e = (a, b) ∨ pick N D a b c e = (c, e) := by
 unfold pick; split
 ·
  exact .inl rfl
 ·
  exact .inr rfl
theorem aor {N D m a b c e p q : Int} (hD : 0 < D) (h : Ac N D m a b c e) (h1 : 1 ≤ q) (h2 : q ≤ m) :
  (((pick N D a b c e).1 * D - N * (pick N D a b c e).2).natAbs : Int) * q ≤ ((p * D - N * q).natAbs : Int) * (pick N D a b c e).2 := by
 have hb := h.b1; have he := h.e1; have hlo := h.lo; have hhi := h.hi
 have out := h.out (p := p) h1 h2
 have boy : p * D - N * q ≤ ((p * D - N * q).natAbs : Int) := by omega
 have bow : N * q - p * D ≤ ((p * D - N * q).natAbs : Int) := by omega
 generalize ((p * D - N * q).natAbs : Int) = y at *
 have yb : (N * q - p * D) * b ≤ y * b := Int.mul_le_mul_of_nonneg_right bow om
 have ye : (p * D - N * q) * e ≤ y * e := Int.mul_le_mul_of_nonneg_right boy om
 have e1 : ((a * D - N * b).natAbs : Int) = N * b - a * D := by omega
 have e2 : ((c * D - N * e).natAbs : Int) = c * D - N * e := by omega
 unfold pick
 split
 ·
  rename_i hc
  dsimp only
  rw [e1]
  rcases out with ho | ho
  ·
   exact Int.le_trans (ajc hD ho) yb
  ·
   have g := Int.le_trans (ajd (N := N) hD ho) ye
   exact cross om om om (by rcases hc with hc | hc <;> omega) g
 ·
  rename_i hc
  dsimp only
  rw [e2]
  rcases out with ho | ho
  ·
   have g := Int.le_trans (ajc (N := N) hD ho) yb
   exact cross om om om om g
  ·
   exact Int.le_trans (ajd hD ho) ye
def Nk (N D m n d : Int) : Prop := (D ≤ m ∧ n = N ∧ d = D) ∨ (m < D ∧ ∃ a b c e, Ac N D m a b c e ∧ nu a b ∧ nu c e ∧ n = (pick N D a b c e).1 ∧ d = (pick N D a b c e).2)
theorem Nk.ok {N D m n d : Int} (h : Nk N D m n d) (ok : nu N D) : nu n d ∧ d ≤ m := by
 rcases h with ⟨h1, rfl, rfl⟩ | ⟨_, a, b, c, e, hs, o1, o2, rfl, rfl⟩
 ·
  exact ⟨ok, h1⟩
 ·
  rcases bgr N D a b c e with h | h <;> rw [h]
  ·
   exact ⟨o1, hs.bm⟩
  ·
   exact ⟨o2, hs.em⟩
theorem Nk.least {N D m n d : Int} (h : Nk N D m n d) (ok : nu N D) (p q : Int) (h1 : 1 ≤ q) (h2 : q ≤ m) : ((n * D - N * d).natAbs : Int) * q ≤ ((p * D - N * q).natAbs : Int) * d := by
 have hD := ok.1
 rcases h with ⟨_, rfl, rfl⟩ | ⟨_, a, b, c, e, hs, o1, o2, rfl, rfl⟩
 ·
  rw [Int.sub_self, Int.natAbs_zero]
  have := Int.mul_nonneg (a := ((p * d - n * q).natAbs : Int)) (b := d) om om
  omega
 ·
  exact aor om hs h1 h2

def adw (q : Rat) : Rat := if q.num < 0 then -q else q
theorem Wl {x y : Int} (hy : 0 < y) : (Rat.divInt x y).num < 0 ↔ x < 0 := by
 have h1 : 0 ≤ Rat.divInt x y ↔ 0 ≤ x := Rat.divInt_nonneg_iff_of_pos_right hy
 rw [← Rat.num_nonneg] at h1
 omega
theorem Wx {x y : Int} (hy : 0 < y) : adw (Rat.divInt x y) = Rat.divInt (x.natAbs : Int) y := by
 unfold adw
 by_cases h : x < 0
 ·
  rw [if_pos ((Wl hy).2 h), Rat.neg_divInt, show (x.natAbs : Int) = -x by omega]
 ·
  rw [if_neg (fun h2 => h ((Wl hy).1 h2)), show (x.natAbs : Int) = x by omega]
theorem auq {x y x' y' : Int} (hy : 0 < y) (hy' : 0 < y') (h : x * y' ≤ x' * y) :
  (Rat.divInt x y).num * ((Rat.divInt x' y').den : Int) - (Rat.divInt x' y').num * ((Rat.divInt x y).den : Int) ≤ 0 := by
 have A : (Rat.divInt x y).num * y = x * ((Rat.divInt x y).den : Int) := (Rat.divInt_eq_divInt_iff (by have := (Rat.divInt x y).den_nz; omega) om).1 (Rat.num_divInt_den (Rat.divInt x y))
 have B : (Rat.divInt x' y').num * y' = x' * ((Rat.divInt x' y').den : Int) := (Rat.divInt_eq_divInt_iff (by have := (Rat.divInt x' y').den_nz; omega) om).1 (Rat.num_divInt_den (Rat.divInt x' y'))
 have p1 : 0 < ((Rat.divInt x y).den : Int) := by have := (Rat.divInt x y).den_pos; omega
 have p2 : 0 < ((Rat.divInt x' y').den : Int) := by have := (Rat.divInt x' y').den_pos; omega
 generalize (Rat.divInt x y).num = n1 at *
 generalize ((Rat.divInt x y).den : Int) = d1 at *
 generalize (Rat.divInt x' y').num = n2 at *
 generalize ((Rat.divInt x' y').den : Int) = d2 at *
 have h3 : n1 * d2 ≤ n2 * d1 := by
  refine Int.le_of_mul_le_mul_right (a := y * y') ?_ (Int.mul_pos hy hy')
  have m1 : x * y' * (d1 * d2) ≤ x' * y * (d1 * d2) := Int.mul_le_mul_of_nonneg_right h (Int.le_of_lt (Int.mul_pos p1 p2))
  have i1 : n1 * d2 * (y * y') = x * y' * (d1 * d2) := by
   calc n1 * d2 * (y * y') = n1 * y * (d2 * y') := by ac_rfl
    _ = x * d1 * (d2 * y') := by rw [A]
    _ = x * y' * (d1 * d2) := by ac_rfl
  have i2 : n2 * d1 * (y * y') = x' * y * (d1 * d2) := by
   calc n2 * d1 * (y * y') = n2 * y' * (d1 * y) := by ac_rfl
    _ = x' * d2 * (d1 * y) := by rw [B]
    _ = x' * y * (d1 * d2) := by ac_rfl
  rw [i1, i2]; exact m1
 omega
theorem Zb {n d N D : Int} (hd : 0 < d) (hD : 0 < D) : qR n d - qR N D = Rat.divInt (n * D - N * d) (d * D) := by
 unfold qR
 rw [Rat.divInt_sub_divInt _ _ om om]
theorem Nk.far {N D m n d : Int} (h : Nk N D m n d) (ok : nu N D) (p q : Int) (h1 : 1 ≤ q) (h2 : q ≤ m) :
  (adw (qR n d - qR N D)).num * ((adw (qR p q - qR N D)).den : Int) - (adw (qR p q - qR N D)).num * ((adw (qR n d - qR N D)).den : Int) ≤ 0 := by
 have hD := ok.1
 have hd := (h.ok ok).1.1
 have hl := h.least ok p q h1 h2
 rw [Zb om om, Zb om om, Wx (Int.mul_pos om om), Wx (Int.mul_pos om om)]
 refine auq (Int.mul_pos om om) (Int.mul_pos om om) ?_
 rw [← Int.mul_assoc, ← Int.mul_assoc]
 exact Int.mul_le_mul_of_nonneg_right hl om
end Wd
end Go.Proofs.YtpjgoogeokbaaaaGreatDoor
namespace Go.Proofs.YtpjgoogeokbaaaaGreatDoor
open Go.RowKit

namespace Wd
theorem Ac.turn {N D m a b c e : Int} (h : Ac N D m a b c e) : Ac (-N) D m (-c) e (-a) b := by
 have h1 := h.Gt; have h2 := h.sum; have h3 := h.lo; have h4 := h.hi
 refine ⟨h.e1, h.em, h.b1, h.bm, ?_, by omega, ?_, ?_⟩
 ·
  rw [Int.mul_neg, Int.neg_mul, Int.mul_comm e a, Int.mul_comm c b]; omega
 ·
  rw [Int.neg_mul, Int.neg_mul]; omega
 ·
  rw [Int.neg_mul, Int.neg_mul]; omega
theorem afs {a' b' c e N D : Int} (hD : 0 < D) (h1 : a' * D < N * b') (h2 : N * e < c * D) (he : 1 ≤ e) (hb : 1 ≤ b') : a' * e < c * b' := by
 refine Int.lt_of_mul_lt_mul_right (a := D) ?_ om
 have m1 : a' * D * e < N * b' * e := Int.mul_lt_mul_of_pos_right h1 om
 have m2 : N * e * b' < c * D * b' := Int.mul_lt_mul_of_pos_right h2 om
 rw [Int.mul_right_comm a' e D, Int.mul_right_comm c b' D]
 rw [Int.mul_right_comm N b' e] at m1
 omega
theorem Ac.amh {N D m a b c e a' b' c' e' : Int} (hD : 0 < D) (h : Ac N D m a b c e) (h' : Ac N D m a' b' c' e') : a' * b ≤ a * b' := by
 rcases h.out (p := a') h'.b1 h'.bm with g | g
 ·
  exact g
 ·
  have := afs (N := N) (D := D) (a' := a') (b' := b') (c := c) (e := e) hD (by have := h'.lo; omega) (by have := h.hi; omega) h.e1 h'.b1
  omega
theorem amz {a b c e a' b' : Int} (hd : b * c - a * e = 1) (h : a' * b = a * b') : b ∣ b' := by
 refine ⟨b' * c - a' * e, ?_⟩
 calc b' = b' * (b * c - a * e) := by rw [hd, Int.mul_one]
  _ = b * (b' * c) - (a * b') * e := by rw [Int.mul_sub]; congr 1 <;> ac_rfl
  _ = b * (b' * c) - (a' * b) * e := by rw [h]
  _ = b * (b' * c - a' * e) := by rw [Int.mul_sub]; congr 1; ac_rfl
theorem Ac.ama {N D m a b c e a' b' c' e' : Int} (hD : 0 < D) (h : Ac N D m a b c e) (h' : Ac N D m a' b' c' e') : a = a' ∧ b = b' := by
 have e1 : a' * b = a * b' := Int.le_antisymm (h.amh hD h') (h'.amh hD h)
 have d1 := amz h.Gt e1
 have d2 := amz h'.Gt e1.symm
 have e2 : b = b' := Int.dvd_antisymm (by have := h.b1; omega) (by have := h'.b1; omega) d1 d2
 subst e2
 exact ⟨(Int.eq_of_mul_eq_mul_right (by have := h.b1; omega) e1).symm, rfl⟩
theorem Ac.uniq {N D m a b c e a' b' c' e' : Int} (hD : 0 < D) (h : Ac N D m a b c e) (h' : Ac N D m a' b' c' e') : a = a' ∧ b = b' ∧ c = c' ∧ e = e' := by
 obtain ⟨h1, h2⟩ := h.ama hD h'
 obtain ⟨h3, h4⟩ := h.turn.ama hD h'.turn
 exact ⟨h1, h2, by omega, h4⟩
structure Gc (N D m a b c e : Int) : Prop where
 b1 : 1 ≤ b
 bm : b ≤ m
 e1 : 1 ≤ e
 em : e ≤ m
 Gt : b * c - a * e = 1
 lo : 0 < N * b - a * D
 hi : 0 < c * D - N * e
 la : -(1000000000001 * b) ≤ a
 ua : a ≤ 1000000000001 * b
 lb : -(1000000000001 * e) ≤ c
 ub : c ≤ 1000000000001 * e
theorem Gc.turn {N D m a b c e : Int} (h : Gc N D m a b c e) : Gc (-N) D m (-c) e (-a) b := by
 have h1 := h.Gt; have h3 := h.lo; have h4 := h.hi; have h5 := h.la; have h6 := h.ua; have h7 := h.lb; have h8 := h.ub
 refine ⟨h.e1, h.em, h.b1, h.bm, ?_, ?_, ?_, by omega, by omega, by omega, by omega⟩
 ·
  rw [Int.mul_neg, Int.neg_mul, Int.mul_comm e a, Int.mul_comm c b]; omega
 ·
  rw [Int.neg_mul, Int.neg_mul]; omega
 ·
  rw [Int.neg_mul, Int.neg_mul]; omega
theorem Gc.sides {N D m a b c e : Int} (h : Gc N D m a b c e) (hs : m < b + e) : Ac N D m a b c e :=
 ⟨h.b1, h.bm, h.e1, h.em, h.Gt, hs, h.lo, h.hi⟩
theorem Gc.btm {N D m a b c e : Int} (h : Gc N D m a b c e) : (N * b - a * D) * e + (c * D - N * e) * b = D := by
 have hd := h.Gt
 calc (N * b - a * D) * e + (c * D - N * e) * b = D * (b * c - a * e) := by
       rw [Int.sub_mul, Int.sub_mul, Int.mul_sub, Int.mul_right_comm N e b, show a * D * e = D * (a * e) by ac_rfl, show c * D * b = D * (b * c) by ac_rfl]; omega
  _ = D := by rw [hd, Int.mul_one]
theorem Gc.leD {N D m a b c e : Int} (h : Gc N D m a b c e) : N * b - a * D ≤ D ∧ c * D - N * e ≤ D := by
 have hs := h.btm; have h1 := h.lo; have h2 := h.hi; have h3 := h.b1; have h4 := h.e1
 have m1 : (N * b - a * D) * 1 ≤ (N * b - a * D) * e := Int.mul_le_mul_of_nonneg_left h4 om
 have m2 : (c * D - N * e) * 1 ≤ (c * D - N * e) * b := Int.mul_le_mul_of_nonneg_left h3 om
 have m3 : 0 ≤ (N * b - a * D) * e := Int.mul_nonneg om om
 have m4 : 0 ≤ (c * D - N * e) * b := Int.mul_nonneg om om
 constructor <;> omega
def Hy (L H m b e : Int) : Int := if (m - b) / e < L / H then (m - b) / e else L / H
theorem avx {L H m b e : Int} (hL : 0 < L) (hH : 0 < H) (hb : b ≤ m) (he : 1 ≤ e) : 0 ≤ Hy L H m b e ∧ Hy L H m b e * e ≤ m - b ∧ Hy L H m b e * H ≤ L := by
 have d1 : 0 ≤ (m - b) / e := Int.ediv_nonneg om om
 have d2 : 0 ≤ L / H := Int.ediv_nonneg om om
 have f1 := Int.ediv_mul_le (m - b) (show e ≠ 0 by omega)
 have f2 := Int.ediv_mul_le L (show H ≠ 0 by omega)
 unfold Hy
 split
 ·
  rename_i h
  have g : (m - b) / e * H ≤ L / H * H := Int.mul_le_mul_of_nonneg_right om om
  exact ⟨d1, f1, by omega⟩
 ·
  rename_i h
  have g : L / H * e ≤ (m - b) / e * e := Int.mul_le_mul_of_nonneg_right om om
  exact ⟨d2, by omega, f2⟩
theorem Ru {L H m b e : Int} (hH : 0 < H) (he : 1 ≤ e) (hs : b + e ≤ m) (h : H ≤ L) : 1 ≤ Hy L H m b e := by
 have d1 : 1 ≤ (m - b) / e := (Int.le_ediv_iff_mul_le om).2 om
 have d2 : 1 ≤ L / H := (Int.le_ediv_iff_mul_le hH).2 om
 unfold Hy; split <;> omega
theorem Gc.aqi {N D m a b c e : Int} (h : Gc N D m a b c e) : let k := Hy (N * b - a * D) (c * D - N * e) m b e; 0 ≤ k ∧ k * e ≤ m - b ∧ k * (c * D - N * e) ≤ N * b - a * D :=
 avx h.lo h.hi h.bm h.e1
theorem asx {N D a b c e k : Int} : N * (b + k * e) - (a + k * c) * D = N * b - a * D - k * (c * D - N * e) := by
 rw [Int.mul_add, Int.add_mul, Int.mul_sub, show N * (k * e) = k * (N * e) by ac_rfl, show k * c * D = k * (c * D) by ac_rfl]; omega
theorem ahz {a b c e k : Int} : (b + k * e) * c - (a + k * c) * e = b * c - a * e := by
 rw [Int.add_mul, Int.add_mul, show k * e * c = k * c * e by ac_rfl]; omega
theorem Gc.step {N D m a b c e : Int} (h : Gc N D m a b c e) {k : Int} (hk : 0 ≤ k) (h1 : k * e ≤ m - b) (h2 : k * (c * D - N * e) ≤ N * b - a * D) (h0 : N * (b + k * e) - (a + k * c) * D ≠ 0) :
  Gc N D m (a + k * c) (b + k * e) c e := by
 have he := h.e1; have hb := h.b1
 have p : 0 ≤ k * e := Int.mul_nonneg hk om
 have q1 : k * -(1000000000001 * e) ≤ k * c := Int.mul_le_mul_of_nonneg_left h.lb hk
 have q2 : k * c ≤ k * (1000000000001 * e) := Int.mul_le_mul_of_nonneg_left h.ub hk
 rw [Int.mul_neg, Int.mul_left_comm] at q1
 rw [Int.mul_left_comm k] at q2
 have r1 := h.la; have r2 := h.ua
 refine ⟨by omega, by omega, he, h.em, ahz.trans h.Gt, ?_, h.hi, by omega, by omega, h.lb, h.ub⟩
 rw [asx] at h0 ⊢; omega
theorem Fz {a b c e : Int} (h : b * c - a * e = 1) : a.natAbs.gcd b.natAbs = 1 := by
 have d1 : ((a.natAbs.gcd b.natAbs : Nat) : Int) ∣ a := Int.ofNat_dvd_left.2 (Nat.gcd_dvd_left _ _)
 have d2 : ((a.natAbs.gcd b.natAbs : Nat) : Int) ∣ b := Int.ofNat_dvd_left.2 (Nat.gcd_dvd_right _ _)
 have d3 : ((a.natAbs.gcd b.natAbs : Nat) : Int) ∣ 1 := by
  rw [← h]; exact Int.dvd_sub (Int.dvd_mul_of_dvd_left d2) (Int.dvd_mul_of_dvd_left d1)
 have := Int.ofNat_dvd_left.1 d3
 exact Nat.dvd_one.1 this
theorem amy {N D a b c e : Int} (hD : 0 < D) (hb : 1 ≤ b) (hc : N.natAbs.gcd D.natAbs = 1) (hd : b * c - a * e = 1) (h : N * b - a * D = 0) : a = N ∧ b = D := by
 have g := Fz hd
 have e1 : N * b = a * D := by omega
 have e2 : N.natAbs * b.natAbs = a.natAbs * D.natAbs := by rw [← Int.natAbs_mul, ← Int.natAbs_mul, e1]
 have d1 : D.natAbs ∣ b.natAbs := (Nat.Coprime.symm hc).dvd_of_dvd_mul_left (by rw [e2]; exact Nat.dvd_mul_left _ _)
 have d2 : b.natAbs ∣ D.natAbs := (Nat.Coprime.symm g).dvd_of_dvd_mul_left (by rw [← e2]; exact Nat.dvd_mul_left _ _)
 have e3 : b.natAbs = D.natAbs := Nat.dvd_antisymm d2 d1
 have e4 : b = D := by omega
 subst e4
 exact ⟨(Int.eq_of_mul_eq_mul_right om e1).symm, rfl⟩
def Uv (N D m a b c e : Int) : Prop := (D ≤ m ∧ a = N ∧ b = D ∧ c = N ∧ e = D) ∨ (Ac N D m a b c e)
theorem Ac.big {N D m a b c e : Int} (hD : 0 < D) (h : Ac N D m a b c e) : m < D := by
 rcases Int.lt_or_le m D with g | g
 ·
  exact g
 ·
  have h1 := h.lo; have h2 := h.hi; have h3 := h.b1; have h4 := h.e1
  rcases h.out (p := N) (q := D) om g with g | g <;> omega
theorem ayd {N D m : Int} (hD : 1 < D) (hm : 1 ≤ m) (hN : -1000000000000 ≤ N) (hN2 : N ≤ 1000000000000) (h0 : N % D ≠ 0) : Gc N D m (N / D) 1 (N / D + 1) 1 := by
 have f1 := Int.emod_add_mul_ediv N D
 have f2 := Int.emod_nonneg N (show D ≠ 0 by omega)
 have f3 := Int.emod_lt_of_pos N (show 0 < D by omega)
 have g1 : -1000000000000 ≤ N / D := by
  rw [Int.le_ediv_iff_mul_le om]
  omega
 have g2 : N / D ≤ 1000000000000 := by
  have : N / D < 1000000000001 := Int.ediv_lt_of_lt_mul om om
  omega
 have e1 : (N / D + 1) * D = D * (N / D) + D := by rw [Int.add_mul, Int.one_mul, Int.mul_comm]
 have e2 : N / D * D = D * (N / D) := Int.mul_comm _ _
 exact ⟨by omega, hm, by omega, hm, by omega, by omega, by omega, by omega, by omega, by omega, by omega⟩
theorem Ik {a b : Int} (hb : 0 < b) (hg : a.natAbs.gcd b.natAbs = 1) : (Rat.divInt a b).num = a ∧ ((Rat.divInt a b).den : Int) = b := by
 obtain ⟨h1, h2⟩ := Hw a b om
 rw [hg, Int.sign_eq_one_of_pos hb] at h1 h2
 rw [h1, h2]
 exact ⟨Int.tdiv_one _, Int.tdiv_one _⟩
theorem akf {p d : Int} (hd : 0 < d) : (Rat.divInt p d).num / ((Rat.divInt p d).den : Int) = p / d := by
 have A : (Rat.divInt p d).num * d = p * ((Rat.divInt p d).den : Int) := (Rat.divInt_eq_divInt_iff (by have := (Rat.divInt p d).den_nz; omega) om).1 (Rat.num_divInt_den (Rat.divInt p d))
 have hn : 0 < ((Rat.divInt p d).den : Int) := by have := (Rat.divInt p d).den_pos; omega
 generalize (Rat.divInt p d).num = x at *
 generalize ((Rat.divInt p d).den : Int) = y at *
 have e1 : x * d / (y * d) = x / y := Int.mul_ediv_mul_of_pos_left _ _ hd
 have e2 : p * y / (d * y) = p / d := Int.mul_ediv_mul_of_pos_left _ _ hn
 rw [← e1, ← e2, A, Int.mul_comm y d]
theorem bhf (a b : Int) : Rat.divInt a 1 + Rat.divInt b 1 = Rat.divInt (a + b) 1 := by
 rw [Rat.divInt_add_divInt _ _ om om]; simp only [Int.mul_one]
theorem bhd (a b : Int) : Rat.divInt a 1 - Rat.divInt b 1 = Rat.divInt (a - b) 1 := by
 rw [Rat.divInt_sub_divInt _ _ om om]; simp only [Int.mul_one]
theorem bhe (a b : Int) : Rat.divInt a 1 * Rat.divInt b 1 = Rat.divInt (a * b) 1 := by
 rw [Rat.divInt_mul_divInt]
 simp only [Int.mul_one]
theorem bbb {L H D : Int} (hD : D ≠ 0) : Rat.divInt L D / Rat.divInt H D = Rat.divInt L H := by
 rw [Rat.div_def, Rat.inv_divInt, Rat.divInt_mul_divInt, Int.mul_comm D H, Rat.divInt_mul_right hD]
theorem ayc {p d q : Int} (hd : d ≠ 0) : Rat.divInt p d - Rat.divInt q 1 = Rat.divInt (p - q * d) d := by
 rw [Rat.divInt_sub_divInt _ _ om om, Int.mul_one, Int.mul_one]
theorem akb {q : Int} : ((Rat.divInt q 1 * Rat.divInt 1 2).den : Int) = 1 ↔ q.tmod 2 = 0 := by
 rw [Rat.divInt_mul_divInt, Int.mul_one, Int.one_mul]
 constructor
 ·
  intro h
  have A : (Rat.divInt q 2).num * 2 = q * ((Rat.divInt q 2).den : Int) := (Rat.divInt_eq_divInt_iff (by have := (Rat.divInt q 2).den_nz; omega) om).1 (Rat.num_divInt_den (Rat.divInt q 2))
  rw [h] at A
  exact Int.tmod_eq_zero_of_dvd om
 ·
  intro h
  have h := Int.dvd_of_tmod_eq_zero h
  obtain ⟨k, hk⟩ : ∃ k, q = k * 2 := ⟨q / 2, by omega⟩
  rw [hk, show (2 : Int) = 1 * 2 from rfl, ← Int.mul_assoc, Rat.divInt_mul_right om, Int.mul_one]
  exact (yg k).2
theorem auy {p q : Int} : Rat.divInt p 1 / Rat.divInt q 1 = Rat.divInt p q := by
 rw [Rat.div_def, Rat.inv_divInt, Rat.divInt_mul_divInt, Int.mul_one, Int.one_mul]
theorem bgx {p d q : Int} : Rat.divInt p d * Rat.divInt q 1 = Rat.divInt (p * q) d := by rw [Rat.divInt_mul_divInt, Int.mul_one]
theorem azq {p d q : Int} (hd : d ≠ 0) : Rat.divInt q 1 - Rat.divInt p d = Rat.divInt (q * d - p) d := by
 rw [Rat.divInt_sub_divInt _ _ om hd, Int.one_mul, Int.mul_one]
theorem bio {h d : Int} (hd : d ≠ 0) (hh : h ≠ 0) : (Rat.divInt h d).num ≠ 0 := by
 intro e
 have A : (Rat.divInt h d).num * d = h * ((Rat.divInt h d).den : Int) := (Rat.divInt_eq_divInt_iff (by have := (Rat.divInt h d).den_nz; omega) om).1 (Rat.num_divInt_den (Rat.divInt h d))
 rw [e, Int.zero_mul] at A
 rcases Int.mul_eq_zero.1 A.symm with h1 | h1
 ·
  exact hh h1
 ·
  have := (Rat.divInt h d).den_nz; omega
end Wd

end Go.Proofs.YtpjgoogeokbaaaaGreatDoor
namespace Go.Proofs.YtpjgoogeokbaaaaGreatDoor
namespace Rg

def wy (l : List Oper) (j : Nat) : Option Tmp := (l[j]?).bind (·.dst)
def puts (v : Nat → Value) : Nat → List Oper → Act → Act
 | _, [], a => a
 | k, o :: l, a => puts v (k + 1) l (a.put o.dst (v k))
theorem put_defers (a : Act) (d : Option Tmp) (v : Value) : (a.put d v).defers = a.defers := by cases d <;> rfl
theorem Xj (a : Act) (d : Option Tmp) (v : Value) : (a.put d v).tmps.size = a.tmps.size := by cases d <;> simp [Act.put]
theorem Vj (a : Act) (d : Option Tmp) (v : Value) (t : Tmp) (h : d ≠ some t) : (a.put d v).tmps.getD t undef = a.tmps.getD t undef := by
 cases d with
 | none => rfl
 | some d =>
  have hne : d ≠ t := fun e => h (by rw [e])
  simp [Act.put, Array.getElem?_setIfInBounds_ne hne]
theorem adg (a : Act) (v : Value) (d : Tmp) (h : d < a.tmps.size) : (a.put (some d) v).tmps.getD d undef = v := by
 simp [Act.put, h]
theorem Wj (v : Nat → Value) : ∀ (l : List Oper) (k : Nat) (a : Act), (puts v k l a).defers = a.defers
 | [], _, _ => rfl
 | o :: l, k, a => by rw [puts, Wj v l, put_defers]
theorem aeo (v : Nat → Value) : ∀ (l : List Oper) (k : Nat) (a : Act), (puts v k l a).tmps.size = a.tmps.size
 | [], _, _ => rfl
 | o :: l, k, a => by rw [puts, aeo v l, Xj]
theorem Xi (v : Nat → Value) (t : Tmp) : ∀ (l : List Oper) (k : Nat) (a : Act), (∀ j, wy l j ≠ some t) → (puts v k l a).tmps.getD t undef = a.tmps.getD t undef
 | [], _, _, _ => rfl
 | o :: l, k, a, h => by
  rw [puts, Xi v t l (k + 1) _ (fun j => h (j + 1)), Vj _ _ _ _ (show o.dst ≠ some t from h 0)]
theorem aio (v : Nat → Value) (d : Tmp) : ∀ (l : List Oper) (k j : Nat) (a : Act), wy l j = some d → (∀ i, wy l i = some d → i = j) → d < a.tmps.size → (puts v k l a).tmps.getD d undef = v (k + j)
 | [], _, _, _, h, _, _ => by cases h
 | o :: l, k, 0, a, h, hu, hs => by
  have ho : o.dst = some d := h
  rw [puts, Xi v d l (k + 1) _ (fun j hj => by have := hu (j + 1) hj; omega), ho, adg _ _ _ hs]; rfl
 | o :: l, k, j + 1, a, h, hu, hs => by
  rw [puts, aio v d l (k + 1) j _ h (fun i hi => by have := hu (i + 1) hi; omega) (by rw [Xj]; exact hs)]
  congr 1; omega
theorem bhm {a b : Act} (hd : a.defers = b.defers) (hs : a.tmps.size = b.tmps.size) (h : ∀ t, a.tmps.getD t undef = b.tmps.getD t undef) : a = b := by
 obtain ⟨x, y⟩ := a
 obtain ⟨x', y'⟩ := b
 dsimp only at *
 subst hd
 congr 1
 refine Array.ext hs (fun i h1 h2 => ?_)
 have := h i
 simpa [h1, h2] using this

def cnt (L : Array Bool) : Nat → Nat
 | 0 => 0
 | m + 1 => cnt L m + (if L.getD m true = true then 0 else 1)
theorem aao {L : Array Bool} {i : Nat} : ∀ {m : Nat}, m ≤ i → cnt (L.setIfInBounds i true) m = cnt L m
 | 0, _ => rfl
 | m + 1, h => by rw [cnt, cnt, aao om, getD_set_ne true om]
theorem aft {L : Array Bool} {i : Nat} : (L.setIfInBounds i true).getD i true = true := by
 simp only [Array.getD_eq_getD_getElem?, Array.getElem?_setIfInBounds]
 simp only [if_true]
 split <;> rfl
theorem anc {L : Array Bool} {i : Nat} (hi : L.getD i true = false) : ∀ {m : Nat}, i < m → cnt (L.setIfInBounds i true) m + 1 = cnt L m
 | 0, h => by omega
 | m + 1, h => by
  rw [cnt, cnt]
  by_cases hm : i = m
  ·
   subst hm
   rw [aao (Nat.le_refl _), aft, hi]
   simp
  ·
   rw [getD_set_ne true hm, ← anc hi (m := m) om]; omega
theorem Ye {L : Array Bool} : ∀ {m : Nat}, cnt L m = 0 → ∀ i, i < m → L.getD i true = true
 | 0, _, i, h => by omega
 | m + 1, h, i, hi => by
  rw [cnt] at h
  by_cases him : i = m
  ·
   subst him
   by_cases hg : L.getD i true = true
   ·
    exact hg
   ·
    rw [if_neg hg] at h; omega
  ·
   exact Ye (m := m) om i om
theorem Ru {L : Array Bool} : ∀ {m : Nat}, cnt L m ≠ 0 → ∃ i, i < m ∧ L.getD i true = false ∧ ∀ j, j < i → L.getD j true = true
 | 0, h => absurd rfl h
 | m + 1, h => by
  by_cases h0 : cnt L m = 0
  ·
   rw [cnt, h0] at h
   refine ⟨m, by omega, ?_, fun j hj => Ye h0 j hj⟩
   cases hg : L.getD m true with
   | false => rfl
   | true => rw [if_pos hg] at h; exact absurd rfl h
  ·
   obtain ⟨i, hi, h1, h2⟩ := Ru (m := m) h0
   exact ⟨i, by omega, h1, h2⟩
theorem ane (n : Nat) : ∀ {m : Nat}, m ≤ n → cnt (Array.replicate n false) m = m
 | 0, _ => rfl
 | m + 1, h => by
  rw [cnt, ane n om]
  have : (Array.replicate n false).getD m true = false := by simp [show m < n by omega]
  rw [this]; simp

def waits (l : List Oper) (k j : Nat) (d : Tmp) : Bool := Region.waitsFor .any l.toArray k j && wy l j == some d
def Tp (l : List Oper) (n : Nat) (t : Tmp) : Bool := (l.take n).all fun o => o.dst != some t
def aqt (l : List Oper) (n : Nat) : Bool := (List.range n).all fun i => match l[i]? with
 | some o => o.after.all fun e => !Region.binds .any e || decide (e.on < i)
 | none => false
def aqg (l : List Oper) (n sz : Nat) : Bool := (List.range n).all fun i => match wy l i with
 | some d => decide (d < sz) && (List.range n).all fun j => wy l j != some d || j == i
 | none => true
def full (n m : Nat) : Array Bool := Array.replicate n true ++ Array.replicate m false
def okB (l : List Oper) (n sz : Nat) : Bool :=
 decide (n ≤ l.length) && (decide (n = l.length) || (Region.sinkB .any l.toArray n && Region.chainB .any l.toArray n)) && aqt l n && aqg l n sz &&
  Region.seqB .any l.toArray (l.length - n) n (full n (l.length - n))

def Step (P : Program) (Q : Exit → Act → World → Prop) (l : List Oper) (n : Nat) (T : Nat → World → Value → Prop) (G : World → Prop) (E : World → World → Prop) (al : List Nat) (a0 : Act) (k : Nat) (o : Oper) : Prop :=
 ∀ (a : Act) (w : World), G w → (∀ t, Tp l n t = true → a.tmps.getD t undef = a0.tmps.getD t undef) → (∀ j d, waits l k j d = true → T j w (a.tmps.getD d undef)) →
  o.wp P a w (fun a' w' => ∃ v, a' = a.put o.dst v ∧ G w' ∧ E w w' ∧ T k w' v ∧ (al.contains k = true → ∀ j u, al.contains j = true → T j w u → u ≠ v)) Q
def Vw (P : Program) (Q : Exit → Act → World → Prop) (l : List Oper) (n : Nat) (T : Nat → World → Value → Prop) (G : World → Prop) (E : World → World → Prop) (al : List Nat) (a0 : Act) (k : Nat) (o : Oper) : Prop :=
 ∀ (a : Act) (w : World), G w → (∀ t, Tp l n t = true → a.tmps.getD t undef = a0.tmps.getD t undef) → (∀ j d, waits l k j d = true → T j w (a.tmps.getD d undef)) →
  if Region.wanted o (yielded l.toArray a.tmps) = true then o.wp P a w (fun a' w' => ∃ v, a' = a.put o.dst v ∧ G w' ∧ E w w' ∧ T k w' v ∧ (al.contains k = true → ∀ j u, al.contains j = true → T j w u → u ≠ v)) Q
  else E w w ∧ T k w undef ∧ (al.contains k = true → ∀ j u, al.contains j = true → T j w u → u ≠ undef)
def Steps (P : Program) (Q : Exit → Act → World → Prop) (l : List Oper) (n : Nat) (T : Nat → World → Value → Prop) (G : World → Prop) (E : World → World → Prop) (al : List Nat) (a0 : Act) : Nat → List Oper → Prop
 | _, [] => True
 | k, o :: r => Vw P Q l n T G E al a0 k o ∧ Steps P Q l n T G E al a0 (k + 1) r
theorem ax {P : Program} {Q : Exit → Act → World → Prop} {l : List Oper} {n : Nat} {T : Nat → World → Value → Prop} {G : World → Prop} {E : World → World → Prop} {al : List Nat} {a0 : Act} {k : Nat} {o : Oper} {r : List Oper}
  (h : Vw P Q l n T G E al a0 k o) (hr : Steps P Q l n T G E al a0 (k + 1) r) : Steps P Q l n T G E al a0 k (o :: r) := ⟨h, hr⟩
theorem jc {P : Program} {Q : Exit → Act → World → Prop} {l : List Oper} {n : Nat} {T : Nat → World → Value → Prop} {G : World → Prop} {E : World → World → Prop} {al : List Nat} {a0 : Act} {k : Nat} : Steps P Q l n T G E al a0 k [] := trivial
theorem Steps.get {P : Program} {Q : Exit → Act → World → Prop} {l : List Oper} {n : Nat} {T : Nat → World → Value → Prop} {G : World → Prop} {E : World → World → Prop} {al : List Nat} {a0 : Act} :
  ∀ {r : List Oper} {k : Nat}, Steps P Q l n T G E al a0 k r → ∀ {i : Nat} {o : Oper}, r[i]? = some o → Vw P Q l n T G E al a0 (k + i) o
 | [], _, _, i, o, h => by simp at h
 | o' :: r, k, hs, 0, o, h => by
  have : o' = o := by simpa using h
  subst this; exact hs.1
 | o' :: r, k, hs, i + 1, o, h => by
  have := Steps.get hs.2 (i := i) (o := o) (by simpa using h)
  rwa [show k + 1 + i = k + (i + 1) by omega] at this

structure TF (l : List Oper) (n : Nat) (T : Nat → World → Value → Prop) (G : World → Prop) (al : List Nat) (a0 : Act) (S : Nat → Prop) (a : Act) (w : World) : Prop where
 defers : a.defers = a0.defers
 size : a.tmps.size = a0.tmps.size
 old : ∀ t, Tp l n t = true → a.tmps.getD t undef = a0.tmps.getD t undef
 new : ∀ k d, k < n → S k → wy l k = some d → T k w (a.tmps.getD d undef)
 none : ∀ k, k < n → S k → wy l k = none → ∃ v, T k w v
 good : G w
 ne : ∀ j k dj dk, j < n → k < n → S j → S k → j ≠ k → al.contains j = true → al.contains k = true → wy l j = some dj → wy l k = some dk → a.tmps.getD dj undef ≠ a.tmps.getD dk undef

theorem bax {l : List Oper} {n k : Nat} {t : Tmp} {o : Oper} (h : Tp l n t = true) (hk : k < n) (ho : l[k]? = some o) : o.dst ≠ some t := by
 have : o ∈ l.take n := List.mem_of_getElem? (i := k) (by rw [List.getElem?_take_of_lt hk]; exact ho)
 have := List.all_eq_true.1 h o this
 simpa using this

theorem aax {l : List Oper} {n : Nat} (hback : aqt l n = true) : ∀ i o, i < n → l[i]? = some o → ∀ e ∈ o.after, Region.binds .any e = true → e.on < i := by
 intro i o hi ho
 have h1 := List.all_eq_true.1 hback i (List.mem_range.2 hi)
 rw [ho] at h1
 simp only [Array.all_eq_true_iff_forall_mem, Bool.or_eq_true, Bool.not_eq_true', decide_eq_true_eq] at h1
 exact fun e he hb => (h1 e he).resolve_left (by simp [hb])
theorem aan {l : List Oper} {n sz : Nat} (aaj : aqg l n sz = true) : ∀ i j d, i < n → j < n → wy l i = some d → wy l j = some d → d < sz ∧ j = i := by
 intro i j d hi hj h1 h2
 have h3 := List.all_eq_true.1 aaj i (List.mem_range.2 hi)
 rw [h1] at h3
 simp only [Bool.and_eq_true, decide_eq_true_eq] at h3
 have h4 := List.all_eq_true.1 h3.2 j (List.mem_range.2 hj)
 simp only [h2, Bool.or_eq_true, bne_self_eq_false, Bool.false_eq_true, false_or, beq_iff_eq] at h4
 exact ⟨h3.1, h4⟩
section
variable {l : List Oper} {n sz : Nat} {T : Nat → World → Value → Prop} {G : World → Prop} {E : World → World → Prop} {al : List Nat} {a0 : Act}
theorem Yd {j : Nat} {d : Tmp} (h : wy (l.take n) j = some d) : j < n ∧ wy l j = some d := by
 have hjn : j < n := by
  rcases Nat.lt_or_ge j n with g | g
  ·
   exact g
  ·
   unfold wy at h
   rw [List.getElem?_eq_none (by simp; omega)] at h; cases h
 refine ⟨hjn, ?_⟩
 unfold wy at h ⊢; rwa [List.getElem?_take_of_lt hjn] at h
theorem TF.finish {a : Act} {w : World} (hsz : a0.tmps.size = sz) (hds : ∀ i j d, i < n → j < n → wy l i = some d → wy l j = some d → d < sz ∧ j = i)
  {S : Nat → Prop} (hall : ∀ k, k < n → S k) (inv : TF l n T G al a0 S a w) : ∃ v : Nat → Value, a = puts v 0 (l.take n) a0 ∧ (∀ k, k < n → T k w (v k)) ∧ ∀ j k, al.contains j = true → al.contains k = true → j ≠ k → j < n → k < n → (wy l j).isSome = true → (wy l k).isSome = true → v j ≠ v k := by
 have hv : ∀ k, ∃ v, k < n → T k w v ∧ ∀ d, wy l k = some d → a.tmps.getD d undef = v := by
  intro k
  by_cases hk : k < n
  ·
   cases hd : wy l k with
   | none =>
    obtain ⟨v, hv⟩ := inv.none k hk (hall k hk) hd
    exact ⟨v, fun _ => ⟨hv, fun d h => by cases h⟩⟩
   | some d => exact ⟨a.tmps.getD d undef, fun _ => ⟨inv.new k d hk (hall k hk) hd, fun d' h => by rw [Option.some.inj h]⟩⟩
  ·
   exact ⟨undef, fun h => absurd h hk⟩
 obtain ⟨v, hv⟩ := Classical.axiomOfChoice hv
 refine ⟨v, ?_, fun k hk => (hv k hk).1, fun j k hj hk hne hjn hkn h1 h2 => ?_⟩
 rotate_left
 ·
  obtain ⟨dj, hdj⟩ := Option.isSome_iff_exists.1 h1
  obtain ⟨dk, hdk⟩ := Option.isSome_iff_exists.1 h2
  have := inv.ne j k dj dk hjn hkn (hall j hjn) (hall k hkn) hne hj hk hdj hdk
  rwa [(hv j hjn).2 dj hdj, (hv k hkn).2 dk hdk] at this
 refine bhm (by rw [inv.defers, Wj]) (by rw [inv.size, aeo]) (fun t => ?_)
 by_cases ht : ∃ k, k < n ∧ wy l k = some t
 ·
  obtain ⟨k, hk, hkt⟩ := ht
  have hdt : ∀ j, wy (l.take n) j = some t → j = k := fun j hj => (hds k j t hk (Yd hj).1 hkt (Yd hj).2).2
  rw [aio v t (l.take n) 0 k a0 (by unfold wy at hkt ⊢; rwa [List.getElem?_take_of_lt hk]) hdt (by rw [hsz]; exact (hds k k t hk hk hkt hkt).1), Nat.zero_add]
  exact ((hv k) hk).2 t hkt
 ·
  have hf : Tp l n t = true := List.all_eq_true.2 (fun o ho => by
   obtain ⟨k, hk⟩ := List.getElem?_of_mem ho
   have hkn : k < n := by
    rcases Nat.lt_or_ge k n with h | h
    ·
     exact h
    ·
     rw [List.getElem?_eq_none (by simp; omega)] at hk; cases hk
   rw [List.getElem?_take_of_lt hkn] at hk
   simp only [bne_iff_ne]
   intro h
   exact ht ⟨k, hkn, by unfold wy; rw [hk]; exact h⟩)
  rw [inv.old t hf, Xi v t (l.take n) 0 a0 (fun j hj => ht ⟨j, Yd hj⟩)]
theorem TF.step {a : Act} {w w2 : World} {S : Nat → Prop} {i : Nat} {o : Oper} {v : Value} (hsz : a0.tmps.size = sz) (hds : ∀ i j d, i < n → j < n → wy l i = some d → wy l j = some d → d < sz ∧ j = i)
  (hT : ∀ k w w' v, E w w' → T k w v → T k w' v) (inv : TF l n T G al a0 S a w) (hin : i < n) (ho : l[i]? = some o) (hnS : ¬ S i) (hG : G w2) (hE : E w w2) (Wu : T i w2 v) (hne : al.contains i = true → ∀ j u, al.contains j = true → T j w u → u ≠ v) :
  TF l n T G al a0 (fun k => k = i ∨ S k) (a.put o.dst v) w2 := by
 have hdi : wy l i = o.dst := by unfold wy; rw [ho]; rfl
 refine ⟨by rw [put_defers]; exact inv.defers, by rw [Xj]; exact inv.size, fun t ht => ?_, fun k d hk hl hd => ?_, fun k hk hl hd => ?_, hG, fun j k dj dk hj hk sj sk hjk aj ak hdj hdk => ?_⟩
 ·
  rw [Vj _ _ _ _ (bax ht hin ho)]; exact inv.old t ht
 ·
  by_cases hki : k = i
  ·
   subst hki
   rw [hdi] at hd
   rw [hd, adg _ _ _ (by rw [inv.size, hsz]; exact (hds k k d hk hk (by rw [hdi]; exact hd) (by rw [hdi]; exact hd)).1)]
   exact Wu
  ·
   rw [Vj _ _ _ _ (fun h => hki ((hds i k d hin hk (by rw [hdi]; exact h) hd).2))]
   exact hT k w w2 _ hE (inv.new k d hk (hl.resolve_left hki) hd)
 ·
  by_cases hki : k = i
  ·
   subst hki; exact ⟨v, Wu⟩
  ·
   obtain ⟨u, hu⟩ := inv.none k hk (hl.resolve_left hki) hd
   exact ⟨u, hT k w w2 _ hE hu⟩
 ·
  have other : ∀ k d, k < n → k ≠ i → wy l k = some d → (a.put o.dst v).tmps.getD d undef = a.tmps.getD d undef := fun k d hk hki hd =>
   Vj _ _ _ _ (fun h => hki ((hds i k d hin hk (by rw [hdi]; exact h) hd).2))
  have same : ∀ d, wy l i = some d → (a.put o.dst v).tmps.getD d undef = v := fun d hd => by
   have hd2 := hd
   rw [hdi] at hd
   rw [hd, adg _ _ _ (by rw [inv.size, hsz]; exact (hds i i d hin hin hd2 hd2).1)]
  by_cases hji : j = i
  ·
   subst hji
   have hki : k ≠ j := fun e => hjk e.symm
   rw [same dj hdj, other k dk hk hki hdk]
   exact (hne aj k _ ak (inv.new k dk hk (sk.resolve_left hki) hdk)).symm
  ·
   by_cases hki : k = i
   ·
    subst hki
    rw [same dk hdk, other j dj hj hji hdj]
    exact hne ak j _ aj (inv.new j dj hj (sj.resolve_left hji) hdj)
   ·
    rw [other j dj hj hji hdj, other k dk hk hki hdk]
    exact inv.ne j k dj dk hj hk (sj.resolve_left hji) (sk.resolve_left hki) hjk aj ak hdj hdk
theorem TF.mono {a : Act} {w : World} {S S' : Nat → Prop} (inv : TF l n T G al a0 S a w) (h : ∀ k, k < n → S' k → S k) : TF l n T G al a0 S' a w :=
 ⟨inv.defers, inv.size, inv.old, fun k d hk hs hd => inv.new k d hk (h k hk hs) hd, fun k hk hs hd => inv.none k hk (h k hk hs) hd, inv.good, fun j k dj dk hj hk sj sk => inv.ne j k dj dk hj hk (h j hj sj) (h k hk sk)⟩
theorem TF.start {a : Act} {w : World} {S : Nat → Prop} (h : ∀ k, k < n → ¬ S k) (hG : G w) : TF l n T G al a S a w :=
 ⟨rfl, rfl, fun _ _ => rfl, fun k d hk hs _ => absurd hs (h k hk), fun k hk hs _ => absurd hs (h k hk), hG, fun j _ _ _ hj _ sj => absurd sj (h j hj)⟩
end

theorem region {P : Program} {id : Nat} {Q : Exit → Act → World → Prop} {a : Act} {w : World} {l : List Oper} (n sz : Nat) (T : Nat → World → Value → Prop) (G : World → Prop) (E : World → World → Prop) (al : List Nat)
  (hm : P.follows .mixedOrders = true) (hB : okB l n sz = true) (hsz : a.tmps.size = sz)
  (hT : ∀ k w w' v, E w w' → T k w v → T k w' v) (hG : G w.drew)
  (hS : Steps P Q l n T G E al a 0 (l.take n))
  (hend : ∀ (v : Nat → Value) (w' : World), G w' → (∀ k, k < n → T k w' (v k)) → (∀ j k, al.contains j = true → al.contains k = true → j ≠ k → j < n → k < n → (wy l j).isSome = true → (wy l k).isSome = true → v j ≠ v k) → wpList P l.toArray Q (l.drop n) (puts v 0 (l.take n) a) w') :
  (Code.region id l.toArray true).wp P Q a w := by
 simp only [okB, Bool.and_eq_true, Bool.or_eq_true, decide_eq_true_eq] at hB
 obtain ⟨⟨⟨⟨hn, bov⟩, hback⟩, aaj⟩, hseq⟩ := hB
 have hget : ∀ k, k < n → ∃ o, l[k]? = some o := fun k hk => ⟨l[k]'(by omega), List.getElem?_eq_getElem om⟩
 have hbk := aax hback
 have hds := aan aaj
 refine wp_region_any hm ?_
 have key : ∀ (f : Nat) (L : Array Bool) (a' : Act) (w' : World), HeadInv .any l.toArray n L → TF l n T G al a (fun k => L.getD k false = true) a' w' → cnt L n = f → wpAny P .any l.toArray Q (f + (l.length - n)) L a' w' := by
  intro f
  induction f with
  | zero =>
   intro L a' w' head inv hc
   have hall := Ye hc
   have hL : L = full n (l.length - n) := by
    have hs := head.size
    refine Array.ext (by simp [full, hs]; omega) (fun i h1 h2 => ?_)
    by_cases hi : i < n
    ·
     have g := hall i hi
     simp [h1] at g
     simp [full, hi, g]
    ·
     have g := head.tail i om (by rw [← hs]; exact h1)
     simp [h1] at g
     simp [full, Array.getElem_append, hi, g]
   obtain ⟨v, he, hv, Kq⟩ := inv.finish hsz hds (fun k hk => by rw [hL]; simp [full, Array.getElem?_append, hk])
   rw [he, Nat.zero_add]
   have hlen : (l.drop n).length = l.length - n := by simp
   rw [← hlen]
   exact wpAny_of_seq (md := .any) (ops := l.toArray) (Q' := Q) (l.drop n) n L _ w' (fun j => by simp [List.getElem?_drop]) (by rw [hlen, hL]; exact hseq)
    (hend v w' inv.good hv Kq)
  | succ f ih =>
   intro L a' w' head inv hc
   obtain ⟨i0, hi0, bjk, hle0⟩ := Ru (L := L) (m := n) om
   have hLs : L.size = l.length := by rw [head.size]; simp
   rw [show f + 1 + (l.length - n) = (f + (l.length - n)) + 1 by omega]
   refine ⟨fun hr => ?_, fun i hi => ?_⟩
   ·
    exfalso
    obtain ⟨o, ho⟩ := hget i0 hi0
    have : i0 ∈ Region.ready .any l.toArray L := mem_ready.2 ⟨bjk, o, by simpa using ho, fun e he hb => by
     have hlt := hbk i0 o hi0 ho e he hb
     have h1 := hle0 e.on hlt
     simp [show e.on < L.size by rw [hLs]; omega] at h1
     simp [show e.on < L.size by rw [hLs]; omega, h1]⟩
    rw [hr] at this; cases this
   ·
    obtain ⟨hun, o, ho, bou⟩ := mem_ready.1 hi
    have ho' : l[i]? = some o := by simpa using ho
    have hil : i < l.length := by
     have := (Array.getElem?_eq_some_iff.1 ho).1
     simpa using this
    have hin : i < n := by
     rcases Nat.lt_or_ge i n with h | h
     ·
      exact h
     ·
      exfalso
      rcases bov with he | ⟨hs, hch⟩
      ·
       omega
      ·
       exact tail_waits hs hch (by simp only [List.size_toArray]; omega) head _ i0 rfl hi0 bjk i h hi
    have hst := hS.get (i := i) (o := o) (by rw [List.getElem?_take_of_lt hin]; exact ho')
    rw [Nat.zero_add] at hst
    have hw := hst a' w' inv.good inv.old (fun j d hjd => by
     simp only [waits, Bool.and_eq_true, beq_iff_eq] at hjd
     obtain ⟨oj, hoj, e, he, hb, hon⟩ := Region.waitsFor_spec hjd.1
     have : oj = o := Option.some.inj (hoj.symm.trans ho)
     subst this
     have hlj := bou e he hb
     rw [hon] at hlj
     have hjn : j < n := by have := hbk i oj hin ho' e he hb; omega
     exact inv.new j d hjn hlj hjd.2)
    have go : ∀ v w2, G w2 → E w' w2 → T i w2 v → (al.contains i = true → ∀ j u, al.contains j = true → T j w' u → u ≠ v) → wpAny P .any l.toArray Q (f + (l.length - n)) (L.setIfInBounds i true) (a'.put o.dst v) w2 := by
     intro v w2 hg2 hE Wu hne
     refine ih (L.setIfInBounds i true) _ w2 (head.set hi hin) ((inv.step hsz hds hT hin ho' (fun h => by rw [getD_both hun] at h; cases h) hg2 hE Wu hne).mono (fun k hk hl => ?_)) (by have := anc hun (m := n) hin; omega)
     by_cases hki : k = i
     ·
      exact .inl hki
     ·
      rw [getD_set_ne false (Ne.symm hki)] at hl; exact .inr hl
    unfold wpOp
    simp only [ho]
    split
    ·
     rename_i hwd
     rw [if_pos hwd] at hw
     refine .inl (Oper.wp_mono (fun a2 w2 hK => ?_) hw)
     obtain ⟨v, rfl, hg2, hE, Wu, hne⟩ := hK
     exact go v w2 hg2 hE Wu hne
    ·
     rename_i hwd
     rw [if_neg hwd] at hw
     exact go undef w' inv.good hw.1 hw.2.1 hw.2.2
 have h0 := key n (Array.replicate l.length false) a w.drew
  ⟨by simp, fun j oj _ hl => (by rw [getD_replicate_false] at hl; cases hl), fun t _ ht => getD_in (by simpa using ht) (getD_replicate_false _ _)⟩
  (TF.start (fun k _ h => by rw [getD_replicate_false] at h; cases h) hG) (ane _ hn)
 rw [show n + (l.length - n) = l.length by omega] at h0
 have hsz2 : l.toArray.size = l.length := by simp
 rw [hsz2]
 exact h0

theorem uu {P : Program} {id : Nat} {Q : Exit → Act → World → Prop} {a : Act} {w : World} {l : List Oper} (n sz : Nat) (T : Nat → World → Value → Prop) (G : World → Prop) (E : World → World → Prop) (al : List Nat)
  (hB : (decide (n ≤ l.length) && aqt l n && aqg l n sz) = true) (hsz : a.tmps.size = sz)
  (hT : ∀ k w w' v, E w w' → T k w v → T k w' v) (hG : G w)
  (hS : Steps P Q l n T G E al a 0 (l.take n))
  (hend : ∀ (v : Nat → Value) (w' : World), G w' → (∀ k, k < n → T k w' (v k)) → (∀ j k, al.contains j = true → al.contains k = true → j ≠ k → j < n → k < n → (wy l j).isSome = true → (wy l k).isSome = true → v j ≠ v k) → wpList P l.toArray Q (l.drop n) (puts v 0 (l.take n) a) w') :
  (Code.region id l.toArray false).wp P Q a w := by
 simp only [Bool.and_eq_true, decide_eq_true_eq] at hB
 obtain ⟨⟨hn, hback⟩, aaj⟩ := hB
 have hbk := aax hback
 have hds := aan aaj
 refine wp_region_lit ?_
 have key : ∀ (f i : Nat) (a' : Act) (w' : World), n - i = f → i ≤ n → TF l n T G al a (fun k => k < i) a' w' → wpList P l.toArray Q (l.drop i) a' w' := by
  intro f
  induction f with
  | zero =>
   intro i a' w' hf hi inv
   obtain rfl : i = n := by omega
   obtain ⟨v, he, hv, Kq⟩ := inv.finish hsz hds (fun k hk => hk)
   rw [he]
   exact hend v w' inv.good hv Kq
  | succ f ih =>
   intro i a' w' hf hi inv
   have hin : i < n := by omega
   have hil : i < l.length := by omega
   rw [List.drop_eq_getElem_cons hil]
   have ho : l[i]? = some l[i] := List.getElem?_eq_getElem hil
   generalize l[i] = o at *
   have hst := hS.get (i := i) (o := o) (by rw [List.getElem?_take_of_lt hin]; exact ho)
   rw [Nat.zero_add] at hst
   have hw := hst a' w' inv.good inv.old (fun j d hjd => by
    simp only [waits, Bool.and_eq_true, beq_iff_eq] at hjd
    obtain ⟨oj, hoj, e, he, hb, hon⟩ := Region.waitsFor_spec hjd.1
    have : oj = o := Option.some.inj (hoj.symm.trans (by simpa using ho))
    subst this
    have hji := hbk i oj hin ho e he hb
    rw [hon] at hji
    exact inv.new j d om hji hjd.2)
   have go : ∀ v w2, G w2 → E w' w2 → T i w2 v → (al.contains i = true → ∀ j u, al.contains j = true → T j w' u → u ≠ v) → wpList P l.toArray Q (l.drop (i + 1)) (a'.put o.dst v) w2 := fun v w2 hg2 hE Wu hne =>
    ih (i + 1) _ w2 om om ((inv.step hsz hds hT hin ho om hg2 hE Wu hne).mono (fun k hk hl => by omega))
   unfold wpList
   split
   ·
    rename_i hwd
    rw [if_pos hwd] at hw
    refine .inl (Oper.wp_mono (fun a2 w2 hK => ?_) hw)
    obtain ⟨v, rfl, hg2, hE, Wu, hne⟩ := hK
    exact go v w2 hg2 hE Wu hne
   ·
    rename_i hwd
    rw [if_neg hwd] at hw
    exact go undef w' inv.good hw.1 hw.2.1 hw.2.2
 exact key n 0 a w om om (TF.start (fun k _ h => by omega) hG)

section
variable {P : Program} {Q : Exit → Act → World → Prop} {l : List Oper} {n : Nat} {T : Nat → World → Value → Prop} {G : World → Prop} {E : World → World → Prop} {al : List Nat} {a0 : Act} {k : Nat} {o : Oper}
theorem plain (hg : o.guard = none) (h : Step P Q l n T G E al a0 k o) : Vw P Q l n T G E al a0 k o := fun a w hG hO hN => by
 rw [if_pos (by simp [Region.wanted, hg])]
 exact h a w hG hO hN
def ji (c : Value) : World → Value → Prop := fun _ v => v = c
theorem Ym {a : Act} {j : Nat} {d : Tmp} {b : Bool} (hd : wy l j = some d) (hv : a.tmps.getD d undef = .bool b) : yielded l.toArray a.tmps j = some b := by
 have h1 : (l.toArray[j]?).bind (·.dst) = some d := by simpa [wy] using hd
 have h2 : a.tmps[d]? = some (.bool b) := by
  cases h : a.tmps[d]? with
  | none => simp [h, undef] at hv
  | some v => simp [h] at hv; rw [hv]
 unfold yielded
 rw [h1]
 simp [h2]
theorem aee {j : Nat} {d : Tmp} (h : waits l k j d = true) : wy l j = some d := by
 simp only [waits, Bool.and_eq_true, beq_iff_eq] at h; exact h.2
theorem Ef {g : Nat} {d : Tmp} {b : Bool} (hg : o.guard = some (g, b)) (hw : waits l k g d = true) (hT : T g = ji (.bool b)) (h : Step P Q l n T G E al a0 k o) : Vw P Q l n T G E al a0 k o := fun a w hG hO hN => by
 have hv := hN g d hw
 rw [hT] at hv
 rw [if_pos (by simp [Region.wanted, hg, Ym (aee hw) hv])]
 exact h a w hG hO hN
theorem Ot {g : Nat} {d : Tmp} {b c : Bool} (hg : o.guard = some (g, c)) (hw : waits l k g d = true) (hT : T g = ji (.bool b)) (hbc : (b == c) = false) (hE : ∀ w, E w w) (hk : al.contains k = false) (hu : T k = ji undef) : Vw P Q l n T G E al a0 k o := fun a w hG hO hN => by
 have hv := hN g d hw
 rw [hT] at hv
 rw [if_neg (by
  simp only [Region.wanted, hg, Ym (aee hw) hv]
  intro h
  have : (b == c) = true := by simpa using h
  rw [this] at hbc; cases hbc)]
 exact ⟨hE w, by rw [hu]; rfl, fun h => by rw [hk] at h; cases h⟩
end
def xc (l : List Oper) (n : Nat) (T : Nat → World → Value → Prop) (a0 : Act) (k : Nat) (x : Operand) (A : World → Value → Prop) : Prop :=
 ∀ (a : Act) (w : World), (∀ t, Tp l n t = true → a.tmps.getD t undef = a0.tmps.getD t undef) → (∀ j d, waits l k j d = true → T j w (a.tmps.getD d undef)) → A w (a.eval x)
section
variable {l : List Oper} {n : Nat} {T : Nat → World → Value → Prop} {a0 : Act} {k : Nat}
theorem dw {t : Tmp} (j : Nat) (h : waits l k j t = true) : xc l n T a0 k (.tmp t) (T j) := fun _ _ _ h2 => h2 j t h
theorem zg (c : Value) : xc l n T a0 k (.const c) (ji c) := fun _ _ _ _ => rfl
theorem ja {t : Tmp} {c : Value} (h : Tp l n t = true) (hc : a0.tmps.getD t undef = c) : xc l n T a0 k (.tmp t) (ji c) := fun _ _ h1 _ => (h1 t h).trans hc
end
def pick (ts : List (World → Value → Prop)) (k : Nat) : World → Value → Prop := ts.getD k (fun _ _ => True)
def Qe (E : World → World → Prop) (t : World → Value → Prop) : Prop := ∀ w w' v, E w w' → t w v → t w' v
def oq (E : World → World → Prop) : List (World → Value → Prop) → Prop
 | [] => True
 | t :: r => Qe E t ∧ oq E r
theorem oq.pick {E : World → World → Prop} : ∀ {ts : List (World → Value → Prop)}, oq E ts → ∀ k w w' v, E w w' → Rg.pick ts k w v → Rg.pick ts k w' v
 | [], _, _, _, _, _, _, _ => trivial
 | t :: _, h, 0, w, w', v, he, ht => h.1 w w' v he ht
 | _ :: ts, h, k + 1, w, w', v, he, ht => oq.pick (ts := ts) h.2 k w w' v he ht
theorem fw {E : World → World → Prop} (c : Value) : Qe E (ji c) := fun _ _ _ _ h => h
end Rg
end Go.Proofs.YtpjgoogeokbaaaaGreatDoor
