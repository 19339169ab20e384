/- Texts beneath a law of layer 1. -/
import Derived.Test.YtfgeaakhlcaibaaGreatDoorDa9
set_option maxRecDepth 100000
set_option maxHeartbeats 16000000
namespace Go.Proofs.YtfgeaakhlcaibaaGreatDoor
open Go.RowKit

theorem bbh (n d : Int) (w : World) (b1 : -9223372036854775808 ≤ n) (b2 : n ≤ 9223372036854775807) (b3 : -9223372036854775808 ≤ d) (b4 : d ≤ 9223372036854775807) :
  Calls Tryz.prog 67 #[(.agg #[.int .i64 n, .int .i64 d])] w fun e w' => Gh w n d e w' := by
 have HN1 := hide (fun W => Al n b1 b2 W)
 have HN2 := hide (fun W => Al d b3 b4 W)
 clear b1 b2 b3 b4
 go_enter Tryz.func67, Tryz.ntmps67
 go_wp2_with fail
 obtain ⟨n0, n1, hsz, hw0⟩ := yh w (.cells #[.int .i64 n, .int .i64 d] 23) (.cells #[.int .i64 0, .bool false, .slice none 0 0, .int .i64 0, .bool false, .slice none 0 0] 79)
 generalize ((w.alloc (.cells #[.int .i64 n, .int .i64 d] 23)).alloc (.cells #[.int .i64 0, .bool false, .slice none 0 0, .int .i64 0, .bool false, .slice none 0 0] 79)) = W0 at *
 have vv : W0.cell? ⟨w.heap.size, 0, none⟩ = some (.int .i64 n) := ag n0 0
 have vo : W0.cell? ⟨w.heap.size, 1, none⟩ = some (.int .i64 d) := ag n0 1
 have q0 : w.heap.size < W0.heap.size := by omega
 have yg : W0.cell? ⟨w.heap.size + 1, 0, none⟩ = some (.int .i64 0) := ag n1 0
 have yf : W0.cell? ⟨w.heap.size + 1, 1, none⟩ = some (.bool false) := ag n1 1
 have Gn : W0.cell? ⟨w.heap.size + 1, 2, none⟩ = some (.slice none 0 0) := ag n1 2
 have Xo : W0.cell? ⟨w.heap.size + 1, 3, none⟩ = some (.int .i64 0) := ag n1 3
 have Xn : W0.cell? ⟨w.heap.size + 1, 4, none⟩ = some (.bool false) := ag n1 4
 have Xm : W0.cell? ⟨w.heap.size + 1, 5, none⟩ = some (.slice none 0 0) := ag n1 5
 have q1 : w.heap.size + 1 < W0.heap.size := by omega
 have Oo := ai n1 0
 have Om := ai n1 1
 have awo := ai n1 2
 have awn := ai n1 3
 have awm := ai n1 4
 have awl := ai n1 5
 have NR := Lib.hid n1
 clear n0 n1
 go_region_held3 (fun w' => w'.cell? ⟨w.heap.size, 0, none⟩ = some (.int .i64 n) ∧ w'.cell? ⟨w.heap.size, 1, none⟩ = some (.int .i64 d)) ((first | with_reducible exact ⟨(hc _ _ q0).trans vv, (hc _ _ q0).trans vo⟩ | with_reducible exact ⟨vv, vo⟩ | with_reducible exact ⟨(jd _ _ _ _ _ _ _ _ om).trans ((hc _ _ q0).trans vv), (jd _ _ _ _ _ _ _ _ om).trans ((hc _ _ q0).trans vo)⟩ | exact ⟨(hc _ _ q0).trans vv, (hc _ _ q0).trans vo⟩ | exact ⟨vv, vo⟩ | exact ⟨(jd _ _ _ _ _ _ _ _ om).trans ((hc _ _ q0).trans vv), (jd _ _ _ _ _ _ _ _ om).trans ((hc _ _ q0).trans vo)⟩)) (first | (go_at_call 137; refine ((aa HN1) _).mono ?_; clear HN1; rintro e w' ⟨s5, qg, A5, c5, l5, rfl, Bc, hb⟩; have hbw := bz (w := W0) bem hb; obtain ⟨hc, hfz⟩ := fe hbw) | (go_at_call 137; refine ((aa HN2) _).mono ?_; rintro e w' ⟨s6, ug, A6, c6, l6, rfl, Ij, hb⟩; have Bc := Bc.below hb; have hbw := bz (w := W0) bem hb; obtain ⟨hc, hfz⟩ := fe hbw))
 have hblk : w'.heap[w.heap.size + 1]? = some (.cells #[.int .i64 0, .bool false, .slice none 0 0, .int .i64 0, .bool false, .slice none 0 0] 79 (0, 0)) := (hbw.block _ q1).trans NR.out
 have ky := Lib.hid hblk
 have jq : Below w.heap.size w w' := ay hw0 hbw
 clear hblk
 go_wp2_with fail
 exact bodyPost_ret (v := (Value.agg #[.int .i64 s5, .bool qg, .slice A5 l5.length c5, .int .i64 s6, .bool ug, .slice A6 l6.length c6])) (by simp [results, Tryz.results67, go_sem, hc, yg, yf, Gn, Xo, Xn, Xm, q1]) rfl
  ⟨s5, qg, A5, c5, l5, s6, ug, A6, c6, l6, rfl, (Bc).upto ky.out (ui _ _ _ _ _ _ _ _ _ _) (kg _ _ _ _ _ _ _ _), (Ij).upto ky.out (ui _ _ _ _ _ _ _ _ _ _) (kg _ _ _ _ _ _ _ _), jq.grown (kg _ _ _ _ _ _ _ _) jq.size (fun k hk => by injection hk with hk; omega)⟩


def bic (w : World) (t : Wd.Told) (e : Ending) (w' : World) : Prop := e = .returned (.tuple #[.agg #[.int .i64 t.n, .int .i64 t.d], .int .i64 t.e]) ∧ Below w.heap.size w w'




structure Qh (Wp W : World) (b : Nat) : Prop where
 old : Wp.heap.size ≤ b
 zero : W.heap[b]? = some (.cells #[.slice none 0 0, .bool false, .slice none 0 0, .bool false] 68 (0, 0))
theorem Qh.lt {Wp W : World} {b : Nat} (h : Qh Wp W b) : b < W.heap.size := lt_of_block h.zero
theorem Qh.drew {Wp W : World} {b : Nat} (h : Qh Wp W b) : Qh Wp W.drew b := ⟨h.old, h.zero⟩
theorem Qh.below {Wp W w' : World} {b : Nat} (h : Qh Wp W b) (hb : Below W.heap.size W w') : Qh Wp w' b := ⟨h.old, (hb.block _ h.lt).trans h.zero⟩
theorem Qh.new {Wp W : World} {b : Nat} (hb : Below Wp.heap.size Wp W) (e : b = W.heap.size) : Qh Wp (W.alloc (.cells #[.slice none 0 0, .bool false, .slice none 0 0, .bool false] 68 (0, 0))) b := by
 subst e; exact ⟨hb.size, heap_alloc_new W _⟩
theorem Qh.alloc {Wp W : World} {b : Nat} {o : Obj} (h : Qh Wp W b) : Qh Wp (W.alloc o) b := ⟨h.old, (Below.heap_alloc W _ b h.lt).trans h.zero⟩
theorem QV.upto {w w' : World} {g : Nat} {Dn : Option Addr} {c1a : Nat} {Df : List Nat} {Wi : Bool} {Dm : Option Addr} {Dh : Nat} {De : List Nat} {Wh : Bool} {x1 : Rat} {T : TypeId} {cs : Array Value} (h : QV w Dn c1a Df Wi Dm Dh De Wh x1) (hg : w.heap[g]? = some (.cells cs T (0, 0))) (hn : Ye cs) (hgr : w.grownBy w' (some g)) : QV w' Dn c1a Df Wi Dm Dh De Wh x1 := by
 obtain ⟨d, h2, h3⟩ := h.den
 exact ⟨h.num.upto hg hn hgr, d, h2.upto hg hn hgr, h3⟩
theorem QV.alloc {W : World} {o : Obj} {Dn : Option Addr} {c1a : Nat} {Df : List Nat} {Wi : Bool} {Dm : Option Addr} {Dh : Nat} {De : List Nat} {Wh : Bool} {x1 : Rat} (h1 : QV W Dn c1a Df Wi Dm Dh De Wh x1) : QV (W.alloc o) Dn c1a Df Wi Dm Dh De Wh x1 := h1.below ((Below.refl _ _).alloc (Nat.le_refl _) _)
def Dv (w : World) (b : Nat) (x : Rat) : Prop := ∃ A c l m A' c' l' m', w.heap[b]? = some (.cells #[.slice A (List.length l) c, .bool m, .slice A' (List.length l') c', .bool m'] 68 (0, 0)) ∧ QV w A c l m A' c' l' m' x
theorem Dv.below {w w' : World} {b : Nat} {x : Rat} (h : Dv w b x) (hb : Below w.heap.size w w') : Dv w' b x := by
 obtain ⟨A, c, l, m, A', c', l', m', h1, h2⟩ := h
 exact ⟨A, c, l, m, A', c', l', m', (hb.block _ (lt_of_block h1)).trans h1, h2.below hb⟩
theorem Dv.new {W : World} {b : Nat} {Dn : Option Addr} {c1a : Nat} {Df : List Nat} {Wi : Bool} {Dm : Option Addr} {Dh : Nat} {De : List Nat} {Wh : Bool} {x1 : Rat} (h1 : QV W Dn c1a Df Wi Dm Dh De Wh x1) (e : b = W.heap.size) : Dv (W.alloc (.cells #[.slice Dn Df.length c1a, .bool Wi, .slice Dm De.length Dh, .bool Wh] 68)) b x1 := by
 subst e; exact ⟨_, _, _, _, _, _, _, _, heap_alloc_new W _, h1.alloc⟩
theorem Dv.alloc {W : World} {b : Nat} {x : Rat} {o : Obj} (h : Dv W b x) : Dv (W.alloc o) b x := h.below ((Below.refl _ _).alloc (Nat.le_refl _) _)
theorem amb {W : World} {b : Nat} {a0 a1 a2 a3 u0 u1 u2 u3 : Value} {T : TypeId} (h : W.heap[b]? = some (.cells #[a0, a1, a2, a3] T (0, 0))) : ((((W.setCell ⟨b, 0, none⟩ u0).setCell ⟨b, 1, none⟩ u1).setCell ⟨b, 2, none⟩ u2).setCell ⟨b, 3, none⟩ u3).heap[b]? = some (.cells #[u0, u1, u2, u3] T (0, 0)) := by
 simp [World.setCell, Array.getElem?_modify, h]

namespace Sb
def Kw (u : Value) : Prop := (∀ n : Int, u ≠ .int .u64 n) ∧ u.oneCell' = true ∧ (∀ n : Int, u ≠ .int .u32 n)
def Db (cs : List Value) : Prop := ∀ u ∈ cs, Kw u
structure Kind where
 size : Nat
 ok : World → List Value → Prop
 noW : ∀ {W : World} {c : List Value}, ok W c → Db c
 below : ∀ {W W' : World} {c : List Value}, Below W.heap.size W W' → ok W c → ok W' c
 upto : ∀ {W W' : World} {g : Nat} {T : TypeId} {cs c : List Value}, W.heap[g]? = some (.cells cs.toArray T (0, 0)) → Db cs → W.grownBy W' (some g) → ok W c → ok W' c
 len : ∀ {W : World} {c : List Value}, ok W c → c.length = size
inductive jf where
 | v (u : Value)
 | z (n : Int)
 | q (x : Rat)
 | r (x : Rat)
 | k (κ : Kind)
def jf.size : jf → Nat
 | .v _ => 1
 | .z _ => 3
 | .q _ => 6
 | .r _ => 4
 | .k κ => κ.size
def oq : List jf → Nat
 | [] => 0
 | l :: ls => l.size + oq ls
def Et (W : World) : jf → List Value → Prop
 | .v u, c => c = [u] ∧ Kw u
 | .z n, c => ∃ s1 n1 A1 c1 l1, c = [.int .i64 s1, .bool n1, .slice A1 (List.length l1) c1] ∧ fw W s1 n1 A1 c1 l1 n
 | .q x, c => ∃ s1 n1 A1 c1 l1 s2 n2 A2 c2 l2, c = [.int .i64 s1, .bool n1, .slice A1 (List.length l1) c1, .int .i64 s2, .bool n2, .slice A2 (List.length l2) c2] ∧ fw W s1 n1 A1 c1 l1 x.num ∧ fw W s2 n2 A2 c2 l2 (x.den : Int)
 | .r x, c => ∃ A1 c1 l1 m1 A2 c2 l2 m2, c = [.slice A1 (List.length l1) c1, .bool m1, .slice A2 (List.length l2) c2, .bool m2] ∧ QV W A1 c1 l1 m1 A2 c2 l2 m2 x
 | .k κ, c => κ.ok W c
def fu (W : World) : List jf → List Value → Prop
 | [], cs => cs = []
 | l :: ls, cs => ∃ c r, cs = c ++ r ∧ Et W l c ∧ fu W ls r
theorem lh (n : Int) : Kw (.int .i64 n) := ⟨fun m h => by simp at h, rfl, fun m h => by simp at h⟩
theorem Ti (b : Bool) : Kw (.bool b) := ⟨fun m h => by simp at h, rfl, fun m h => by simp at h⟩
theorem Tg (A : Option Addr) (n c : Nat) : Kw (.slice A n c) := ⟨fun m h => by simp at h, rfl, fun m h => by simp at h⟩
theorem bfc (A : Option Addr) : Kw (.pointer A) := ⟨fun m h => by simp at h, rfl, fun m h => by simp at h⟩
theorem Db.arr {cs : List Value} (h : Db cs) : Qb cs.toArray := fun i n he => (h (.int .u64 n) (List.mem_of_getElem? (i := i) (by simpa using he))).1 n rfl
theorem Db.bib {cs : List Value} (h : Db cs) : Ye cs.toArray := fun i n he => (h (.int .u32 n) (List.mem_of_getElem? (i := i) (by simpa using he))).2.2 n rfl
theorem Et.noW {W : World} {l : jf} {c : List Value} (h : Et W l c) : Db c := by
 cases l with
 | v u => obtain ⟨rfl, h⟩ := h; intro u' hu; rw [List.mem_singleton.1 hu]; exact h
 | z n =>
  obtain ⟨_, _, _, _, _, rfl, _⟩ := h
  intro u hu
  simp only [List.mem_cons, List.not_mem_nil, or_false] at hu
  rcases hu with rfl | rfl | rfl
  all_goals first | exact lh _ | exact Ti _ | exact Tg _ _ _
 | q x =>
  obtain ⟨_, _, _, _, _, _, _, _, _, _, rfl, _⟩ := h
  intro u hu
  simp only [List.mem_cons, List.not_mem_nil, or_false] at hu
  rcases hu with rfl | rfl | rfl | rfl | rfl | rfl
  all_goals first | exact lh _ | exact Ti _ | exact Tg _ _ _
 | r x =>
  obtain ⟨_, _, _, _, _, _, _, _, rfl, _⟩ := h
  intro u hu
  simp only [List.mem_cons, List.not_mem_nil, or_false] at hu
  rcases hu with rfl | rfl | rfl | rfl
  all_goals first | exact lh _ | exact Ti _ | exact Tg _ _ _
 | k κ => exact κ.noW h
theorem Et.below {W W' : World} {l : jf} {c : List Value} (hb : Below W.heap.size W W') (h : Et W l c) : Et W' l c := by
 cases l with
 | v u => exact h
 | z n =>
  obtain ⟨s1, n1, A1, c1, l1, rfl, h1⟩ := h
  exact ⟨_, _, _, _, _, rfl, h1.below hb⟩
 | q x =>
  obtain ⟨s1, n1, A1, c1, l1, s2, n2, A2, c2, l2, rfl, h1, h2⟩ := h
  exact ⟨_, _, _, _, _, _, _, _, _, _, rfl, h1.below hb, h2.below hb⟩
 | r x =>
  obtain ⟨A1, c1, l1, m1, A2, c2, l2, m2, rfl, h1⟩ := h
  exact ⟨_, _, _, _, _, _, _, _, rfl, h1.below hb⟩
 | k κ => exact κ.below hb h
theorem Et.upto {W W' : World} {g : Nat} {l : jf} {c : List Value} {T : TypeId} {cs : List Value} (hg : W.heap[g]? = some (.cells cs.toArray T (0, 0))) (hn : Db cs) (hgr : W.grownBy W' (some g)) (h : Et W l c) : Et W' l c := by
 cases l with
 | v u => exact h
 | z n =>
  obtain ⟨s1, n1, A1, c1, l1, rfl, h1⟩ := h
  exact ⟨_, _, _, _, _, rfl, h1.upto hg hn.arr hgr⟩
 | q x =>
  obtain ⟨s1, n1, A1, c1, l1, s2, n2, A2, c2, l2, rfl, h1, h2⟩ := h
  exact ⟨_, _, _, _, _, _, _, _, _, _, rfl, h1.upto hg hn.arr hgr, h2.upto hg hn.arr hgr⟩
 | r x =>
  obtain ⟨A1, c1, l1, m1, A2, c2, l2, m2, rfl, h1⟩ := h
  exact ⟨_, _, _, _, _, _, _, _, rfl, h1.upto hg hn.bib hgr⟩
 | k κ => exact κ.upto hg hn hgr h
theorem Et.len {W : World} {l : jf} {c : List Value} (h : Et W l c) : c.length = l.size := by
 cases l with
 | v u => rw [h.1]; rfl
 | z n => obtain ⟨_, _, _, _, _, rfl, _⟩ := h; rfl
 | q x => obtain ⟨_, _, _, _, _, _, _, _, _, _, rfl, _⟩ := h; rfl
 | r x => obtain ⟨_, _, _, _, _, _, _, _, rfl, _⟩ := h; rfl
 | k κ => exact κ.len h
theorem fu.noW {W : World} : ∀ {ls : List jf} {cs : List Value}, fu W ls cs → Db cs
 | [], _, h => by cases h; intro u hu; cases hu
 | _ :: ls, _, ⟨c, r, e, hq, h⟩ => by
  subst e
  intro u' hm
  rcases List.mem_append.1 hm with hm | hm
  ·
   exact hq.noW _ hm
  ·
   exact fu.noW (ls := ls) h _ hm
theorem fu.below {W W' : World} (hb : Below W.heap.size W W') : ∀ {ls : List jf} {cs : List Value}, fu W ls cs → fu W' ls cs
 | [], _, h => h
 | _ :: ls, _, ⟨c, r, e, hq, h⟩ => ⟨c, r, e, hq.below hb, fu.below hb (ls := ls) h⟩
theorem fu.upto {W W' : World} {g : Nat} {T : TypeId} {ds : List Value} (hg : W.heap[g]? = some (.cells ds.toArray T (0, 0))) (hn : Db ds) (hgr : W.grownBy W' (some g)) : ∀ {ls : List jf} {cs : List Value}, fu W ls cs → fu W' ls cs
 | [], _, h => h
 | _ :: ls, _, ⟨c, r, e, hq, h⟩ => ⟨c, r, e, hq.upto hg hn hgr, fu.upto hg hn hgr (ls := ls) h⟩
theorem fu.len {W : World} : ∀ {ls : List jf} {cs : List Value}, fu W ls cs → cs.length = oq ls
 | [], _, h => by cases h; rfl
 | _ :: ls, _, ⟨c, r, e, hq, h⟩ => by subst e; rw [List.length_append, hq.len, fu.len (ls := ls) h]; rfl
theorem fu.app {W : World} {ks : List jf} {ds : List Value} (hd : fu W ks ds) : ∀ {ls : List jf} {cs : List Value}, fu W ls cs → fu W (ls ++ ks) (cs ++ ds)
 | [], _, h => by cases h; exact hd
 | _ :: ls, _, ⟨c, r, e, hq, h⟩ => ⟨c, r ++ ds, by rw [e, List.append_assoc], hq, fu.app hd (ls := ls) h⟩
theorem fu.cut {W : World} {ks : List jf} : ∀ {ls : List jf} {cs : List Value}, fu W (ls ++ ks) cs → ∃ c d, cs = c ++ d ∧ fu W ls c ∧ fu W ks d
 | [], cs, h => ⟨[], cs, rfl, rfl, h⟩
 | _ :: ls, _, ⟨c0, r, e, hq, h⟩ => by
  obtain ⟨c, d, e2, h1, h2⟩ := fu.cut (ls := ls) h
  exact ⟨c0 ++ c, d, by rw [e, e2, List.append_assoc], ⟨c0, c, rfl, hq, h1⟩, h2⟩
theorem fu.v {W : World} {u : Value} {ls : List jf} {cs : List Value} (hu : Kw u) (h : fu W ls cs) : fu W (.v u :: ls) (u :: cs) := ⟨[u], cs, rfl, ⟨rfl, hu⟩, h⟩
theorem fu.z {W : World} {n : Int} {s1 : Int} {n1 : Bool} {A1 : Option Addr} {c1 : Nat} {l1 : List Nat} {ls : List jf} {cs : List Value} (h1 : fw W s1 n1 A1 c1 l1 n) (h : fu W ls cs) : fu W (.z n :: ls) (.int .i64 s1 :: .bool n1 :: .slice A1 l1.length c1 :: cs) := ⟨[_, _, _], cs, rfl, ⟨_, _, _, _, _, rfl, h1⟩, h⟩
theorem fu.q {W : World} {x : Rat} {s1 : Int} {n1 : Bool} {A1 : Option Addr} {c1 : Nat} {l1 : List Nat} {s2 : Int} {n2 : Bool} {A2 : Option Addr} {c2 : Nat} {l2 : List Nat} {ls : List jf} {cs : List Value} (h1 : fw W s1 n1 A1 c1 l1 x.num) (h2 : fw W s2 n2 A2 c2 l2 (x.den : Int)) (h : fu W ls cs) : fu W (.q x :: ls) (.int .i64 s1 :: .bool n1 :: .slice A1 l1.length c1 :: .int .i64 s2 :: .bool n2 :: .slice A2 l2.length c2 :: cs) := ⟨[_, _, _, _, _, _], cs, rfl, ⟨_, _, _, _, _, _, _, _, _, _, rfl, h1, h2⟩, h⟩
theorem fu.r {W : World} {x : Rat} {A1 : Option Addr} {c1 : Nat} {l1 : List Nat} {m1 : Bool} {A2 : Option Addr} {c2 : Nat} {l2 : List Nat} {m2 : Bool} {ls : List jf} {cs : List Value} (h1 : QV W A1 c1 l1 m1 A2 c2 l2 m2 x) (h : fu W ls cs) : fu W (.r x :: ls) (.slice A1 l1.length c1 :: .bool m1 :: .slice A2 l2.length c2 :: .bool m2 :: cs) := ⟨[_, _, _, _], cs, rfl, ⟨_, _, _, _, _, _, _, _, rfl, h1⟩, h⟩
theorem fu.k {W : World} {κ : Kind} {c : List Value} {ls : List jf} {cs : List Value} (h1 : κ.ok W c) (h : fu W ls cs) : fu W (.k κ :: ls) (c ++ cs) := ⟨c, cs, rfl, h1, h⟩
theorem fu.Ci {W : World} {u : Value} {ls : List jf} {cs : List Value} (h : fu W (.v u :: ls) cs) : ∃ r, cs = u :: r ∧ Kw u ∧ fu W ls r := by
 obtain ⟨c, r, rfl, ⟨rfl, hu⟩, h⟩ := h
 exact ⟨r, rfl, hu, h⟩
theorem fu.alj {W : World} {n : Int} {ls : List jf} {cs : List Value} (h : fu W (.z n :: ls) cs) : ∃ s1 n1 A1 c1 l1 r, cs = .int .i64 s1 :: .bool n1 :: .slice A1 (List.length l1) c1 :: r ∧ fw W s1 n1 A1 c1 l1 n ∧ fu W ls r := by
 obtain ⟨c, r, rfl, ⟨s1, n1, A1, c1, l1, rfl, h1⟩, h⟩ := h
 exact ⟨s1, n1, A1, c1, l1, r, rfl, h1, h⟩
theorem fu.axz {W : World} {x : Rat} {ls : List jf} {cs : List Value} (h : fu W (.q x :: ls) cs) : ∃ s1 n1 A1 c1 l1 s2 n2 A2 c2 l2 r, cs = .int .i64 s1 :: .bool n1 :: .slice A1 (List.length l1) c1 :: .int .i64 s2 :: .bool n2 :: .slice A2 (List.length l2) c2 :: r ∧ fw W s1 n1 A1 c1 l1 x.num ∧ fw W s2 n2 A2 c2 l2 (x.den : Int) ∧ fu W ls r := by
 obtain ⟨c, r, rfl, ⟨s1, n1, A1, c1, l1, s2, n2, A2, c2, l2, rfl, h1, h2⟩, h⟩ := h
 exact ⟨s1, n1, A1, c1, l1, s2, n2, A2, c2, l2, r, rfl, h1, h2, h⟩

def ax (ls : List jf) : World → Value → Prop := fun W v => ∃ cs : List Value, v = .agg cs.toArray ∧ fu W ls cs
theorem bf (ls : List jf) : Rg.Da dz (ax ls) := by
 rintro w w' v hb ⟨cs, rfl, h⟩
 exact ⟨cs, rfl, h.below hb⟩
def Jw (W : World) : List (World → Value → Prop) → List Value → Prop
 | [], vs => vs = []
 | t :: ts, vs => ∃ u r, vs = u :: r ∧ t W u ∧ Jw W ts r
def jw (ts : List (World → Value → Prop)) : World → Value → Prop := fun W v => ∃ vs : List Value, v = .tuple vs.toArray ∧ Jw W ts vs
theorem Jw.below {W W' : World} (hb : dz W W') : ∀ {ts : List (World → Value → Prop)} {vs : List Value}, Rg.ek dz ts → Jw W ts vs → Jw W' ts vs
 | [], _, _, h => h
 | _ :: ts, _, hs, ⟨u, r, e, h1, h2⟩ => ⟨u, r, e, hs.1 _ _ _ hb h1, Jw.below hb (ts := ts) hs.2 h2⟩
theorem jm {ts : List (World → Value → Prop)} (hs : Rg.ek dz ts) : Rg.Da dz (jw ts) := by
 rintro w w' v hb ⟨vs, rfl, h⟩
 exact ⟨vs, rfl, Jw.below hb hs h⟩
theorem Jw.get {W : World} : ∀ {ts : List (World → Value → Prop)} {vs : List Value}, Jw W ts vs → ∀ i, i < ts.length → ∃ u, vs[i]? = some u ∧ Rg.pick ts i W u
 | [], _, _, i, hi => by simp at hi
 | t :: ts, _, ⟨u, r, e, h1, h2⟩, 0, _ => by subst e; exact ⟨u, rfl, h1⟩
 | t :: ts, _, ⟨u, r, e, h1, h2⟩, i + 1, hi => by
  subst e
  obtain ⟨u', h3, h4⟩ := Jw.get (ts := ts) h2 i (by simpa using hi)
  exact ⟨u', by simpa using h3, h4⟩

def si (W : World) (b : Nat) (T : TypeId) (ls : List jf) : Prop := ∃ cs : List Value, W.heap[b]? = some (.cells cs.toArray T (0, 0)) ∧ fu W ls cs
theorem si.lt {W : World} {b : Nat} {T : TypeId} {ls : List jf} (h : si W b T ls) : b < W.heap.size := by obtain ⟨cs, h, _⟩ := h; exact lt_of_block h
theorem si.below {W W' : World} {b : Nat} {T : TypeId} {ls : List jf} (h : si W b T ls) (hb : Below W.heap.size W W') : si W' b T ls := by
 obtain ⟨cs, h1, h2⟩ := h
 exact ⟨cs, (hb.block _ (lt_of_block h1)).trans h1, h2.below hb⟩
abbrev wh := Nat × TypeId × List jf
structure Own (w : World) (bs : List wh) (W : World) : Prop where
 bel : Below w.heap.size w W
 nd : (bs.map Prod.fst).Nodup
 box : ∀ b T ls, (b, T, ls) ∈ bs → w.heap.size ≤ b ∧ si W b T ls
theorem Own.nil (w : World) : Own w [] w := ⟨Below.refl _ _, List.nodup_nil, fun b T ls h => by cases h⟩
theorem Own.step {w : World} {bs : List wh} : ∀ W W', Own w bs W → dz W W' → Own w bs W' := fun W W' h hb => ⟨ay h.bel hb, h.nd, fun b T ls hm => ⟨(h.box b T ls hm).1, (h.box b T ls hm).2.below hb⟩⟩
theorem Own.add {w W V : World} {bs : List wh} {b : Nat} {T : TypeId} {ls : List jf} (h : Own w bs V) (Uc : dz V W) (hb : V.heap.size ≤ b) (hq : si W b T ls) : Own w ((b, T, ls) :: bs) W :=
 ⟨ay h.bel Uc, List.nodup_cons.2 ⟨fun hm => by
  obtain ⟨⟨b', T', ls'⟩, hp, he⟩ := List.mem_map.1 hm
  have := (h.box b' T' ls' hp).2.lt
  have : b' = b := he
  omega, h.nd⟩, fun b' T' ls' hm => by
  rcases List.mem_cons.1 hm with e | hm
  ·
   cases e; exact ⟨Nat.le_trans h.bel.size hb, hq⟩
  ·
   exact ((Own.step V W h Uc).box b' T' ls' hm)⟩
theorem Own.push {w W : World} {bs : List wh} {T : TypeId} {ls : List jf} {cs : List Value} (h : Own w bs W) (hv : fu W ls cs) (b : Nat) (hb : b = W.heap.size) : Own w ((b, T, ls) :: bs) (W.alloc (.cells cs.toArray T)) := by
 subst hb
 exact h.add ((Below.refl _ _).alloc (Nat.le_refl _) _) (Nat.le_refl _) ⟨cs, heap_alloc_new W _, hv.below ((Below.refl _ _).alloc (Nat.le_refl _) _)⟩
theorem Own.other {w W : World} {bs : List wh} (o : Obj) (h : Own w bs W) : Own w bs (W.alloc o) := Own.step _ _ h ((Below.refl _ _).alloc (Nat.le_refl _) _)
def setM (W : World) (b off : Nat) : List Value → World
 | [] => W
 | u :: r => setM (W.setCell ⟨b, off, none⟩ u) b (off + 1) r
theorem xh (b : Nat) : ∀ (us : List Value) (off : Nat) (W W' : World), W.grownBy W' (some b) → W.grownBy (setM W' b off us) (some b)
 | [], _, _, _, h => h
 | u :: r, off, W, W', h => xh b r (off + 1) W _ (kz h off u)
theorem api {W : World} {b off : Nat} {u : Value} {T : TypeId} {cs : Array Value} (h : W.heap[b]? = some (.cells cs T (0, 0))) : (W.setCell ⟨b, off, none⟩ u).heap[b]? = some (.cells (cs.setIfInBounds off u) T (0, 0)) := by
 simp [World.setCell, Array.getElem?_modify, h]
theorem set_mid (c : List Value) (x u : Value) (d : List Value) : ((c ++ x :: d).toArray.setIfInBounds c.length u) = (c ++ u :: d).toArray := by
 simp
theorem Qs {b : Nat} {T : TypeId} : ∀ (us old : List Value) (c d : List Value) (W : World), us.length = old.length → W.heap[b]? = some (.cells (c ++ (old ++ d)).toArray T (0, 0)) → (setM W b c.length us).heap[b]? = some (.cells (c ++ (us ++ d)).toArray T (0, 0))
 | [], [], c, d, W, _, h => h
 | u :: us, o :: old, c, d, W, hl, h => by
  have h1 := api (off := c.length) (u := u) h
  rw [List.cons_append, set_mid] at h1
  have h2 := Qs us old (c ++ [u]) d _ (by simpa using hl) (by simpa using h1)
  simpa [setM] using h2
 | [], _ :: _, _, _, _, hl, _ => by simp at hl
 | _ :: _, [], _, _, _, hl, _ => by simp at hl
theorem Own.set {w W : World} {xs ys : List wh} {b : Nat} {T : TypeId} {pre old new post : List jf} {us : List Value} {off : Nat} (h : Own w (xs ++ (b, T, pre ++ (old ++ post)) :: ys) W) (hv : fu W new us) (hl : oq new = oq old) (ho : off = oq pre) :
  Own w (xs ++ (b, T, pre ++ (new ++ post)) :: ys) (setM W b off us) := by
 obtain ⟨hge, cs, hb, hls⟩ := h.box b T _ (List.mem_append_right _ List.mem_cons_self)
 obtain ⟨c, cd, rfl, k1, k2⟩ := hls.cut
 obtain ⟨o, d, rfl, k3, k4⟩ := k2.cut
 have hg := xh b us off W W (qb _ _)
 have hnw : Db (c ++ (o ++ d)) := hls.noW
 have hnd := h.nd
 rw [List.map_append, List.map_cons] at hnd
 have hn : ∀ b' T' q', (b', T', q') ∈ xs ++ ys → b' ≠ b := fun b' T' q' hm e => by
  subst e
  obtain ⟨_, h4, h5⟩ := List.nodup_append.1 hnd
  rcases List.mem_append.1 hm with hm | hm
  ·
   exact h5 b' (List.mem_map.2 ⟨_, hm, rfl⟩) b' List.mem_cons_self rfl
  ·
   exact (List.nodup_cons.1 h4).1 (List.mem_map.2 ⟨_, hm, rfl⟩)
 refine ⟨h.bel.grown hg h.bel.size (fun k hk => by injection hk with hk; omega), by rw [List.map_append, List.map_cons]; exact hnd, fun b' T' q' hm => ?_⟩
 have other : (b', T', q') ∈ xs ++ ys → (b', T', q') ∈ xs ++ (b, T, pre ++ (old ++ post)) :: ys → w.heap.size ≤ b' ∧ si (setM W b off us) b' T' q' := fun h1 h2 => by
  obtain ⟨g1, cs', g2, g3⟩ := h.box b' T' q' h2
  exact ⟨g1, cs', (hg.block b' (lt_of_block g2) (fun e => hn _ _ _ h1 (by injection e))).trans g2, g3.upto hb hnw hg⟩
 rcases List.mem_append.1 hm with hm | hm
 ·
  exact other (List.mem_append_left _ hm) (List.mem_append_left _ hm)
 ·
  rcases List.mem_cons.1 hm with e | hm
  ·
   cases e
   refine ⟨hge, c ++ (us ++ d), ?_, (((k4.upto hb hnw hg).app (hv.upto hb hnw hg)).app (k1.upto hb hnw hg))⟩
   have := Qs (T := T) us o c d W (by rw [hv.len, hl, ← k3.len]) hb
   rwa [k1.len, ← ho] at this
  ·
   exact other (List.mem_append_right _ hm) (List.mem_append_right _ (List.mem_cons_of_mem _ hm))
theorem abt {W : World} {b off : Nat} {T : TypeId} {ls ks : List jf} {us : List Value} {v : Value} (h : si W b T ls) (hv : ax ks W v) : ax ks (setM W b off us) v := by
 obtain ⟨cs, h1, h2⟩ := h
 obtain ⟨ds, e, h3⟩ := hv
 exact ⟨ds, e, h3.upto h1 h2.noW (xh b us off W W (qb _ _))⟩
def az (w : World) (bs : List wh) (V : World) : World → Prop := fun W => Own w bs W ∧ dz V W
theorem az.step {w V : World} {bs : List wh} : ∀ W W', az w bs V W → dz W W' → az w bs V W' := fun W W' h hb => ⟨Own.step W W' h.1 hb, ay h.2 hb⟩
theorem az.size {w V : World} {bs : List wh} : ∀ W, az w bs V W → V.heap.size ≤ W.heap.size := fun _ h => h.2.size
theorem az.start {w V : World} {bs : List wh} (h : Own w bs V) : az w bs V V.drew := ⟨Own.step _ _ h (dz.drew V), dz.drew V⟩
theorem az.begin {w V : World} {bs : List wh} (h : Own w bs V) : az w bs V V := ⟨h, Below.refl _ _⟩
theorem az.box {w V W : World} {bs : List wh} {b : Nat} {T : TypeId} {ls : List jf} (hm : (b, T, ls) ∈ bs) (h : az w bs V W) : si W b T ls := (h.1.box b T ls hm).2
theorem az.bel {w V W : World} {bs : List wh} (h : az w bs V W) : Below w.heap.size w W := h.1.bel

def Dk (P : Program) (T : TypeId) (n : Nat) : Prop := ∀ (ρ : Operand → Value) (w : World) (d : Option Tmp) (x : Operand) (b off : Nat) (us : List Value) (ty : TypeId) (pos : String) (af : Array Edge) (gd : Option (Nat × Bool)), us.length = n → (∀ i, i < n → w.cell? ⟨b, off + i, none⟩ = us[i]?) → ρ x = .pointer (some ⟨b, off, none⟩) →
 (execOp ρ { dst := d, op := .load T x, type := ty, pos := pos, after := af, guard := gd }).run P w = .ok (.value (.agg us.toArray)) w
theorem Oc {w : World} {b : Nat} {T : TypeId} {c m d : List Value} (h : w.heap[b]? = some (.cells (c ++ (m ++ d)).toArray T (0, 0))) (i : Nat) (hi : i < m.length) : w.cell? ⟨b, c.length + i, none⟩ = m[i]? := by
 rw [ag h]
 simp only [List.getElem?_toArray]
 rw [List.getElem?_append_right om, Nat.add_sub_cancel_left, List.getElem?_append_left hi]
theorem apn {P : Program} {Q : Exit → Act → World → Prop} {l : List Oper} {n : Nat} {T : Nat → World → Value → Prop} {G : World → Prop} {al : List Nat} {a0 : Act} {k d b off m : Nat} {x : Operand} {TB TL : TypeId} {pre mid post : List jf} {ty : TypeId} {pos : String} {af : Array Edge} {gd : Option (Nat × Bool)}
  (hL : Dk P TL m) (hal : al.contains k = false) (hx : Rg.ib l n T a0 k x (Rg.au (.pointer (some ⟨b, off, none⟩)))) (hb : ∀ W, G W → si W b TB (pre ++ (mid ++ post))) (ho : oq pre = off) (hm : oq mid = m) (hT : T k = ax mid) :
  Rg.Step P Q l n T G dz al a0 k { dst := some d, op := .load TL x, type := ty, pos := pos, after := af, guard := gd } := by
 intro a w hG hO hN
 obtain ⟨cs, h1, h2⟩ := hb w hG
 obtain ⟨c, cd, rfl, k1, k2⟩ := h2.cut
 obtain ⟨o, e, rfl, k3, k4⟩ := k2.cut
 have hlen : o.length = m := by rw [k3.len, hm]
 have hr := hL a.eval w (some d) x b off o ty pos af gd hlen (fun i hi => by
  have := Oc h1 i om
  rwa [k1.len, ho] at this) (hx a w hO hN)
 exact iq hr ⟨_, rfl, hG, Below.refl _ _, by rw [hT]; exact ⟨o, rfl, k3⟩, fun h => by rw [hal] at h; cases h⟩
def aea (P : Program) (T : TypeId) : Prop := ∀ (ρ : Operand → Value) (w : World) (d : Option Tmp) (x : Operand) (b off : Nat) (u : Value) (ty : TypeId) (pos : String) (af : Array Edge) (gd : Option (Nat × Bool)), w.cell? ⟨b, off, none⟩ = some u → ρ x = .pointer (some ⟨b, off, none⟩) →
 (execOp ρ { dst := d, op := .load T x, type := ty, pos := pos, after := af, guard := gd }).run P w = .ok (.value u) w
theorem bap {P : Program} {Q : Exit → Act → World → Prop} {l : List Oper} {n : Nat} {T : Nat → World → Value → Prop} {G : World → Prop} {al : List Nat} {a0 : Act} {k d b off : Nat} {x : Operand} {TB TL : TypeId} {pre post : List jf} {u : Value} {ty : TypeId} {pos : String} {af : Array Edge} {gd : Option (Nat × Bool)}
  (hL : aea P TL) (hal : al.contains k = false) (hx : Rg.ib l n T a0 k x (Rg.au (.pointer (some ⟨b, off, none⟩)))) (hb : ∀ W, G W → si W b TB (pre ++ (.v u :: post))) (ho : oq pre = off) (hT : T k = Rg.au u) :
  Rg.Step P Q l n T G dz al a0 k { dst := some d, op := .load TL x, type := ty, pos := pos, after := af, guard := gd } := by
 intro a w hG hO hN
 obtain ⟨cs, h1, h2⟩ := hb w hG
 obtain ⟨c, cd, rfl, k1, k2⟩ := h2.cut
 obtain ⟨r, rfl, _, k4⟩ := k2.Ci
 have hr := hL a.eval w (some d) x b off u ty pos af gd (by
  have := Oc (m := [u]) (d := r) h1 0 (by simp)
  rw [k1.len, ho] at this; simpa using this) (hx a w hO hN)
 exact iq hr ⟨_, rfl, hG, Below.refl _ _, by rw [hT]; rfl, fun h => by rw [hal] at h; cases h⟩
def zh (P : Program) (T : TypeId) (n : Nat) : Prop := ∀ (ρ : Operand → Value) (w : World) (d : Option Tmp) (p x : Operand) (b off : Nat) (cs : List Value) (TB : TypeId) (us : List Value) (ty : TypeId) (pos : String) (af : Array Edge) (gd : Option (Nat × Bool)), us.length = n → (∀ u ∈ us, u.oneCell' = true) → w.heap[b]? = some (.cells cs.toArray TB (0, 0)) → off + n ≤ cs.length → ρ p = .pointer (some ⟨b, off, none⟩) → ρ x = .agg us.toArray →
 (execOp ρ { dst := d, op := .store T p x, type := ty, pos := pos, after := af, guard := gd }).run P w = .ok .skip (setM w b off us)
end Sb


namespace Sb
theorem Gg {W : World} {x : Rat} {v : Value} (h : ax [.q x] W v) : ∃ s1 n1 A1 c1 l1 s2 n2 A2 c2 l2, v = .agg #[.int .i64 s1, .bool n1, .slice A1 (List.length l1) c1, .int .i64 s2, .bool n2, .slice A2 (List.length l2) c2] ∧ fw W s1 n1 A1 c1 l1 x.num ∧ fw W s2 n2 A2 c2 l2 (x.den : Int) := by
 obtain ⟨cs, rfl, h⟩ := h
 obtain ⟨s1, n1, A1, c1, l1, s2, n2, A2, c2, l2, r, rfl, h1, h2, h3⟩ := h.axz
 cases h3
 exact ⟨_, _, _, _, _, _, _, _, _, _, rfl, h1, h2⟩
theorem aaf {W : World} {n : Int} {v : Value} (h : ax [.z n] W v) : ∃ s1 n1 A1 c1 l1, v = .agg #[.int .i64 s1, .bool n1, .slice A1 (List.length l1) c1] ∧ fw W s1 n1 A1 c1 l1 n := by
 obtain ⟨cs, rfl, h⟩ := h
 obtain ⟨s1, n1, A1, c1, l1, r, rfl, h1, h3⟩ := h.alj
 cases h3
 exact ⟨_, _, _, _, _, rfl, h1⟩
theorem Mx {W : World} {a b : Int} {v : Value} (h : ax [.z a, .z b] W v) : ∃ s1 n1 A1 c1 l1 s2 n2 A2 c2 l2, v = .agg #[.int .i64 s1, .bool n1, .slice A1 (List.length l1) c1, .int .i64 s2, .bool n2, .slice A2 (List.length l2) c2] ∧ fw W s1 n1 A1 c1 l1 a ∧ fw W s2 n2 A2 c2 l2 b := by
 obtain ⟨cs, rfl, h⟩ := h
 obtain ⟨s1, n1, A1, c1, l1, r, rfl, h1, h⟩ := h.alj
 obtain ⟨s2, n2, A2, c2, l2, r, rfl, h2, h⟩ := h.alj
 cases h
 exact ⟨_, _, _, _, _, _, _, _, _, _, rfl, h1, h2⟩
theorem bnh {W : World} {x : Rat} {v : Value} (h : ax [.q x] W v) : ax [.z x.num, .z (x.den : Int)] W v := by
 obtain ⟨s1, n1, A1, c1, l1, s2, n2, A2, c2, l2, rfl, f1, f2⟩ := Gg h
 exact ⟨_, rfl, fu.z f1 (fu.z f2 rfl)⟩
theorem Eo {W : World} {a b : Value} {v : Value} (h : ax [.v a, .v b] W v) : v = .agg #[a, b] := by
 obtain ⟨cs, rfl, h⟩ := h
 obtain ⟨r, rfl, _, h⟩ := h.Ci
 obtain ⟨r, rfl, _, h⟩ := h.Ci
 cases h; rfl
theorem bct (W : World) {a b : Value} (ha : Kw a) (hb : Kw b) : ax [.v a, .v b] W (.agg #[a, b]) := ⟨[a, b], rfl, fu.v ha (fu.v hb rfl)⟩
theorem Bd (W : World) (a b : Int) : ax [.v (.int .i64 a), .v (.int .i64 b)] W (.agg #[.int .i64 a, .int .i64 b]) := bct W (lh _) (lh _)
theorem Xg {w w' : World} {q : Rat} {e : Ending} (h : Gh w q.num (q.den : Int) e w') : ic (ax [.q q]) w e w' := by
 obtain ⟨s1, n1, A1, c1, l1, s2, n2, A2, c2, l2, rfl, h1, h2, hb⟩ := h
 exact ⟨_, rfl, hb, _, rfl, fu.q h1 h2 rfl⟩
theorem abk {w w' : World} {z : Int} {e : Ending} (h : Be w z e w') : ic (ax [.z z]) w e w' := by
 obtain ⟨s1, n1, A1, c1, l1, rfl, h1, hb⟩ := h
 exact ⟨_, rfl, hb, _, rfl, fu.z h1 rfl⟩
theorem aqn {w w' : World} {a b : Int} {e : Ending} (h : ic (ax [.z a, .z b]) w e w') : Gh w a b e w' := by
 obtain ⟨u, rfl, hb, h⟩ := h
 obtain ⟨s1, n1, A1, c1, l1, s2, n2, A2, c2, l2, rfl, f1, f2⟩ := Mx h
 exact ⟨_, _, _, _, _, _, _, _, _, _, rfl, f1, f2, hb⟩
theorem Zz {w w' : World} {u : Value} {e : Ending} (h : e = .returned u ∧ Below w.heap.size w w') : ic (Rg.au u) w e w' := ⟨u, h.1, h.2, rfl⟩
theorem azg {F : Nat} {x q : Rat} {W : World} {v0 : Value} (h : Nc W F x q) (h0 : ax [.q x] W v0) : Calls Tryz.prog F #[v0] W (ic (ax [.q q]) W) := by
 obtain ⟨s1, n1, A1, c1, l1, s2, n2, A2, c2, l2, rfl, f1, f2⟩ := Gg h0
 exact (h _ _ _ _ _ _ _ _ _ _ W (Below.refl _ _) f1 f2).mono fun e w' h => Xg h
theorem azf {F : Nat} {x y q : Rat} {W : World} {v0 v1 : Value} (h : Er W F x y q) (h0 : ax [.q x] W v0) (h1 : ax [.q y] W v1) : Calls Tryz.prog F #[v0, v1] W (ic (ax [.q q]) W) := by
 obtain ⟨s1, n1, A1, c1, l1, s2, n2, A2, c2, l2, rfl, f1, f2⟩ := Gg h0
 obtain ⟨s3, n3, A3, c3, l3, s4, n4, A4, c4, l4, rfl, f3, f4⟩ := Gg h1
 exact (h _ _ _ _ _ _ _ _ _ _ _ _ _ _ _ _ _ _ _ _ W (Below.refl _ _) f1 f2 f3 f4).mono fun e w' h => Xg h
theorem bhw {F : Nat} {x y q : Int} {W : World} {v0 v1 : Value} (h : Bj W F x y q) (h0 : ax [.z x] W v0) (h1 : ax [.z y] W v1) : Calls Tryz.prog F #[v0, v1] W (ic (ax [.z q]) W) := by
 obtain ⟨s1, n1, A1, c1, l1, rfl, f1⟩ := aaf h0
 obtain ⟨s2, n2, A2, c2, l2, rfl, f2⟩ := aaf h1
 exact (h _ _ _ _ _ _ _ _ _ _ W (Below.refl _ _) f1 f2).mono fun e w' h => abk h
theorem i2 {F : Nat} {x y q : Int} {w W : World} {v0 v1 : Value} (h : Bj w F x y q) (hb : Below w.heap.size w W) (h0 : ax [.z x] W v0) (h1 : ax [.z y] W v1) : Calls Tryz.prog F #[v0, v1] W (ic (ax [.z q]) W) := by
 obtain ⟨s1, n1, A1, c1, l1, rfl, f1⟩ := aaf h0
 obtain ⟨s2, n2, A2, c2, l2, rfl, f2⟩ := aaf h1
 exact (h _ _ _ _ _ _ _ _ _ _ W hb f1 f2).mono fun e w' h => abk h
end Sb


namespace Sb
theorem jk {w : World} {b o : Nat} {cs : List Value} {T : TypeId} (h : w.heap[b]? = some (.cells cs.toArray T (0, 0))) (ho : o < cs.length) : ∃ c, w.cell? ⟨b, o, none⟩ = some c := by
 rw [ag h]
 exact ⟨cs[o], by simp [ho]⟩
def Jy (P : Program) (T : TypeId) (cs : List Value) : Prop := ∀ (ρ : Operand → Value) (w : World) (d : Option Tmp) (ty : TypeId) (pos : String) (af : Array Edge) (gd : Option (Nat × Bool)),
 (execOp ρ { dst := d, op := .alloc T, type := ty, pos := pos, after := af, guard := gd }).run P w = .ok (.value (.pointer (some ⟨w.heap.size, 0, none⟩))) (w.alloc (.cells cs.toArray T))
def qj (T : TypeId) (ls : List jf) (B : Nat) : World → Value → Prop := fun W v => ∃ b, v = .pointer (some ⟨b, 0, none⟩) ∧ B ≤ b ∧ si W b T ls
theorem qz (T : TypeId) (ls : List jf) (B : Nat) : Rg.Da dz (qj T ls B) := by
 rintro w w' v hb ⟨b, rfl, h1, h2⟩
 exact ⟨b, rfl, h1, h2.below hb⟩
theorem Zc (s : ByteArray) : Kw (.string s) := ⟨fun m h => by simp at h, rfl, fun m h => by simp at h⟩
def okV : Value → Bool
 | .int .i64 _ => true
 | .string _ => true
 | .bool _ => true
 | .slice _ _ _ => true
 | .pointer _ => true
 | _ => false
theorem auv {u : Value} (h : okV u = true) : Kw u := by
 unfold okV at h
 split at h
 ·
  exact lh _
 ·
  exact Zc _
 ·
  exact Ti _
 ·
  exact Tg _ _ _
 ·
  exact bfc _
 ·
  cases h
theorem fu.vs (W : World) : ∀ (us : List Value), us.all okV = true → fu W (us.map .v) us
 | [], _ => rfl
 | u :: us, h => by
  rw [List.all_cons, Bool.and_eq_true] at h
  exact fu.v (auv h.1) (fu.vs W us h.2)
theorem uh {P : Program} {Q : Exit → Act → World → Prop} {l : List Oper} {n : Nat} {T : Nat → World → Value → Prop} {G : World → Prop} {al : List Nat} {a0 : Act} {k d : Nat} {ty : TypeId} {pos : String} {af : Array Edge} {gd : Option (Nat × Bool)} {B : Nat} {TL : TypeId} {cs : List Value} (hN : Jy P TL cs) (hw : cs.all okV = true)
  (Fx : ∀ W W', G W → dz W W' → G W') (hB : ∀ W, G W → B ≤ W.heap.size) (hT : T k = qj TL (cs.map .v) B) (hlt : ∀ j W u, al.contains j = true → T j W u → ∃ b, u = .pointer (some ⟨b, 0, none⟩) ∧ b < W.heap.size) :
  Rg.Step P Q l n T G dz al a0 k { dst := some d, op := .alloc TL, type := ty, pos := pos, after := af, guard := gd } := by
 refine axu (N := qj TL (cs.map .v)) (B := B) ?_ Fx hB hT hlt
 intro a w
 exact ⟨_, (Below.refl _ _).alloc (Nat.le_refl _) _, fun hB => ⟨w.heap.size, rfl, hB, cs, heap_alloc_new w _, fu.vs _ cs hw⟩, hN a.eval w (some d) ty pos af gd⟩
def bka (t : World → Value → Prop) : Prop := ∃ TL ls B, t = qj TL ls B
theorem xm {T : Nat → World → Value → Prop} {js : List Nat} (h : ∀ j, js.contains j = true → bka (T j)) : ∀ j W u, js.contains j = true → T j W u → ∃ b, u = .pointer (some ⟨b, 0, none⟩) ∧ b < W.heap.size := fun j W u hj ht => by
 obtain ⟨TL, ls, B, e⟩ := h j hj
 rw [e] at ht
 obtain ⟨b, h1, _, h2⟩ := ht
 exact ⟨b, h1, h2.lt⟩
theorem Own.aod {w W V : World} {bs : List wh} {b b' : Nat} {T T' : TypeId} {ls ls' : List jf} (h : Own w bs V) (Uc : dz V W) (hb : V.heap.size ≤ b) (hq : si W b T ls) (hb' : V.heap.size ≤ b') (hq' : si W b' T' ls') (hne : b' ≠ b) : Own w ((b', T', ls') :: (b, T, ls) :: bs) W := by
 have h1 := Own.add h Uc hb hq
 have h2 := Own.add h Uc hb' hq'
 refine ⟨h1.bel, List.nodup_cons.2 ⟨fun hm => ?_, h1.nd⟩, fun c p q hm => ?_⟩
 ·
  rw [List.map_cons] at hm
  rcases List.mem_cons.1 hm with e | hm
  ·
   exact hne e
  ·
   exact (List.nodup_cons.1 h2.nd).1 hm
 ·
  rcases List.mem_cons.1 hm with e | hm
  ·
   cases e; exact h2.box _ _ _ List.mem_cons_self
  ·
   exact h1.box _ _ _ hm
def Eu (P : Program) (o : Operand → Op) (amy : Nat) : Prop := ∀ (a : Act) (w : World) (d : Option Tmp) (x : Operand) (b off : Nat) (ty : TypeId) (pos : String) (af : Array Edge) (gd : Option (Nat × Bool)), a.eval x = .pointer (some ⟨b, off, none⟩) →
 (execOp a.eval { dst := d, op := o x, type := ty, pos := pos, after := af, guard := gd }).run P w = .ok (.value (.pointer (some ⟨b, off + amy, none⟩))) w
theorem Fq {P : Program} {Q : Exit → Act → World → Prop} {l : List Oper} {n : Nat} {T : Nat → World → Value → Prop} {G : World → Prop} {al : List Nat} {a0 : Act} {k d : Nat} {ty : TypeId} {pos : String} {af : Array Edge} {gd : Option (Nat × Bool)} {b off off' amy : Nat} {x : Operand} {o : Operand → Op} (hA : Eu P o amy) (hal : al.contains k = false) (hx : Rg.ib l n T a0 k x (Rg.au (.pointer (some ⟨b, off, none⟩)))) (ho : off + amy = off') (hT : T k = Rg.au (.pointer (some ⟨b, off', none⟩))) :
  Rg.Step P Q l n T G dz al a0 k { dst := some d, op := o x, type := ty, pos := pos, after := af, guard := gd } := by
 intro a w hG hO hN
 exact iq (hA a w (some d) x b off ty pos af gd (hx a w hO hN)) ⟨_, rfl, hG, Below.refl _ _, by rw [hT, ho]; rfl, fun h => by rw [hal] at h; cases h⟩
def Ut (P : Program) (T : TypeId) (m1 m2 : Nat) : Prop := ∀ (ρ : Operand → Value) (w : World) (d : Option Tmp) (x y : Operand) (us vs : List Value) (ty : TypeId) (pos : String) (af : Array Edge) (gd : Option (Nat × Bool)), us.length = m1 → vs.length = m2 → ρ x = .agg us.toArray → ρ y = .agg vs.toArray →
 (execOp ρ { dst := d, op := .build T #[(0, x), (1, y)], type := ty, pos := pos, after := af, guard := gd }).run P w = .ok (.value (.agg (us ++ vs).toArray)) w
theorem Gm {P : Program} {Q : Exit → Act → World → Prop} {l : List Oper} {n : Nat} {T : Nat → World → Value → Prop} {G : World → Prop} {al : List Nat} {a0 : Act} {k d : Nat} {ty : TypeId} {pos : String} {af : Array Edge} {gd : Option (Nat × Bool)} {m1 m2 : Nat} {x y : Operand} {TL : TypeId} {ls ks : List jf} (hB : Ut P TL m1 m2) (hal : al.contains k = false) (hx : Rg.ib l n T a0 k x (ax ls)) (hy : Rg.ib l n T a0 k y (ax ks)) (h1 : oq ls = m1) (h2 : oq ks = m2) (hT : T k = ax (ls ++ ks)) :
  Rg.Step P Q l n T G dz al a0 k { dst := some d, op := .build TL #[(0, x), (1, y)], type := ty, pos := pos, after := af, guard := gd } := by
 intro a w hG hO hN
 obtain ⟨us, e1, g1⟩ := hx a w hO hN
 obtain ⟨vs, e2, g2⟩ := hy a w hO hN
 exact iq (hB a.eval w (some d) x y us vs ty pos af gd (by rw [g1.len, h1]) (by rw [g2.len, h2]) e1 e2) ⟨_, rfl, hG, Below.refl _ _, by rw [hT]; exact ⟨_, rfl, g2.app g1⟩, fun h => by rw [hal] at h; cases h⟩
def ais (P : Program) (T : TypeId) (cs : List Value) : Prop := ∀ (ρ : Operand → Value) (w : World) (d : Option Tmp) (ty : TypeId) (pos : String) (af : Array Edge) (gd : Option (Nat × Bool)),
 (execOp ρ { dst := d, op := .build T #[], type := ty, pos := pos, after := af, guard := gd }).run P w = .ok (.value (.agg cs.toArray)) w
theorem atz {P : Program} {Q : Exit → Act → World → Prop} {l : List Oper} {n : Nat} {T : Nat → World → Value → Prop} {G : World → Prop} {al : List Nat} {a0 : Act} {k d : Nat} {ty : TypeId} {pos : String} {af : Array Edge} {gd : Option (Nat × Bool)} {TL : TypeId} {cs : List Value} (hB : ais P TL cs) (hal : al.contains k = false) (hw : cs.all okV = true) (hT : T k = ax (cs.map .v)) :
  Rg.Step P Q l n T G dz al a0 k { dst := some d, op := .build TL #[], type := ty, pos := pos, after := af, guard := gd } := by
 intro a w hG hO hN
 exact iq (hB a.eval w (some d) ty pos af gd) ⟨_, rfl, hG, Below.refl _ _, by rw [hT]; exact ⟨_, rfl, fu.vs _ cs hw⟩, fun h => by rw [hal] at h; cases h⟩
def SlT (T : TypeId) (m : Nat) (ls : List jf) : World → Value → Prop := fun W v => ∃ b, v = .slice (some ⟨b, 0, none⟩) m m ∧ si W b T ls
theorem bal (T : TypeId) (m : Nat) (ls : List jf) : Rg.Da dz (SlT T m ls) := by
 rintro w w' v hb ⟨b, rfl, h2⟩
 exact ⟨b, rfl, h2.below hb⟩
def Qj (l : List Oper) (n : Nat) (T : Nat → World → Value → Prop) (a0 : Act) (k ms : Nat) : Nat → List (Nat × Operand) → List (List jf) → Prop
 | _, [], gs => gs = []
 | i, p :: ps, gs => ∃ g r, gs = g :: r ∧ oq g = ms ∧ p.1 = i ∧ Rg.ib l n T a0 k p.2 (ax g) ∧ Qj l n T a0 k ms (i + 1) ps r
theorem Qj.nil {l : List Oper} {n : Nat} {T : Nat → World → Value → Prop} {a0 : Act} {k ms i : Nat} : Qj l n T a0 k ms i [] [] := rfl
theorem Qj.cons {l : List Oper} {n : Nat} {T : Nat → World → Value → Prop} {a0 : Act} {k ms i : Nat} {x : Operand} {ps : List (Nat × Operand)} {g : List jf} {r : List (List jf)} (h : Rg.ib l n T a0 k x (ax g)) (hm : oq g = ms) (hr : Qj l n T a0 k ms (i + 1) ps r) : Qj l n T a0 k ms i ((i, x) :: ps) (g :: r) := ⟨g, r, rfl, hm, rfl, h, hr⟩
theorem mf {P : Program} {Q : Exit → Act → World → Prop} {l : List Oper} {n : Nat} {T : Nat → World → Value → Prop} {G : World → Prop} {al : List Nat} {a0 : Act} {k d : Nat} {ty : TypeId} {pos : String} {af : Array Edge} {gd : Option (Nat × Bool)} {x : Operand} {ts : List (World → Value → Prop)} {i : Nat} (hal : al.contains k = false) (hx : Rg.ib l n T a0 k x (jw ts)) (hi : i < ts.length) (hT : T k = Rg.pick ts i) :
  Rg.Step P Q l n T G dz al a0 k { dst := some d, op := .extract x i, type := ty, pos := pos, after := af, guard := gd } :=
 bjh hal hx (fun W v ⟨vs, h1, h2⟩ => by
  obtain ⟨u, h3, h4⟩ := h2.get i hi
  exact ⟨vs.toArray, h1, u, by simpa using h3, by rw [hT]; exact h4⟩)
theorem aoz {P : Program} {ops : Array Oper} {Q : Exit → Act → World → Prop} {rest : List Oper} {a : Act} {w : World} {d : Nat} {x : Operand} {ty : TypeId} {pos : String} {af : Array Edge} (h : wpList P ops Q rest (a.put (some d) (a.eval x)) w) :
  wpList P ops Q ({ dst := some d, op := .assign x, type := ty, pos := pos, after := af, guard := none } :: rest) a w := by
 unfold wpList
 rw [if_pos (by simp [Region.wanted])]
 exact .inl (iq (v := a.eval x) (w' := w) rfl h)
theorem atq {P : Program} {ops : Array Oper} {Q : Exit → Act → World → Prop} {rest : List Oper} {a : Act} {w0 w : World} {TL TB : TypeId} {p x : Operand} {m b off : Nat} {xs ys : List wh} {pre old new post : List jf} {ty : TypeId} {pos : String} {af : Array Edge}
  (hS : zh P TL m) (hp : a.eval p = .pointer (some ⟨b, off, none⟩)) (hv : ax new w (a.eval x)) (hO : Own w0 (xs ++ (b, TB, pre ++ (old ++ post)) :: ys) w) (hm : oq new = m) (hl : oq new = oq old) (ho : off = oq pre)
  (hk : ∀ w', Own w0 (xs ++ (b, TB, pre ++ (new ++ post)) :: ys) w' → (∀ ks u, ax ks w u → ax ks w' u) → wpList P ops Q rest a w') :
  wpList P ops Q ({ dst := none, op := .store TL p x, type := ty, pos := pos, after := af, guard := none } :: rest) a w := by
 obtain ⟨us, e, hu⟩ := hv
 have hbx := hO.box b TB _ (List.mem_append_right _ List.mem_cons_self)
 obtain ⟨hge, cs, hb, hls⟩ := hbx
 have hr := hS a.eval w none p x b off cs TB us ty pos af none (by rw [hu.len, hm]) (fun u h => (hu.noW u h).2.1) hb (by
  have h1 := hls.len
  obtain ⟨c, cd, rfl, k1, k2⟩ := hls.cut
  obtain ⟨o, d, rfl, k3, k4⟩ := k2.cut
  have e1 := k1.len
  have e3 := k3.len
  simp only [List.length_append]
  omega) hp e
 unfold wpList
 rw [if_pos (by simp [Region.wanted])]
 refine .inl ?_
 unfold Oper.wp
 rw [hr]
 exact hk _ (hO.set hu hl ho) (fun ks u h => abt ⟨cs, hb, hls⟩ h)
theorem oz : Dk Tryz.prog 77 3 := by
 intro ρ w d x b off us ty pos af gd hl hc hx
 match us, hl with
 | [u0, u1, u2], _ =>
 have k0 : w.cell? ⟨b, off, none⟩ = some u0 := hc 0 om
 have k1 : w.cell? ⟨b, off + 1, none⟩ = some u1 := hc 1 om
 have k2 : w.cell? ⟨b, off + 2, none⟩ = some u2 := hc 2 om
 clear hc
 simp only [execOp, hx]
 simp [go_sem, k0, k1, k2]
theorem Fu : Dk Tryz.prog 79 6 := by
 intro ρ w d x b off us ty pos af gd hl hc hx
 match us, hl with
 | [u0, u1, u2, u3, u4, u5], _ =>
 have k0 : w.cell? ⟨b, off, none⟩ = some u0 := hc 0 om
 have k1 : w.cell? ⟨b, off + 1, none⟩ = some u1 := hc 1 om
 have k2 : w.cell? ⟨b, off + 2, none⟩ = some u2 := hc 2 om
 have k3 : w.cell? ⟨b, off + 3, none⟩ = some u3 := hc 3 om
 have k4 : w.cell? ⟨b, off + 4, none⟩ = some u4 := hc 4 om
 have k5 : w.cell? ⟨b, off + 5, none⟩ = some u5 := hc 5 om
 clear hc
 simp only [execOp, hx]
 simp [go_sem, k0, k1, k2, k3, k4, k5]
theorem zn : Dk Tryz.prog 23 2 := by
 intro ρ w d x b off us ty pos af gd hl hc hx
 match us, hl with
 | [u0, u1], _ =>
 have k0 : w.cell? ⟨b, off, none⟩ = some u0 := hc 0 om
 have k1 : w.cell? ⟨b, off + 1, none⟩ = some u1 := hc 1 om
 clear hc
 simp only [execOp, hx]
 simp [go_sem, k0, k1]
theorem Dq : zh Tryz.prog 77 3 := by
 intro ρ w d p x b off cs TB us ty pos af gd hl hu hb ho hp hx
 match us, hl with
 | [u0, u1, u2], _ =>
 have o0 := hu u0 (by simp)
 have o1 := hu u1 (by simp)
 have o2 := hu u2 (by simp)
 have f0 : w.frozen? ⟨b, off, none⟩ = false := ai hb _
 have f1 : w.frozen? ⟨b, off + 1, none⟩ = false := ai hb _
 have f2 : w.frozen? ⟨b, off + 2, none⟩ = false := ai hb _
 obtain ⟨c0, k0⟩ : ∃ c, w.cell? ⟨b, off, none⟩ = some c := jk hb om
 obtain ⟨c1, k1⟩ : ∃ c, w.cell? ⟨b, off + 1, none⟩ = some c := jk hb om
 obtain ⟨c2, k2⟩ : ∃ c, w.cell? ⟨b, off + 2, none⟩ = some c := jk hb om
 have hlt := lt_of_block hb
 clear hb ho hu
 simp only [execOp, hp, hx, setM]
 simp [go_sem, hlt, run_store _ _ _ _ _ o0, o0, run_store _ _ _ _ _ o1, o1, run_store _ _ _ _ _ o2, o2, k0, k1, k2, f0, f1, f2]
theorem Gx : zh Tryz.prog 79 6 := by
 intro ρ w d p x b off cs TB us ty pos af gd hl hu hb ho hp hx
 match us, hl with
 | [u0, u1, u2, u3, u4, u5], _ =>
 have o0 := hu u0 (by simp)
 have o1 := hu u1 (by simp)
 have o2 := hu u2 (by simp)
 have o3 := hu u3 (by simp)
 have o4 := hu u4 (by simp)
 have o5 := hu u5 (by simp)
 have f0 : w.frozen? ⟨b, off, none⟩ = false := ai hb _
 have f1 : w.frozen? ⟨b, off + 1, none⟩ = false := ai hb _
 have f2 : w.frozen? ⟨b, off + 2, none⟩ = false := ai hb _
 have f3 : w.frozen? ⟨b, off + 3, none⟩ = false := ai hb _
 have f4 : w.frozen? ⟨b, off + 4, none⟩ = false := ai hb _
 have f5 : w.frozen? ⟨b, off + 5, none⟩ = false := ai hb _
 obtain ⟨c0, k0⟩ : ∃ c, w.cell? ⟨b, off, none⟩ = some c := jk hb om
 obtain ⟨c1, k1⟩ : ∃ c, w.cell? ⟨b, off + 1, none⟩ = some c := jk hb om
 obtain ⟨c2, k2⟩ : ∃ c, w.cell? ⟨b, off + 2, none⟩ = some c := jk hb om
 obtain ⟨c3, k3⟩ : ∃ c, w.cell? ⟨b, off + 3, none⟩ = some c := jk hb om
 obtain ⟨c4, k4⟩ : ∃ c, w.cell? ⟨b, off + 4, none⟩ = some c := jk hb om
 obtain ⟨c5, k5⟩ : ∃ c, w.cell? ⟨b, off + 5, none⟩ = some c := jk hb om
 have hlt := lt_of_block hb
 clear hb ho hu
 simp only [execOp, hp, hx, setM]
 simp [go_sem, hlt, run_store _ _ _ _ _ o0, o0, run_store _ _ _ _ _ o1, o1, run_store _ _ _ _ _ o2, o2, run_store _ _ _ _ _ o3, o3, run_store _ _ _ _ _ o4, o4, run_store _ _ _ _ _ o5, o5, k0, k1, k2, k3, k4, k5, f0, f1, f2, f3, f4, f5]
theorem Oy : zh Tryz.prog 23 2 := by
 intro ρ w d p x b off cs TB us ty pos af gd hl hu hb ho hp hx
 match us, hl with
 | [u0, u1], _ =>
 have o0 := hu u0 (by simp)
 have o1 := hu u1 (by simp)
 have f0 : w.frozen? ⟨b, off, none⟩ = false := ai hb _
 have f1 : w.frozen? ⟨b, off + 1, none⟩ = false := ai hb _
 obtain ⟨c0, k0⟩ : ∃ c, w.cell? ⟨b, off, none⟩ = some c := jk hb om
 obtain ⟨c1, k1⟩ : ∃ c, w.cell? ⟨b, off + 1, none⟩ = some c := jk hb om
 have hlt := lt_of_block hb
 clear hb ho hu
 simp only [execOp, hp, hx, setM]
 simp [go_sem, hlt, run_store _ _ _ _ _ o0, o0, run_store _ _ _ _ _ o1, o1, k0, k1, f0, f1]
theorem Nv : Jy Tryz.prog 77 [.int .i64 0, .bool false, .slice none 0 0] := by
 intro ρ w d ty pos af gd
 simp only [execOp]
 simp [go_sem]
theorem Zd : Jy Tryz.prog 23 [.int .i64 0, .int .i64 0] := by
 intro ρ w d ty pos af gd
 simp only [execOp]
 simp [go_sem]
theorem bcz : Eu Tryz.prog (fun x => .fieldAddr 79 x 0) 0 := by
 intro a w d x b off ty pos af gd hx
 have hc : ∀ v, a.eval (.const v) = v := fun _ => rfl
 simp only [execOp, hx, hc]
 simp [go_sem]
theorem Eh {Q : Exit → Act → World → Prop} {l : List Oper} {n : Nat} {T : Nat → World → Value → Prop} {G : World → Prop} {al : List Nat} {a0 : Act} {k d : Nat} {ty : TypeId} {pos : String} {af : Array Edge} {gd : Option (Nat × Bool)} {b off off' : Nat} {x : Operand} (hal : al.contains k = false) (hx : Rg.ib l n T a0 k x (Rg.au (.pointer (some ⟨b, off, none⟩)))) (ho : off + 0 = off') (hT : T k = Rg.au (.pointer (some ⟨b, off', none⟩))) :
  Rg.Step Tryz.prog Q l n T G dz al a0 k { dst := some d, op := .fieldAddr 79 x 0, type := ty, pos := pos, after := af, guard := gd } := by
 exact Fq (P := Tryz.prog) (o := fun x => .fieldAddr 79 x 0) bcz hal hx ho hT
theorem bcy : Eu Tryz.prog (fun x => .fieldAddr 79 x 1) 3 := by
 intro a w d x b off ty pos af gd hx
 have hc : ∀ v, a.eval (.const v) = v := fun _ => rfl
 simp only [execOp, hx, hc]
 simp [go_sem]
theorem Ap {Q : Exit → Act → World → Prop} {l : List Oper} {n : Nat} {T : Nat → World → Value → Prop} {G : World → Prop} {al : List Nat} {a0 : Act} {k d : Nat} {ty : TypeId} {pos : String} {af : Array Edge} {gd : Option (Nat × Bool)} {b off off' : Nat} {x : Operand} (hal : al.contains k = false) (hx : Rg.ib l n T a0 k x (Rg.au (.pointer (some ⟨b, off, none⟩)))) (ho : off + 3 = off') (hT : T k = Rg.au (.pointer (some ⟨b, off', none⟩))) :
  Rg.Step Tryz.prog Q l n T G dz al a0 k { dst := some d, op := .fieldAddr 79 x 1, type := ty, pos := pos, after := af, guard := gd } := by
 exact Fq (P := Tryz.prog) (o := fun x => .fieldAddr 79 x 1) bcy hal hx ho hT
theorem bcx : Eu Tryz.prog (fun x => .fieldAddr 23 x 0) 0 := by
 intro a w d x b off ty pos af gd hx
 have hc : ∀ v, a.eval (.const v) = v := fun _ => rfl
 simp only [execOp, hx, hc]
 simp [go_sem]
theorem Kc {Q : Exit → Act → World → Prop} {l : List Oper} {n : Nat} {T : Nat → World → Value → Prop} {G : World → Prop} {al : List Nat} {a0 : Act} {k d : Nat} {ty : TypeId} {pos : String} {af : Array Edge} {gd : Option (Nat × Bool)} {b off off' : Nat} {x : Operand} (hal : al.contains k = false) (hx : Rg.ib l n T a0 k x (Rg.au (.pointer (some ⟨b, off, none⟩)))) (ho : off + 0 = off') (hT : T k = Rg.au (.pointer (some ⟨b, off', none⟩))) :
  Rg.Step Tryz.prog Q l n T G dz al a0 k { dst := some d, op := .fieldAddr 23 x 0, type := ty, pos := pos, after := af, guard := gd } := by
 exact Fq (P := Tryz.prog) (o := fun x => .fieldAddr 23 x 0) bcx hal hx ho hT
end Sb


namespace Sb
def Oj (P : Program) (T : TypeId) (n : Nat) : Prop := ∀ (w : World) (b off : Nat) (us : List Value), us.length = n → (∀ i, i < n → w.cell? ⟨b, off + i, none⟩ = us[i]?) → (loadVar T ⟨b, off, none⟩).run P w = .ok (.agg us.toArray) w
theorem si.ayj {P : Program} {w : World} {b : Nat} {TB T : TypeId} {ls : List jf} {n : Nat} (h : si w b TB ls) (hL : Oj P T n) (hn : oq ls = n) : ∃ cs : List Value, (loadVar T ⟨b, 0, none⟩).run P w = .ok (.agg cs.toArray) w ∧ fu w ls cs := by
 obtain ⟨cs, h1, h2⟩ := h
 have h3 := hL w b 0 cs (by rw [h2.len, hn]) (fun i hi => by
  have e : cs.length = n := by rw [h2.len, hn]
  have := Oc (c := []) (m := cs) (d := []) (by simpa using h1) i om
  simpa using this)
 exact ⟨cs, h3, h2⟩
section
variable {P : Program} {fn : Func} {a : Act} {w w0 : World} {bs : List wh} {s s2 t t2 b b2 : Nat} {TB T TB2 T2 : TypeId} {ls ls2 : List jf} {n n2 : Nat} {u u2 : Value}
theorem yz (hr : fn.results = #[.tmp t]) (ht : a.tmps.getD t undef = u) (hB : Below w0.heap.size w0 w) (hd : a.defers = []) : bodyPost P fn (ic (Rg.au u) w0) .ret a w :=
 bodyPost_ret (v := u) (by simp only [results, hr]; simp [go_sem]; simpa using ht) hd ⟨u, rfl, hB, rfl⟩
theorem Dy (hr : fn.results = #[.cell s T]) (hL : Oj P T n) (ht : a.tmps.getD s undef = .pointer (some ⟨b, 0, none⟩)) (hO : Own w0 bs w) (hm : (b, TB, ls) ∈ bs) (hn : oq ls = n) (hd : a.defers = []) : bodyPost P fn (ic (ax ls) w0) .ret a w := by
 obtain ⟨cs, h1, h2⟩ := (hO.box b TB ls hm).2.ayj hL hn
 refine bodyPost_ret (v := .agg cs.toArray) ?_ hd ⟨_, rfl, hO.bel, cs, rfl, h2⟩
 rw [Array.getD_eq_getD_getElem?] at ht
 simp only [results, hr]
 clear hO hL
 generalize loadVar = ldv at *
 simp [ht, go_sem, h1]
theorem Im (hr : fn.results = #[.cell s T, .tmp t]) (hL : Oj P T n) (ht : a.tmps.getD s undef = .pointer (some ⟨b, 0, none⟩)) (hu : a.tmps.getD t undef = u) (hO : Own w0 bs w) (hm : (b, TB, ls) ∈ bs) (hn : oq ls = n) (hd : a.defers = []) : bodyPost P fn (ic (jw [ax ls, Rg.au u]) w0) .ret a w := by
 obtain ⟨cs, h1, h2⟩ := (hO.box b TB ls hm).2.ayj hL hn
 refine bodyPost_ret (v := .tuple [.agg cs.toArray, u].toArray) ?_ hd ⟨_, rfl, hO.bel, _, rfl, ⟨_, _, rfl, ⟨cs, rfl, h2⟩, _, _, rfl, rfl, rfl⟩⟩
 rw [Array.getD_eq_getD_getElem?] at ht hu
 simp only [results, hr]
 clear hO hL
 generalize loadVar = ldv at *
 simp [ht, hu, go_sem, h1]
theorem Uh {P : Program} {fn : Func} {a : Act} {w w0 : World} {t t2 : Nat} {u u2 : Value} (hr : fn.results = #[.tmp t, .tmp t2]) (ht : a.tmps.getD t undef = u) (ht2 : a.tmps.getD t2 undef = u2) (hB : Below w0.heap.size w0 w) (hd : a.defers = []) : bodyPost P fn (ic (jw [Rg.au u, Rg.au u2]) w0) .ret a w :=
 bodyPost_ret (v := .tuple #[u, u2]) (by rw [results_tmp2 hr, ht, ht2]) hd ⟨_, rfl, hB, [u, u2], rfl, _, _, rfl, rfl, _, _, rfl, rfl, rfl⟩
end
theorem apw {P : Program} {F : Nat} (hF : ∀ (vs : Array Value) (w : World), (callFunc F vs).run P w = .ok (.enter F vs) w) {a : Act} {w : World} {d : Option Tmp} {x : Operand} {xs : Array Operand} {ats : Array TypeId} {ty : TypeId} {pos : String} {af : Array Edge} {gd : Option (Nat × Bool)} (hx : a.eval x = .func (.func F) #[] #[]) :
  (execOp a.eval { dst := d, op := .call { callee := .value x, args := xs, argTypes := ats }, type := ty, pos := pos, after := af, guard := gd }).run P w = .ok (.enter F (xs.map a.eval)) w := by
 have h := hF (#[] ++ xs.map a.eval ++ #[]) w
 rw [Array.empty_append, Array.append_empty] at h
 rw [← h]
 simp only [execOp, resolve, hx, Deferred.ofValue, invoke]
 simp only [pure_bind, Array.empty_append, Array.append_empty]
theorem pq (w : World) : dz w w := Below.refl _ _
abbrev iv (n : Int) : jf := .v (.int .i64 n)
abbrev zR : List jf := [iv 0, iv 0]
abbrev zZ : List jf := [iv 0, .v (.bool false), .v (.slice none 0 0)]
abbrev zQ : List jf := [iv 0, .v (.bool false), .v (.slice none 0 0), iv 0, .v (.bool false), .v (.slice none 0 0)]
abbrev zX : List jf := [.v (.slice none 0 0), .v (.bool false), .v (.slice none 0 0), .v (.bool false)]
section
variable {α : Type} {a b c d e f g h : α} {l : List α}
theorem me0 : a ∈ a :: l := List.Mem.head _
theorem wz : b ∈ a :: b :: l := List.Mem.tail _ me0
theorem Ib : c ∈ a :: b :: c :: l := List.Mem.tail _ wz
theorem Tn : d ∈ a :: b :: c :: d :: l := List.Mem.tail _ Ib
theorem me4 : e ∈ a :: b :: c :: d :: e :: l := List.Mem.tail _ Tn
theorem me5 : f ∈ a :: b :: c :: d :: e :: f :: l := List.Mem.tail _ me4
theorem me6 : g ∈ a :: b :: c :: d :: e :: f :: g :: l := List.Mem.tail _ me5
end
theorem ah {P : Program} {Q : Exit → Act → World → Prop} {l : List Oper} {n : Nat} {T : Nat → World → Value → Prop} {G : World → Prop} {E : World → World → Prop} {al : List Nat} {a0 : Act} {k : Nat} {o : Oper} {r : List Oper} (h : Rg.Step P Q l n T G E al a0 k o) (hr : Rg.Steps P Q l n T G E al a0 (k + 1) r) (hg : o.guard = none := by rfl) : Rg.Steps P Q l n T G E al a0 k (o :: r) := Rg.dm (Rg.plain hg h) hr
theorem jc {P : Program} {Q : Exit → Act → World → Prop} {l : List Oper} {n : Nat} {T : Nat → World → Value → Prop} {w V : World} {bs : List wh} {al : List Nat} {a0 : Act} {k d b off m : Nat} {x : Operand} {TB TL : TypeId} {ls : List jf} {ty : TypeId} {pos : String} {af : Array Edge} {gd : Option (Nat × Bool)}
  (hL : Dk P TL m) (hm : (b, TB, ls) ∈ bs) (hx : Rg.ib l n T a0 k x (Rg.au (.pointer (some ⟨b, off, none⟩)))) (pre mid post : List jf) (he : ls = pre ++ (mid ++ post) := by rfl) (ho : oq pre = off := by rfl) (hz : oq mid = m := by rfl) (hal : al.contains k = false := by rfl) (hT : T k = ax mid := by rfl) :
  Rg.Step P Q l n T (az w bs V) dz al a0 k { dst := some d, op := .load TL x, type := ty, pos := pos, after := af, guard := gd } := apn hL hal hx (fun W h => he ▸ az.box hm h) ho hz hT
theorem oo {P : Program} {ops : Array Oper} {Q : Exit → Act → World → Prop} {rest : List Oper} {a : Act} {w0 w : World} {TL TB : TypeId} {p x : Operand} {m b off : Nat} {bs : List wh} {ty : TypeId} {pos : String} {af : Array Edge} (hO : Own w0 bs w) (i : Nat) (pre old new post : List jf)
  (hi : bs[i]? = some (b, TB, pre ++ (old ++ post))) (hS : zh P TL m) (hp : a.eval p = .pointer (some ⟨b, off, none⟩)) (hv : ax new w (a.eval x)) (hm : oq new = m) (hl : oq new = oq old) (ho : off = oq pre)
  (hk : ∀ w', Own w0 (bs.set i (b, TB, pre ++ (new ++ post))) w' → (∀ ks u, ax ks w u → ax ks w' u) → wpList P ops Q rest a w') :
  wpList P ops Q ({ dst := none, op := .store TL p x, type := ty, pos := pos, after := af, guard := none } :: rest) a w := by
 obtain ⟨hlt, he⟩ := List.getElem?_eq_some_iff.1 hi
 have hbs : bs = bs.take i ++ (b, TB, pre ++ (old ++ post)) :: bs.drop (i + 1) := by
  rw [← he, ← List.drop_eq_getElem_cons hlt, List.take_append_drop]
 have hset : bs.set i (b, TB, pre ++ (new ++ post)) = bs.take i ++ (b, TB, pre ++ (new ++ post)) :: bs.drop (i + 1) := List.set_eq_take_append_cons_drop .. |>.trans (if_pos hlt)
 rw [hset] at hk
 rw [hbs] at hO
 exact atq hS hp hv hO hm hl ho hk
theorem ta0 {α : Type} {n : Nat} {a : α} {l : List α} : (a :: l).take (n + 1) = a :: l.take n := List.take_succ_cons
theorem ta1 {α : Type} {l : List α} : l.take 0 = [] := List.take_zero
theorem ta2 {α : Type} {n : Nat} {a : α} {l : List α} : (a :: l).drop (n + 1) = l.drop n := List.drop_succ_cons
theorem ta3 {α : Type} {l : List α} : l.drop 0 = l := List.drop_zero
theorem ta4 {α : Type} {l : List α} {n : Nat} {a : α} : l.toArray.setIfInBounds n a = (l.set n a).toArray := List.setIfInBounds_toArray ..
theorem ta5 {α : Type} {x a : α} {l : List α} : (x :: l).set 0 a = a :: l := List.set_cons_zero ..
theorem ta6 {α : Type} {x a : α} {l : List α} {n : Nat} : (x :: l).set (n + 1) a = x :: l.set n a := List.set_cons_succ ..
theorem bbt : Oj Tryz.prog 77 3 := by
 intro w b off us hl hc
 match us, hl with
 | [u0, u1, u2], _ =>
 have k0 : w.cell? ⟨b, off, none⟩ = some u0 := hc 0 om
 have k1 : w.cell? ⟨b, off + 1, none⟩ = some u1 := hc 1 om
 have k2 : w.cell? ⟨b, off + 2, none⟩ = some u2 := hc 2 om
 clear hc
 simp [go_sem, k0, k1, k2]
theorem Lu : Oj Tryz.prog 79 6 := by
 intro w b off us hl hc
 match us, hl with
 | [u0, u1, u2, u3, u4, u5], _ =>
 have k0 : w.cell? ⟨b, off, none⟩ = some u0 := hc 0 om
 have k1 : w.cell? ⟨b, off + 1, none⟩ = some u1 := hc 1 om
 have k2 : w.cell? ⟨b, off + 2, none⟩ = some u2 := hc 2 om
 have k3 : w.cell? ⟨b, off + 3, none⟩ = some u3 := hc 3 om
 have k4 : w.cell? ⟨b, off + 4, none⟩ = some u4 := hc 4 om
 have k5 : w.cell? ⟨b, off + 5, none⟩ = some u5 := hc 5 om
 clear hc
 simp [go_sem, k0, k1, k2, k3, k4, k5]
theorem Gd {n m : Nat} (h1 : n < m) (h2 : m ≤ 1000000) : wrap64 ((n : Int) + 1) = ((n + 1 : Nat) : Int) := (IntWalk.wrap64_in _ om).trans om
theorem Ql {n m : Nat} (h1 : n < m) (h2 : m ≤ 1000000) : Value.int .i64 (wrap64 ((n : Int) + 1)) = Value.int .i64 ((n + 1 : Nat) : Int) := by rw [Gd h1 h2]
theorem measS {n m : Nat} (h1 : n < m) : m - (intOf (Value.int .i64 ((n + 1 : Nat) : Int))).toNat < m - (intOf (Value.int .i64 (n : Int))).toNat := by
 simp only [intOf]; omega
theorem auh {ρ : Operand → Value} {w : World} {d : Option Tmp} {x y : Operand} {o z : Int} {ty : TypeId} {pos : String} {af : Array Edge} {gd : Option (Nat × Bool)} (h : ρ x = .int .i64 o) (h' : ρ y = .int .i64 z) :
  (execOp ρ { dst := d, op := .binOp .eql 24 x y 24, type := ty, pos := pos, after := af, guard := gd }).run Tryz.prog w = .ok (.value (.bool (o == z))) w := by
 simp only [execOp, h, h']
 simp [go_sem, Tryz.underlying24]
theorem Td {Q : Exit → Act → World → Prop} {l : List Oper} {n : Nat} {T : Nat → World → Value → Prop} {G : World → Prop} {al : List Nat} {a0 : Act} {k d : Nat} {ty : TypeId} {pos : String} {af : Array Edge} {gd : Option (Nat × Bool)} {x y : Operand} {o z : Int} {b : Bool}
  (hal : al.contains k = false) (hx : Rg.ib l n T a0 k x (Rg.au (.int .i64 o))) (hy : Rg.ib l n T a0 k y (Rg.au (.int .i64 z))) (hT : T k = Rg.au (.bool b)) (hb : (o == z) = b) : Rg.Step Tryz.prog Q l n T G dz al a0 k { dst := some d, op := .binOp .eql 24 x y 24, type := ty, pos := pos, after := af, guard := gd } := by
 intro a w hG hO hN
 exact iq (P := Tryz.prog) (auh (hx a w hO hN) (hy a w hO hN)) ⟨_, rfl, hG, Below.refl _ _, by rw [hT, hb]; rfl, fun h => by rw [hal] at h; cases h⟩
theorem aub {ρ : Operand → Value} {w : World} {d : Option Tmp} {x y : Operand} {o z : Int} {ty : TypeId} {pos : String} {af : Array Edge} {gd : Option (Nat × Bool)} (h : ρ x = .int .i64 o) (h' : ρ y = .int .i64 z) :
  (execOp ρ { dst := d, op := .binOp .neq 24 x y 24, type := ty, pos := pos, after := af, guard := gd }).run Tryz.prog w = .ok (.value (.bool (o != z))) w := by
 simp only [execOp, h, h']
 simp [go_sem, Tryz.underlying24]
theorem Ba {Q : Exit → Act → World → Prop} {l : List Oper} {n : Nat} {T : Nat → World → Value → Prop} {G : World → Prop} {al : List Nat} {a0 : Act} {k d : Nat} {ty : TypeId} {pos : String} {af : Array Edge} {gd : Option (Nat × Bool)} {x y : Operand} {o z : Int} {b : Bool}
  (hal : al.contains k = false) (hx : Rg.ib l n T a0 k x (Rg.au (.int .i64 o))) (hy : Rg.ib l n T a0 k y (Rg.au (.int .i64 z))) (hT : T k = Rg.au (.bool b)) (hb : (o != z) = b) : Rg.Step Tryz.prog Q l n T G dz al a0 k { dst := some d, op := .binOp .neq 24 x y 24, type := ty, pos := pos, after := af, guard := gd } := by
 intro a w hG hO hN
 exact iq (P := Tryz.prog) (aub (hx a w hO hN) (hy a w hO hN)) ⟨_, rfl, hG, Below.refl _ _, by rw [hT, hb]; rfl, fun h => by rw [hal] at h; cases h⟩
end Sb


namespace Sb
end Sb
namespace Sb
def ES (e1 e2 : wh) (w w' : World) : Prop := dz w w' ∨ ∃ (e : wh) (us cs : List Value), (e = e1 ∨ e = e2) ∧ fu w e.2.2 us ∧ w.heap[e.1]? = some (.cells cs.toArray e.2.1 (0, 0)) ∧ Db cs ∧ us.length = cs.length ∧ w' = setM w e.1 0 us
theorem ES.refl (e1 e2 : wh) (w : World) : ES e1 e2 w w := .inl (Below.refl _ _)
theorem Ht {W : World} {b : Nat} {T : TypeId} {us cs : List Value} (h : W.heap[b]? = some (.cells cs.toArray T (0, 0))) (hl : us.length = cs.length) : (setM W b 0 us).heap[b]? = some (.cells us.toArray T (0, 0)) := by
 have := Qs (T := T) us cs [] [] W hl (by simpa using h)
 simpa using this
structure GS (w : World) (bs : List wh) (e1 e2 : wh) (W : World) : Prop where
 bel : Below w.heap.size w W
 box : ∀ b T ls, (b, T, ls) ∈ bs → w.heap.size ≤ b ∧ (si W b T ls ∨ ∃ e : wh, (e = e1 ∨ e = e2) ∧ e.1 = b ∧ si W b T e.2.2)
theorem GS.step {w : World} {bs : List wh} {e1 e2 : wh} : ∀ W W', GS w bs e1 e2 W → dz W W' → GS w bs e1 e2 W' := fun W W' h hb => ⟨ay h.bel hb, fun b T ls hm => by
 obtain ⟨h1, h2⟩ := h.box b T ls hm
 refine ⟨h1, ?_⟩
 rcases h2 with h2 | ⟨e, h3, h4, h5⟩
 ·
  exact .inl (h2.below hb)
 ·
  exact .inr ⟨e, h3, h4, h5.below hb⟩⟩
theorem GS.start {w V : World} {bs : List wh} {e1 e2 : wh} (h : Own w bs V) : GS w bs e1 e2 V.drew := ⟨(Own.step _ _ h (dz.drew V)).bel, fun b T ls hm => ⟨(h.box b T ls hm).1, .inl ((h.box b T ls hm).2.below (dz.drew V))⟩⟩
theorem GS.get {w W : World} {bs : List wh} {e1 e2 : wh} {b : Nat} {T : TypeId} {ls : List jf} (hm : (b, T, ls) ∈ bs) (h1 : e1.1 = b → e1.2.2 = ls) (h2 : e2.1 = b → e2.2.2 = ls) (h : GS w bs e1 e2 W) : si W b T ls := by
 rcases (h.box b T ls hm).2 with g | ⟨e, rfl | rfl, g1, g2⟩
 ·
  exact g
 ·
  rwa [h1 g1] at g2
 ·
  rwa [h2 g1] at g2
end Sb

end Go.Proofs.YtfgeaakhlcaibaaGreatDoor
namespace Go.Proofs.YtfgeaakhlcaibaaGreatDoor
namespace Rg

def slB (l : List Oper) (n : Nat) (sl : Nat → Tmp) : Bool := (List.range n).all fun k => (ja l k).isSome || (List.range n).any fun j => waits l k j (sl k)
def aai (P : Program) (Q : Exit → Act → World → Prop) (l : List Oper) (n : Nat) (sl : Nat → Tmp) (T : Nat → World → Value → Prop) (G : World → Prop) (E : World → World → Prop) (a0 : Act) (k : Nat) (o : Oper) : Prop :=
 o.guard = none ∧ ∀ (a : Act) (w : World), G w → (∀ t, Ez l n t = true → a.tmps.getD t undef = a0.tmps.getD t undef) → (∀ j d, waits l k j d = true → T j w (a.tmps.getD d undef)) →
  o.wp P a w (fun a' w' => ∃ v, a' = a.put o.dst v ∧ G w' ∧ E w w' ∧ T k w' v ∧ (o.dst = none → v = a.tmps.getD (sl k) undef)) Q
def Kt (P : Program) (Q : Exit → Act → World → Prop) (l : List Oper) (n : Nat) (sl : Nat → Tmp) (T : Nat → World → Value → Prop) (G : World → Prop) (E : World → World → Prop) (a0 : Act) : Nat → List Oper → Prop
 | _, [] => True
 | k, o :: r => aai P Q l n sl T G E a0 k o ∧ Kt P Q l n sl T G E a0 (k + 1) r
section
variable {P : Program} {Q : Exit → Act → World → Prop} {l : List Oper} {n sz : Nat} {sl : Nat → Tmp} {T : Nat → World → Value → Prop} {G : World → Prop} {E : World → World → Prop} {a0 : Act}
theorem wy {k : Nat} {o : Oper} {r : List Oper} (h : aai P Q l n sl T G E a0 k o) (hr : Kt P Q l n sl T G E a0 (k + 1) r) : Kt P Q l n sl T G E a0 k (o :: r) := ⟨h, hr⟩
theorem alx {k : Nat} : Kt P Q l n sl T G E a0 k [] := trivial
theorem Ca {k : Nat} {o : Oper} (hg : o.guard = none) (hd : o.dst.isSome = true) (h : Step P Q l n T G E [] a0 k o) : aai P Q l n sl T G E a0 k o :=
 ⟨hg, fun a w hG hO hN => Oper.wp_mono (fun a' w' hK => by
  obtain ⟨v, h1, h2, h3, h4, _⟩ := hK
  exact ⟨v, h1, h2, h3, h4, fun e => by rw [e] at hd; cases hd⟩) (h a w hG hO hN)⟩
theorem Kt.get : ∀ {r : List Oper} {k : Nat}, Kt P Q l n sl T G E a0 k r → ∀ {i : Nat} {o : Oper}, r[i]? = some o → aai P Q l n sl T G E a0 (k + i) o
 | [], _, _, i, o, h => by simp at h
 | o' :: r, k, hs, 0, o, h => by
  have : o' = o := by simpa using h
  subst this; exact hs.1
 | o' :: r, k, hs, i + 1, o, h => by
  have := Kt.get hs.2 (i := i) (o := o) (by simpa using h)
  rwa [show k + 1 + i = k + (i + 1) by omega] at this
structure TG (l : List Oper) (n : Nat) (sl : Nat → Tmp) (T : Nat → World → Value → Prop) (G : World → Prop) (a0 : Act) (S : Nat → Prop) (a : Act) (w : World) : Prop where
 defers : a.defers = a0.defers
 size : a.tmps.size = a0.tmps.size
 old : ∀ t, Ez l n t = true → a.tmps.getD t undef = a0.tmps.getD t undef
 new : ∀ k d, k < n → S k → ja l k = some d → T k w (a.tmps.getD d undef)
 nod : ∀ k, k < n → S k → ja l k = none → T k w (a.tmps.getD (sl k) undef)
 cl : ∀ k j d, k < n → S k → waits l k j d = true → S j
 good : G w
theorem TG.finish {a : Act} {w : World} (hsz : a0.tmps.size = sz) (hds : ∀ i j d, i < n → j < n → ja l i = some d → ja l j = some d → d < sz ∧ j = i)
  {S : Nat → Prop} (hall : ∀ k, k < n → S k) (inv : TG l n sl T G a0 S a w) : ∃ v : Nat → Value, a = puts v 0 (l.take n) a0 ∧ (∀ k, k < n → T k w (v k)) ∧ ∀ k j, k < n → j < n → ja l k = none → ja l j = some (sl k) → v k = v j := by
 have hv : ∃ v : Nat → Value, (∀ k d, ja l k = some d → v k = a.tmps.getD d undef) ∧ ∀ k, ja l k = none → v k = a.tmps.getD (sl k) undef :=
  ⟨fun k => match ja l k with | some d => a.tmps.getD d undef | none => a.tmps.getD (sl k) undef, fun k d h => by simp only [h], fun k h => by simp only [h]⟩
 obtain ⟨v, hv1, hv2⟩ := hv
 refine ⟨v, ?_, fun k hk => ?_, fun k j hk hj h1 h2 => by rw [hv2 k h1, hv1 j _ h2]⟩
 rotate_left
 ·
  cases hd : ja l k with
  | none => rw [hv2 k hd]; exact inv.nod k hk (hall k hk) hd
  | some d => rw [hv1 k d hd]; exact inv.new k d hk (hall k hk) hd
 refine abv (by rw [inv.defers, Ju]) (by rw [inv.size, Np]) (fun t => ?_)
 by_cases ht : ∃ k, k < n ∧ ja l k = some t
 ·
  obtain ⟨k, hk, hkt⟩ := ht
  have hdt : ∀ j, ja (l.take n) j = some t → j = k := fun j hj => (hds k j t hk (Cz hj).1 hkt (Cz hj).2).2
  rw [Qy v t (l.take n) 0 k a0 (by unfold ja at hkt ⊢; rwa [List.getElem?_take_of_lt hk]) hdt (by rw [hsz]; exact (hds k k t hk hk hkt hkt).1), Nat.zero_add]
  exact (hv1 k t hkt).symm
 ·
  have hf : Ez l n t = true := List.all_eq_true.2 (fun o ho => by
   obtain ⟨k, hk⟩ := List.getElem?_of_mem ho
   have hkn : k < n := by
    rcases Nat.lt_or_ge k n with h | h
    ·
     exact h
    ·
     rw [List.getElem?_eq_none (by simp; omega)] at hk; cases hk
   rw [List.getElem?_take_of_lt hkn] at hk
   simp only [bne_iff_ne]
   intro h
   exact ht ⟨k, hkn, by unfold ja; rw [hk]; exact h⟩)
  rw [inv.old t hf, Me v t (l.take n) 0 a0 (fun j hj => ht ⟨j, Cz hj⟩)]
theorem TG.step {a : Act} {w w2 : World} {S : Nat → Prop} {i : Nat} {o : Oper} {v : Value} (hsz : a0.tmps.size = sz) (hds : ∀ i j d, i < n → j < n → ja l i = some d → ja l j = some d → d < sz ∧ j = i)
  (hsl : ∀ k, k < n → ja l k = none → ∃ j, j < n ∧ waits l k j (sl k) = true) (hT : ∀ k w w' v, E w w' → T k w v → T k w' v) (inv : TG l n sl T G a0 S a w) (hin : i < n) (ho : l[i]? = some o) (Ko : ¬ S i) (hwt : ∀ j d, waits l i j d = true → S j) (hG : G w2) (hE : E w w2) (Fw : T i w2 v) (hno : o.dst = none → v = a.tmps.getD (sl i) undef) :
  TG l n sl T G a0 (fun k => k = i ∨ S k) (a.put o.dst v) w2 := by
 have hdi : ja l i = o.dst := by unfold ja; rw [ho]; rfl
 refine ⟨by rw [put_defers]; exact inv.defers, by rw [Qz]; exact inv.size, fun t ht => ?_, fun k d hk hl hd => ?_, fun k hk hl hd => ?_, fun k j d hk hl hw => ?_, hG⟩
 ·
  rw [Ex _ _ _ _ (ahj ht hin ho)]; exact inv.old t ht
 ·
  by_cases hki : k = i
  ·
   subst hki
   rw [hdi] at hd
   rw [hd, Pj _ _ _ (by rw [inv.size, hsz]; exact (hds k k d hk hk (by rw [hdi]; exact hd) (by rw [hdi]; exact hd)).1)]
   exact Fw
  ·
   rw [Ex _ _ _ _ (fun h => hki ((hds i k d hin hk (by rw [hdi]; exact h) hd).2))]
   exact hT k w w2 _ hE (inv.new k d hk (hl.resolve_left hki) hd)
 ·
  by_cases hki : k = i
  ·
   subst hki
   have hon : o.dst = none := by rw [← hdi]; exact hd
   rw [hon, show (a.put none v) = a from rfl, ← hno hon]
   exact Fw
  ·
   have hSk := hl.resolve_left hki
   obtain ⟨j, hj, hw⟩ := hsl k hk hd
   have hSj := inv.cl k j _ hk hSk hw
   have hji : j ≠ i := fun e => Ko (e ▸ hSj)
   rw [Ex _ _ _ _ (fun h => hji ((hds i j _ hin hj (by rw [hdi]; exact h) (Cu hw)).2))]
   exact hT k w w2 _ hE (inv.nod k hk hSk hd)
 ·
  by_cases hki : k = i
  ·
   subst hki; exact .inr (hwt j d hw)
  ·
   exact .inr (inv.cl k j d hk (hl.resolve_left hki) hw)
theorem TG.mono {a : Act} {w : World} {S S' : Nat → Prop} (inv : TG l n sl T G a0 S a w) (h : ∀ k, k < n → (S' k ↔ S k)) (hb : ∀ k j d, k < n → waits l k j d = true → j < n) : TG l n sl T G a0 S' a w :=
 ⟨inv.defers, inv.size, inv.old, fun k d hk hs hd => inv.new k d hk ((h k hk).1 hs) hd, fun k hk hs hd => inv.nod k hk ((h k hk).1 hs) hd, fun k j d hk hs hw => (h j (hb k j d hk hw)).2 (inv.cl k j d hk ((h k hk).1 hs) hw), inv.good⟩
end
theorem bbi {P : Program} {id : Nat} {Q : Exit → Act → World → Prop} {a : Act} {w : World} {l : List Oper} (n sz : Nat) (sl : Nat → Tmp) (T : Nat → World → Value → Prop) (G : World → Prop) (E : World → World → Prop)
  (hm : P.follows .mixedOrders = true) (hB : okB l n sz = true) (hS1 : slB l n sl = true) (hsz : a.tmps.size = sz)
  (hT : ∀ k w w' v, E w w' → T k w v → T k w' v) (hG : G w.drew)
  (hS : Kt P Q l n sl T G E a 0 (l.take n))
  (hend : ∀ (v : Nat → Value) (w' : World), G w' → (∀ k, k < n → T k w' (v k)) → (∀ k j, k < n → j < n → ja l k = none → ja l j = some (sl k) → v k = v j) → wpList P l.toArray Q (l.drop n) (puts v 0 (l.take n) a) w') :
  (Code.region id l.toArray true).wp P Q a w := by
 simp only [okB, Bool.and_eq_true, Bool.or_eq_true, decide_eq_true_eq] at hB
 obtain ⟨⟨⟨⟨hn, Zv⟩, hback⟩, Lh⟩, hseq⟩ := hB
 have hget : ∀ k, k < n → ∃ o, l[k]? = some o := fun k hk => ⟨l[k]'(by omega), List.getElem?_eq_getElem om⟩
 have hbk := Lp hback
 have hds := Ll Lh
 have hsl : ∀ k, k < n → ja l k = none → ∃ j, j < n ∧ waits l k j (sl k) = true := fun k hk hd => by
  have h1 := List.all_eq_true.1 hS1 k (List.mem_range.2 hk)
  simp only [hd, Option.isSome_none, Bool.false_or, List.any_eq_true, List.mem_range] at h1
  exact h1
 have hwb : ∀ k j d, k < n → waits l k j d = true → j < n := fun k j d hk hw => by
  simp only [waits, Bool.and_eq_true, beq_iff_eq] at hw
  obtain ⟨oj, hoj, e, he, hb, hon⟩ := Region.waitsFor_spec hw.1
  have := hbk k oj hk (by simpa using hoj) e he hb
  omega
 refine wp_region_any hm ?_
 have key : ∀ (f : Nat) (L : Array Bool) (a' : Act) (w' : World), HeadInv .any l.toArray n L → TG l n sl T G a (fun k => L.getD k false = true) a' w' → cnt L n = f → wpAny P .any l.toArray Q (f + (l.length - n)) L a' w' := by
  intro f
  induction f with
  | zero =>
   intro L a' w' head inv hc
   have hall := Mv hc
   have hL : L = full n (l.length - n) := by
    have hs := head.size
    refine Array.ext (by simp [full, hs]; omega) (fun i h1 h2 => ?_)
    by_cases hi : i < n
    ·
     have g := hall i hi
     simp [h1] at g
     simp [full, hi, g]
    ·
     have g := head.tail i om (by rw [← hs]; exact h1)
     simp [h1] at g
     simp [full, Array.getElem_append, hi, g]
   obtain ⟨v, he, hv, Em⟩ := inv.finish hsz hds (fun k hk => by rw [hL]; simp [full, Array.getElem?_append, hk])
   rw [he, Nat.zero_add]
   have hlen : (l.drop n).length = l.length - n := by simp
   rw [← hlen]
   exact wpAny_of_seq (md := .any) (ops := l.toArray) (Q' := Q) (l.drop n) n L _ w' (fun j => by simp [List.getElem?_drop]) (by rw [hlen, hL]; exact hseq)
    (hend v w' inv.good hv Em)
  | succ f ih =>
   intro L a' w' head inv hc
   obtain ⟨i0, hi0, Tw, hle0⟩ := Vi (L := L) (m := n) om
   have Wo : L.size = l.length := by rw [head.size]; simp
   rw [show f + 1 + (l.length - n) = (f + (l.length - n)) + 1 by omega]
   refine ⟨fun hr => ?_, fun i hi => ?_⟩
   ·
    exfalso
    obtain ⟨o, ho⟩ := hget i0 hi0
    have : i0 ∈ Region.ready .any l.toArray L := mem_ready.2 ⟨Tw, o, by simpa using ho, fun e he hb => by
     have hlt := hbk i0 o hi0 ho e he hb
     have h1 := hle0 e.on hlt
     simp [show e.on < L.size by rw [Wo]; omega] at h1
     simp [show e.on < L.size by rw [Wo]; omega, h1]⟩
    rw [hr] at this; cases this
   ·
    obtain ⟨hun, o, ho, Zt⟩ := mem_ready.1 hi
    have ho' : l[i]? = some o := by simpa using ho
    have hil : i < l.length := by
     have := (Array.getElem?_eq_some_iff.1 ho).1
     simpa using this
    have hin : i < n := by
     rcases Nat.lt_or_ge i n with h | h
     ·
      exact h
     ·
      exfalso
      rcases Zv with he | ⟨hs, hch⟩
      ·
       omega
      ·
       exact tail_waits hs hch (by simp only [List.size_toArray]; omega) head _ i0 rfl hi0 Tw i h hi
    have hst := hS.get (i := i) (o := o) (by rw [List.getElem?_take_of_lt hin]; exact ho')
    rw [Nat.zero_add] at hst
    have hdone : ∀ j d, waits l i j d = true → L.getD j false = true := fun j d hjd => by
     simp only [waits, Bool.and_eq_true, beq_iff_eq] at hjd
     obtain ⟨oj, hoj, e, he, hb, hon⟩ := Region.waitsFor_spec hjd.1
     have : oj = o := Option.some.inj (hoj.symm.trans ho)
     subst this
     have hlj := Zt e he hb
     rwa [hon] at hlj
    have hw := hst.2 a' w' inv.good inv.old (fun j d hjd => inv.new j d (hwb i j d hin hjd) (hdone j d hjd) (Cu hjd))
    have Ko : ¬ L.getD i false = true := fun h => by rw [getD_both hun] at h; cases h
    have go : ∀ v w2, G w2 → E w' w2 → T i w2 v → (o.dst = none → v = a'.tmps.getD (sl i) undef) → wpAny P .any l.toArray Q (f + (l.length - n)) (L.setIfInBounds i true) (a'.put o.dst v) w2 := by
     intro v w2 hg2 hE Fw hno
     refine ih (L.setIfInBounds i true) _ w2 (head.set hi hin) ((inv.step hsz hds hsl hT hin ho' Ko hdone hg2 hE Fw hno).mono (fun k hk => ?_) hwb) (by have := Vg hun (m := n) hin; omega)
     by_cases hki : k = i
     ·
      subst hki
      exact ⟨fun _ => .inl rfl, fun _ => by simp [show k < L.size by rw [Wo]; omega]⟩
     ·
      rw [getD_set_ne false (Ne.symm hki)]
      exact ⟨fun h => .inr h, fun h => h.resolve_left hki⟩
    unfold wpOp
    simp only [ho]
    split
    ·
     refine .inl (Oper.wp_mono (fun a2 w2 hK => ?_) hw)
     obtain ⟨v, rfl, hg2, hE, Fw, hno⟩ := hK
     exact go v w2 hg2 hE Fw hno
    ·
     rename_i hwd
     exact absurd (by simp [Region.wanted, hst.1]) hwd
 have h0 := key n (Array.replicate l.length false) a w.drew
  ⟨by simp, fun j oj _ hl => (by rw [getD_replicate_false] at hl; cases hl), fun t _ ht => getD_in (by simpa using ht) (getD_replicate_false _ _)⟩
  ⟨rfl, rfl, fun _ _ => rfl, fun k d _ hs _ => (by rw [getD_replicate_false] at hs; cases hs), fun k _ hs _ => (by rw [getD_replicate_false] at hs; cases hs), fun k j d _ hs _ => (by rw [getD_replicate_false] at hs; cases hs), hG⟩ (Vh _ hn)
 rw [show n + (l.length - n) = l.length by omega] at h0
 have hsz2 : l.toArray.size = l.length := by simp
 rw [hsz2]
 exact h0
end Rg
namespace Rg

def uv (l : List Oper) (sl : Nat → Tmp) (a : Act) (k : Nat) : Value := match ja l k with | some d => a.tmps.getD d undef | none => a.tmps.getD (sl k) undef
theorem Uw {l : List Oper} {sl : Nat → Tmp} {a : Act} {k : Nat} {d : Tmp} (h : ja l k = some d) : uv l sl a k = a.tmps.getD d undef := by unfold uv; rw [h]
def Oh (P : Program) (Q : Exit → Act → World → Prop) (l : List Oper) (n : Nat) (sl : Nat → Tmp) (T : Nat → World → Value → Prop) (G : World → Prop) (E : World → World → Prop) (J : (Nat → Prop) → (Nat → Value) → World → Prop) (a0 : Act) (k : Nat) (o : Oper) : Prop :=
 o.guard = none ∧ ∀ (a : Act) (w : World), G w → (∀ t, Ez l n t = true → a.tmps.getD t undef = a0.tmps.getD t undef) → (∀ j d, waits l k j d = true → T j w (a.tmps.getD d undef)) → (∃ S u, J S u w ∧ ¬ S k ∧ ∀ j d, waits l k j d = true → S j ∧ u j = a.tmps.getD d undef) →
  o.wp P a w (fun a' w' => ∃ v, a' = a.put o.dst v ∧ G w' ∧ E w w' ∧ T k w' v ∧ (o.dst = none → v = a.tmps.getD (sl k) undef) ∧
   (∀ S u u', J S u w → (∀ j, j < n → S j → u' j = u j) → (o.dst ≠ none → u' k = v) → ¬ S k → (∀ j d, waits l k j d = true → S j ∧ u j = a.tmps.getD d undef) → J (fun j => j = k ∨ S j) u' w')) Q
def Kr (P : Program) (Q : Exit → Act → World → Prop) (l : List Oper) (n : Nat) (sl : Nat → Tmp) (T : Nat → World → Value → Prop) (G : World → Prop) (E : World → World → Prop) (J : (Nat → Prop) → (Nat → Value) → World → Prop) (a0 : Act) : Nat → List Oper → Prop
 | _, [] => True
 | k, o :: r => Oh P Q l n sl T G E J a0 k o ∧ Kr P Q l n sl T G E J a0 (k + 1) r
section
variable {P : Program} {Q : Exit → Act → World → Prop} {l : List Oper} {n sz : Nat} {sl : Nat → Tmp} {T : Nat → World → Value → Prop} {G : World → Prop} {E : World → World → Prop} {J : (Nat → Prop) → (Nat → Value) → World → Prop} {a0 : Act}
theorem jl {k : Nat} {o : Oper} {r : List Oper} (h : Oh P Q l n sl T G E J a0 k o) (hr : Kr P Q l n sl T G E J a0 (k + 1) r) : Kr P Q l n sl T G E J a0 k (o :: r) := ⟨h, hr⟩
theorem Qp {k : Nat} : Kr P Q l n sl T G E J a0 k [] := trivial
theorem Kr.get : ∀ {r : List Oper} {k : Nat}, Kr P Q l n sl T G E J a0 k r → ∀ {i : Nat} {o : Oper}, r[i]? = some o → Oh P Q l n sl T G E J a0 (k + i) o
 | [], _, _, i, o, h => by simp at h
 | o' :: r, k, hs, 0, o, h => by
  have : o' = o := by simpa using h
  subst this; exact hs.1
 | o' :: r, k, hs, i + 1, o, h => by
  have := Kr.get hs.2 (i := i) (o := o) (by simpa using h)
  rwa [show k + 1 + i = k + (i + 1) by omega] at this
theorem bdi {a : Act} {i : Nat} {o : Oper} {v : Value} (hsz : a0.tmps.size = sz) (has : a.tmps.size = a0.tmps.size) (hds : ∀ i j d, i < n → j < n → ja l i = some d → ja l j = some d → d < sz ∧ j = i) (hin : i < n) (ho : l[i]? = some o) (hd : o.dst ≠ none) : uv l sl (a.put o.dst v) i = v := by
 have hdi : ja l i = o.dst := by unfold ja; rw [ho]; rfl
 obtain ⟨d, hd'⟩ := Option.ne_none_iff_exists'.1 hd
 rw [Uw (hdi.trans hd'), hd', Pj _ _ _ (by rw [has, hsz]; exact (hds i i d hin hin (hdi.trans hd') (hdi.trans hd')).1)]
theorem TG.bdh {a : Act} {w : World} {S : Nat → Prop} {i j : Nat} {o : Oper} {v : Value} (hds : ∀ i j d, i < n → j < n → ja l i = some d → ja l j = some d → d < sz ∧ j = i)
  (hsl : ∀ k, k < n → ja l k = none → ∃ j, j < n ∧ waits l k j (sl k) = true) (inv : TG l n sl T G a0 S a w) (hin : i < n) (ho : l[i]? = some o) (Ko : ¬ S i) (hj : j < n) (hSj : S j) : uv l sl (a.put o.dst v) j = uv l sl a j := by
 have hdi : ja l i = o.dst := by unfold ja; rw [ho]; rfl
 have hji : j ≠ i := fun e => Ko (e ▸ hSj)
 unfold uv
 cases hd : ja l j with
 | some d => exact Ex _ _ _ _ (fun h => hji ((hds i j d hin hj (by rw [hdi]; exact h) hd).2))
 | none =>
  obtain ⟨m, hm, hw⟩ := hsl j hj hd
  have hSm := inv.cl j m _ hj hSj hw
  have hmi : m ≠ i := fun e => Ko (e ▸ hSm)
  exact Ex _ _ _ _ (fun h => hmi ((hds i m _ hin hm (by rw [hdi]; exact h) (Cu hw)).2))
theorem TG.bbx {a : Act} {w : World} (hsz : a0.tmps.size = sz) (hds : ∀ i j d, i < n → j < n → ja l i = some d → ja l j = some d → d < sz ∧ j = i)
  {S : Nat → Prop} (hall : ∀ k, k < n → S k) (inv : TG l n sl T G a0 S a w) : ∃ v : Nat → Value, a = puts v 0 (l.take n) a0 ∧ (∀ k, k < n → T k w (v k)) ∧ (∀ k j, k < n → j < n → ja l k = none → ja l j = some (sl k) → v k = v j) ∧ v = uv l sl a := by
 have hv1 : ∀ k d, ja l k = some d → uv l sl a k = a.tmps.getD d undef := fun k d h => Uw h
 have hv2 : ∀ k, ja l k = none → uv l sl a k = a.tmps.getD (sl k) undef := fun k h => by unfold uv; rw [h]
 refine ⟨uv l sl a, ?_, fun k hk => ?_, fun k j hk hj h1 h2 => by rw [hv2 k h1, hv1 j _ h2], rfl⟩
 rotate_left
 ·
  cases hd : ja l k with
  | none => rw [hv2 k hd]; exact inv.nod k hk (hall k hk) hd
  | some d => rw [hv1 k d hd]; exact inv.new k d hk (hall k hk) hd
 refine abv (by rw [inv.defers, Ju]) (by rw [inv.size, Np]) (fun t => ?_)
 by_cases ht : ∃ k, k < n ∧ ja l k = some t
 ·
  obtain ⟨k, hk, hkt⟩ := ht
  have hdt : ∀ j, ja (l.take n) j = some t → j = k := fun j hj => (hds k j t hk (Cz hj).1 hkt (Cz hj).2).2
  rw [Qy (uv l sl a) t (l.take n) 0 k a0 (by unfold ja at hkt ⊢; rwa [List.getElem?_take_of_lt hk]) hdt (by rw [hsz]; exact (hds k k t hk hk hkt hkt).1), Nat.zero_add]
  exact (hv1 k t hkt).symm
 ·
  have hf : Ez l n t = true := List.all_eq_true.2 (fun o ho => by
   obtain ⟨k, hk⟩ := List.getElem?_of_mem ho
   have hkn : k < n := by
    rcases Nat.lt_or_ge k n with h | h
    ·
     exact h
    ·
     rw [List.getElem?_eq_none (by simp; omega)] at hk; cases hk
   rw [List.getElem?_take_of_lt hkn] at hk
   simp only [bne_iff_ne]
   intro h
   exact ht ⟨k, hkn, by unfold ja; rw [hk]; exact h⟩)
  rw [inv.old t hf, Me (uv l sl a) t (l.take n) 0 a0 (fun j hj => ht ⟨j, Cz hj⟩)]
end
theorem aba {P : Program} {id : Nat} {Q : Exit → Act → World → Prop} {a : Act} {w : World} {l : List Oper} (n sz : Nat) (sl : Nat → Tmp) (T : Nat → World → Value → Prop) (G : World → Prop) (E : World → World → Prop) (J : (Nat → Prop) → (Nat → Value) → World → Prop)
  (hm : P.follows .mixedOrders = true) (hB : okB l n sz = true) (hS1 : slB l n sl = true) (hsz : a.tmps.size = sz)
  (hT : ∀ k w w' v, E w w' → T k w v → T k w' v) (hG : G w.drew) (hJ : ∀ u, J (fun _ => False) u w.drew) (hJc : ∀ S S' u w, (∀ k, k < n → (S' k ↔ S k)) → J S u w → J S' u w)
  (hS : Kr P Q l n sl T G E J a 0 (l.take n))
  (hend : ∀ (v : Nat → Value) (w' : World), G w' → J (fun _ => True) v w' → (∀ k, k < n → T k w' (v k)) → (∀ k j, k < n → j < n → ja l k = none → ja l j = some (sl k) → v k = v j) → wpList P l.toArray Q (l.drop n) (puts v 0 (l.take n) a) w') :
  (Code.region id l.toArray true).wp P Q a w := by
 simp only [okB, Bool.and_eq_true, Bool.or_eq_true, decide_eq_true_eq] at hB
 obtain ⟨⟨⟨⟨hn, Zv⟩, hback⟩, Lh⟩, hseq⟩ := hB
 have hget : ∀ k, k < n → ∃ o, l[k]? = some o := fun k hk => ⟨l[k]'(by omega), List.getElem?_eq_getElem om⟩
 have hbk := Lp hback
 have hds := Ll Lh
 have hsl : ∀ k, k < n → ja l k = none → ∃ j, j < n ∧ waits l k j (sl k) = true := fun k hk hd => by
  have h1 := List.all_eq_true.1 hS1 k (List.mem_range.2 hk)
  simp only [hd, Option.isSome_none, Bool.false_or, List.any_eq_true, List.mem_range] at h1
  exact h1
 have hwb : ∀ k j d, k < n → waits l k j d = true → j < n := fun k j d hk hw => by
  simp only [waits, Bool.and_eq_true, beq_iff_eq] at hw
  obtain ⟨oj, hoj, e, he, hb, hon⟩ := Region.waitsFor_spec hw.1
  have := hbk k oj hk (by simpa using hoj) e he hb
  omega
 refine wp_region_any hm ?_
 have key : ∀ (f : Nat) (L : Array Bool) (a' : Act) (w' : World), HeadInv .any l.toArray n L → TG l n sl T G a (fun k => L.getD k false = true) a' w' → J (fun k => L.getD k false = true) (uv l sl a') w' → cnt L n = f → wpAny P .any l.toArray Q (f + (l.length - n)) L a' w' := by
  intro f
  induction f with
  | zero =>
   intro L a' w' head inv jv hc
   have hall := Mv hc
   have hL : L = full n (l.length - n) := by
    have hs := head.size
    refine Array.ext (by simp [full, hs]; omega) (fun i h1 h2 => ?_)
    by_cases hi : i < n
    ·
     have g := hall i hi
     simp [h1] at g
     simp [full, hi, g]
    ·
     have g := head.tail i om (by rw [← hs]; exact h1)
     simp [h1] at g
     simp [full, Array.getElem_append, hi, g]
   obtain ⟨v, he, hv, Em, hvu⟩ := inv.bbx hsz hds (fun k hk => by rw [hL]; simp [full, Array.getElem?_append, hk])
   rw [he, Nat.zero_add]
   have hlen : (l.drop n).length = l.length - n := by simp
   rw [← hlen]
   exact wpAny_of_seq (md := .any) (ops := l.toArray) (Q' := Q) (l.drop n) n L _ w' (fun j => by simp [List.getElem?_drop]) (by rw [hlen, hL]; exact hseq)
    (hend v w' inv.good (hvu ▸ hJc _ _ _ _ (fun k hk => by rw [hL]; simp [full, Array.getElem?_append, hk]) jv) hv Em)
  | succ f ih =>
   intro L a' w' head inv jv hc
   obtain ⟨i0, hi0, Tw, hle0⟩ := Vi (L := L) (m := n) om
   have Wo : L.size = l.length := by rw [head.size]; simp
   rw [show f + 1 + (l.length - n) = (f + (l.length - n)) + 1 by omega]
   refine ⟨fun hr => ?_, fun i hi => ?_⟩
   ·
    exfalso
    obtain ⟨o, ho⟩ := hget i0 hi0
    have : i0 ∈ Region.ready .any l.toArray L := mem_ready.2 ⟨Tw, o, by simpa using ho, fun e he hb => by
     have hlt := hbk i0 o hi0 ho e he hb
     have h1 := hle0 e.on hlt
     simp [show e.on < L.size by rw [Wo]; omega] at h1
     simp [show e.on < L.size by rw [Wo]; omega, h1]⟩
    rw [hr] at this; cases this
   ·
    obtain ⟨hun, o, ho, Zt⟩ := mem_ready.1 hi
    have ho' : l[i]? = some o := by simpa using ho
    have hil : i < l.length := by
     have := (Array.getElem?_eq_some_iff.1 ho).1
     simpa using this
    have hin : i < n := by
     rcases Nat.lt_or_ge i n with h | h
     ·
      exact h
     ·
      exfalso
      rcases Zv with he | ⟨hs, hch⟩
      ·
       omega
      ·
       exact tail_waits hs hch (by simp only [List.size_toArray]; omega) head _ i0 rfl hi0 Tw i h hi
    have hst := hS.get (i := i) (o := o) (by rw [List.getElem?_take_of_lt hin]; exact ho')
    rw [Nat.zero_add] at hst
    have hdone : ∀ j d, waits l i j d = true → L.getD j false = true := fun j d hjd => by
     simp only [waits, Bool.and_eq_true, beq_iff_eq] at hjd
     obtain ⟨oj, hoj, e, he, hb, hon⟩ := Region.waitsFor_spec hjd.1
     have : oj = o := Option.some.inj (hoj.symm.trans ho)
     subst this
     have hlj := Zt e he hb
     rwa [hon] at hlj
    have Ko : ¬ L.getD i false = true := fun h => by rw [getD_both hun] at h; cases h
    have hw := hst.2 a' w' inv.good inv.old (fun j d hjd => inv.new j d (hwb i j d hin hjd) (hdone j d hjd) (Cu hjd)) ⟨_, _, jv, Ko, fun j d hjd => ⟨hdone j d hjd, Uw (Cu hjd)⟩⟩
    have go : ∀ v w2, G w2 → E w' w2 → T i w2 v → (o.dst = none → v = a'.tmps.getD (sl i) undef) → (∀ S u u', J S u w' → (∀ j, j < n → S j → u' j = u j) → (o.dst ≠ none → u' i = v) → ¬ S i → (∀ j d, waits l i j d = true → S j ∧ u j = a'.tmps.getD d undef) → J (fun k => k = i ∨ S k) u' w2) → wpAny P .any l.toArray Q (f + (l.length - n)) (L.setIfInBounds i true) (a'.put o.dst v) w2 := by
     intro v w2 hg2 hE Fw hno hj
     have hiff : ∀ k, k < n → ((L.setIfInBounds i true).getD k false = true ↔ (k = i ∨ L.getD k false = true)) := fun k hk => ?_
     refine ih (L.setIfInBounds i true) _ w2 (head.set hi hin) ((inv.step hsz hds hsl hT hin ho' Ko hdone hg2 hE Fw hno).mono hiff hwb) (hJc _ _ _ _ hiff (hj _ (uv l sl a') _ jv (fun j hj hSj => inv.bdh hds hsl hin ho' Ko hj hSj) (fun hd => bdi hsz inv.size hds hin ho' hd) Ko (fun j d hjd => ⟨hdone j d hjd, Uw (Cu hjd)⟩))) (by have := Vg hun (m := n) hin; omega)
     by_cases hki : k = i
     ·
      subst hki
      exact ⟨fun _ => .inl rfl, fun _ => by simp [show k < L.size by rw [Wo]; omega]⟩
     ·
      rw [getD_set_ne false (Ne.symm hki)]
      exact ⟨fun h => .inr h, fun h => h.resolve_left hki⟩
    unfold wpOp
    simp only [ho]
    split
    ·
     refine .inl (Oper.wp_mono (fun a2 w2 hK => ?_) hw)
     obtain ⟨v, rfl, hg2, hE, Fw, hno, hj⟩ := hK
     exact go v w2 hg2 hE Fw hno hj
    ·
     rename_i hwd
     exact absurd (by simp [Region.wanted, hst.1]) hwd
 have h0 := key n (Array.replicate l.length false) a w.drew
  ⟨by simp, fun j oj _ hl => (by rw [getD_replicate_false] at hl; cases hl), fun t _ ht => getD_in (by simpa using ht) (getD_replicate_false _ _)⟩
  ⟨rfl, rfl, fun _ _ => rfl, fun k d _ hs _ => (by rw [getD_replicate_false] at hs; cases hs), fun k _ hs _ => (by rw [getD_replicate_false] at hs; cases hs), fun k j d _ hs _ => (by rw [getD_replicate_false] at hs; cases hs), hG⟩ (hJc _ _ _ _ (fun k _ => ⟨fun h => (by rw [getD_replicate_false] at h; cases h), fun h => h.elim⟩) (hJ _)) (Vh _ hn)
 rw [show n + (l.length - n) = l.length by omega] at h0
 have hsz2 : l.toArray.size = l.length := by simp
 rw [hsz2]
 exact h0
end Rg
end Go.Proofs.YtfgeaakhlcaibaaGreatDoor
namespace Go.Proofs.YtfgeaakhlcaibaaGreatDoor
open Go.RowKit

namespace Sb
def EN (B : Nat) (TB : TypeId) (new : List jf) (w w' : World) : Prop := dz w w' ∨ ∃ (b : Nat) (us cs : List Value), B ≤ b ∧ fu w new us ∧ w.heap[b]? = some (.cells cs.toArray TB (0, 0)) ∧ Db cs ∧ us.length = cs.length ∧ w' = setM w b 0 us
theorem aeq {B : Nat} {TB : TypeId} {new : List jf} (c : Value) : Rg.Da (EN B TB new) (Rg.au c) := fun _ _ _ _ h => h
theorem Ef {B : Nat} {TB : TypeId} {new : List jf} (ls : List jf) : Rg.Da (EN B TB new) (ax ls) := by
 rintro w w' v (hb | ⟨b, us, cs, _, h1, h2, h3, h4, rfl⟩) h
 ·
  exact bf ls _ _ _ hb h
 ·
  obtain ⟨ds, rfl, h⟩ := h
  exact ⟨ds, rfl, h.upto h2 h3 (xh b us 0 w w (qb _ _))⟩
def Ip (T : TypeId) (m : Nat) (B : Nat) : World → Value → Prop := fun W v => ∃ b, v = .pointer (some ⟨b, 0, none⟩) ∧ B ≤ b ∧ ∃ cs : List Value, W.heap[b]? = some (.cells cs.toArray T (0, 0)) ∧ Db cs ∧ cs.length = m
theorem aly {B B' m : Nat} {TB T : TypeId} {new : List jf} : Rg.Da (EN B TB new) (Ip T m B') := by
 rintro w w' v (hb | ⟨b, us, cs, _, h1, h2, h3, h4, rfl⟩) ⟨c, rfl, h5, ds, h6, h7, h8⟩
 ·
  exact ⟨c, rfl, h5, ds, (hb.block _ (lt_of_block h6)).trans h6, h7, h8⟩
 ·
  refine ⟨c, rfl, h5, ?_⟩
  by_cases hbc : c = b
  ·
   subst hbc
   rw [h6] at h2
   have h9 := Option.some.inj h2
   injection h9 with e1 e2 e3
   subst e2
   have e4 : ds = cs := by simpa using e1
   subst e4
   exact ⟨us, Ht h6 h4, h1.noW, by rw [h4, h8]⟩
  ·
   exact ⟨ds, ((xh b us 0 w w (qb _ _)).block c (lt_of_block h6) (fun x => hbc (by injection x))).trans h6, h7, h8⟩
def Js (TB : TypeId) (new : List jf) (B : Nat) : World → Value → Prop := fun W v => ∃ b, v = .pointer (some ⟨b, 0, none⟩) ∧ B ≤ b ∧ si W b TB new
theorem apc {B B' : Nat} {TB : TypeId} {new : List jf} : Rg.Da (EN B TB new) (Js TB new B') := by
 rintro w w' v (hb | ⟨b, us, cs, _, h1, h2, h3, h4, rfl⟩) ⟨c, rfl, h5, ds, h6, h7⟩
 ·
  exact ⟨c, rfl, h5, si.below ⟨ds, h6, h7⟩ hb⟩
 ·
  refine ⟨c, rfl, h5, ?_⟩
  have hg := xh b us 0 w w (qb _ _)
  by_cases hbc : c = b
  ·
   subst hbc
   exact ⟨us, Ht h2 h4, h1.upto h2 h3 hg⟩
  ·
   exact ⟨ds, (hg.block c (lt_of_block h6) (fun x => hbc (by injection x))).trans h6, h7.upto h2 h3 hg⟩
theorem zm {P : Program} {Q : Exit → Act → World → Prop} {l : List Oper} {n : Nat} {T : Nat → World → Value → Prop} {G : World → Prop} {B : Nat} {TB : TypeId} {new : List jf} {al : List Nat} {a0 : Act} {k : Nat} {o : Oper} (h : Rg.Step P Q l n T G dz al a0 k o) : Rg.Step P Q l n T G (EN B TB new) al a0 k o := by
 intro a w hG hO hN
 refine Oper.wp_mono (fun a' w' hK => ?_) (h a w hG hO hN)
 obtain ⟨v, h1, h2, h3, h4, h5⟩ := hK
 exact ⟨v, h1, h2, .inl h3, h4, h5⟩
theorem aua {P : Program} {Q : Exit → Act → World → Prop} {l : List Oper} {n : Nat} {T : Nat → World → Value → Prop} {G : World → Prop} {a0 : Act} {k d B m : Nat} {TL : TypeId} {cs : List Value} {ty : TypeId} {pos : String} {af : Array Edge} {gd : Option (Nat × Bool)} (hN : Jy P TL cs) (hw : cs.all okV = true) (hm : cs.length = m)
  (Fx : ∀ W W', G W → dz W W' → G W') (hB : ∀ W, G W → B ≤ W.heap.size) (hT : T k = Ip TL m B) :
  Rg.Step P Q l n T G dz [] a0 k { dst := some d, op := .alloc TL, type := ty, pos := pos, after := af, guard := gd } := by
 refine axu (N := Ip TL m) (B := B) ?_ Fx hB hT (fun j W u h => by simp at h)
 intro a w
 exact ⟨_, (Below.refl _ _).alloc (Nat.le_refl _) _, fun hB => ⟨w.heap.size, rfl, hB, cs, heap_alloc_new w _, (fu.vs w cs hw).noW, hm⟩, hN a.eval w (some d) ty pos af gd⟩
theorem atw {P : Program} {Q : Exit → Act → World → Prop} {l : List Oper} {n : Nat} {sl : Nat → Tmp} {T : Nat → World → Value → Prop} {w0 V : World} {bs : List wh} {a0 : Act} {k m t : Nat} {TL TB : TypeId} {x : Operand} {new : List jf} {ty : TypeId} {pos : String} {af : Array Edge}
  (hO : Own w0 bs V) (hS : zh P TL m) (hp : Rg.ib l n T a0 k (.tmp t) (Ip TB m V.heap.size)) (hx : Rg.ib l n T a0 k x (ax new)) (hn : oq new = m) (hsl : sl k = t) (hT : T k = Js TB new V.heap.size) :
  Rg.aai P Q l n sl T (az w0 bs V) (EN V.heap.size TB new) a0 k { dst := none, op := .store TL (.tmp t) x, type := ty, pos := pos, after := af, guard := none } := by
 refine ⟨rfl, fun a w hG hA hN => ?_⟩
 obtain ⟨us, ex, hu⟩ := hx a w hA hN
 obtain ⟨b, ep, hge, cs, hb, hnw, hlen⟩ := hp a w hA hN
 have hl : us.length = cs.length := by rw [hu.len, hn, hlen]
 have hr := hS a.eval w none (.tmp t) x b 0 cs TB us ty pos af none (by rw [hu.len, hn]) (fun u h => (hu.noW u h).2.1) hb (by rw [hlen]; omega) ep ex
 unfold Oper.wp
 rw [hr]
 have hg := xh b us 0 w w (qb _ _)
 have hbel : dz V (setM w b 0 us) := hG.2.grown hg hG.2.size (fun k hk => by injection hk with hk; omega)
 exact ⟨a.tmps.getD (sl k) undef, rfl, ⟨Own.step _ _ hO hbel, hbel⟩, .inr ⟨b, us, cs, hge, hu, hb, hnw, hl, rfl⟩, by rw [hT, hsl]; exact ⟨b, ep, hge, us, Ht hb hl, hu.upto hb hnw hg⟩, fun _ => rfl⟩
end Sb

end Go.Proofs.YtfgeaakhlcaibaaGreatDoor
