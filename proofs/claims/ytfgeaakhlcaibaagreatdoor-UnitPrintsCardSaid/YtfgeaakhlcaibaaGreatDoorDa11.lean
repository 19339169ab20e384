/- Texts beneath a law of layer 1. -/
import Derived.Test.YtfgeaakhlcaibaaGreatDoorDa10
set_option maxRecDepth 100000
set_option maxHeartbeats 16000000
namespace Go.Proofs.YtfgeaakhlcaibaaGreatDoor
open Go.RowKit

namespace Sb
def EX (B : Nat) (TB : TypeId) (w w' : World) : Prop := dz w w' ∨ ∃ (b : Nat) (us cs : List Value), B ≤ b ∧ w.heap[b]? = some (.cells cs.toArray TB (0, 0)) ∧ Db cs ∧ us.length = cs.length ∧ w' = setM w b 0 us
theorem Jg {B : Nat} {TB : TypeId} (c : Value) : Rg.Da (EX B TB) (Rg.au c) := fun _ _ _ _ h => h
theorem yo {B : Nat} {TB : TypeId} : Rg.Da (EX B TB) (fun _ _ => True) := fun _ _ _ _ _ => trivial
theorem sw {B : Nat} {TB : TypeId} (ls : List jf) : Rg.Da (EX B TB) (ax ls) := by
 rintro w w' v (hb | ⟨b, us, cs, _, h2, h3, h4, rfl⟩) h
 ·
  exact bf ls _ _ _ hb h
 ·
  obtain ⟨ds, rfl, h⟩ := h
  exact ⟨ds, rfl, h.upto h2 h3 (xh b us 0 w w (qb _ _))⟩
def J2 (TB : TypeId) (m B k5 k6 s1 s2 : Nat) (Bn Ce : List jf) (S : Nat → Prop) (u : Nat → Value) (w : World) : Prop :=
 (S k5 → Ip TB m B w (u k5)) ∧ (S k6 → Ip TB m B w (u k6)) ∧ (S k5 → S k6 → u k5 ≠ u k6) ∧ (S s1 → S k5 ∧ Js TB Bn B w (u k5)) ∧ (S s2 → S k6 ∧ Js TB Ce B w (u k6))
section
variable {TB : TypeId} {m B k5 k6 s1 s2 n : Nat} {Bn Ce : List jf} {S S' : Nat → Prop} {u u' : Nat → Value} {w w' : World}
theorem alc : J2 TB m B k5 k6 s1 s2 Bn Ce = J2 TB m B k6 k5 s2 s1 Ce Bn := by
 funext S u w
 exact propext ⟨fun ⟨a, b, c, d, e⟩ => ⟨b, a, fun x y h => c y x h.symm, e, d⟩, fun ⟨a, b, c, d, e⟩ => ⟨b, a, fun x y h => c y x h.symm, e, d⟩⟩
theorem J2.start : J2 TB m B k5 k6 s1 s2 Bn Ce (fun _ => False) u w := ⟨False.elim, False.elim, fun h => h.elim, False.elim, False.elim⟩
theorem J2.congr (hl : k5 < n ∧ k6 < n ∧ s1 < n ∧ s2 < n) (hS : ∀ k, k < n → (S' k ↔ S k)) (h : J2 TB m B k5 k6 s1 s2 Bn Ce S u w) : J2 TB m B k5 k6 s1 s2 Bn Ce S' u w := by
 unfold J2 at h ⊢
 rw [hS k5 hl.1, hS k6 hl.2.1, hS s1 hl.2.2.1, hS s2 hl.2.2.2]
 exact h
theorem Ip.bel {v : Value} (hb : dz w w') (h : Ip TB m B w v) : Ip TB m B w' v := by
 obtain ⟨c, rfl, h5, ds, h6, h7, h8⟩ := h
 exact ⟨c, rfl, h5, ds, (hb.block _ (lt_of_block h6)).trans h6, h7, h8⟩
theorem Js.bel {new : List jf} {v : Value} (hb : dz w w') (h : Js TB new B w v) : Js TB new B w' v := by
 obtain ⟨c, rfl, h5, h6⟩ := h
 exact ⟨c, rfl, h5, h6.below hb⟩
theorem J2.same {k : Nat} (hl : k5 < n ∧ k6 < n) (hne : k ≠ k5 ∧ k ≠ k6 ∧ k ≠ s1 ∧ k ≠ s2) (h : J2 TB m B k5 k6 s1 s2 Bn Ce S u w) (hb : dz w w') (hu : ∀ j, j < n → S j → u' j = u j) : J2 TB m B k5 k6 s1 s2 Bn Ce (fun j => j = k ∨ S j) u' w' := by
 obtain ⟨a, b, c, d, e⟩ := h
 have r5 : (k5 = k ∨ S k5) → S k5 := fun h => h.resolve_left (Ne.symm hne.1)
 have r6 : (k6 = k ∨ S k6) → S k6 := fun h => h.resolve_left (Ne.symm hne.2.1)
 refine ⟨fun h => ?_, fun h => ?_, fun h h' => ?_, fun h => ?_, fun h => ?_⟩
 ·
  rw [hu _ hl.1 (r5 h)]; exact (a (r5 h)).bel hb
 ·
  rw [hu _ hl.2 (r6 h)]; exact (b (r6 h)).bel hb
 ·
  rw [hu _ hl.1 (r5 h), hu _ hl.2 (r6 h')]; exact c (r5 h) (r6 h')
 ·
  have q := d (h.resolve_left (Ne.symm hne.2.2.1))
  rw [hu _ hl.1 q.1]; exact ⟨.inr q.1, q.2.bel hb⟩
 ·
  have q := e (h.resolve_left (Ne.symm hne.2.2.2))
  rw [hu _ hl.2 q.1]; exact ⟨.inr q.1, q.2.bel hb⟩
theorem J2.alloc (hl : k5 < n ∧ k6 < n) (hne : k5 ≠ k6 ∧ k5 ≠ s1 ∧ k5 ≠ s2) (h : J2 TB m B k5 k6 s1 s2 Bn Ce S u w) (hb : dz w w') (hu : ∀ j, j < n → S j → u' j = u j) (Ko : ¬ S k5) (hv : u' k5 = .pointer (some ⟨w.heap.size, 0, none⟩)) (hN : Ip TB m B w' (u' k5)) :
  J2 TB m B k5 k6 s1 s2 Bn Ce (fun j => j = k5 ∨ S j) u' w' := by
 obtain ⟨a, b, c, d, e⟩ := h
 have r6 : (k6 = k5 ∨ S k6) → S k6 := fun h => h.resolve_left (Ne.symm hne.1)
 refine ⟨fun _ => hN, fun h => ?_, fun _ h' => ?_, fun h => ?_, fun h => ?_⟩
 ·
  rw [hu _ hl.2 (r6 h)]; exact (b (r6 h)).bel hb
 ·
  obtain ⟨g, e1, _, ds, h6, _⟩ := b (r6 h')
  rw [hv, hu _ hl.2 (r6 h'), e1]
  intro x
  have := lt_of_block h6
  injection x with x
  injection x with x
  injection x with x
  omega
 ·
  exact absurd (d (h.resolve_left (Ne.symm hne.2.1))).1 Ko
 ·
  have q := e (h.resolve_left (Ne.symm hne.2.2))
  rw [hu _ hl.2 q.1]; exact ⟨.inr q.1, q.2.bel hb⟩
theorem Ip.set {b : Nat} {us cs : List Value} {v : Value} (h2 : w.heap[b]? = some (.cells cs.toArray TB (0, 0))) (h3 : Db us) (h4 : us.length = cs.length) (h : Ip TB m B w v) : Ip TB m B (setM w b 0 us) v := by
 obtain ⟨c, rfl, h5, ds, h6, h7, h8⟩ := h
 refine ⟨c, rfl, h5, ?_⟩
 by_cases hbc : c = b
 ·
  subst hbc
  rw [h6] at h2
  have h9 := Option.some.inj h2
  injection h9 with e1 e2 e3
  have e4 : ds = cs := by simpa using e1
  subst e4
  exact ⟨us, Ht h6 h4, h3, by rw [h4, h8]⟩
 ·
  exact ⟨ds, ((xh b us 0 w w (qb _ _)).block c (lt_of_block h6) (fun x => hbc (by injection x))).trans h6, h7, h8⟩
theorem Js.set {b : Nat} {us cs : List Value} {new : List jf} {v : Value} (h2 : w.heap[b]? = some (.cells cs.toArray TB (0, 0))) (h3 : Db cs) (hv : v ≠ .pointer (some ⟨b, 0, none⟩)) (h : Js TB new B w v) : Js TB new B (setM w b 0 us) v := by
 obtain ⟨c, rfl, h5, ds, h6, h7⟩ := h
 have hg := xh b us 0 w w (qb _ _)
 have hbc : c ≠ b := fun x => hv (by rw [x])
 exact ⟨c, rfl, h5, ds, (hg.block c (lt_of_block h6) (fun x => hbc (by injection x))).trans h6, h7.upto h2 h3 hg⟩
theorem J2.store {b : Nat} {us cs : List Value} (hl : k5 < n ∧ k6 < n) (hne : s1 ≠ k5 ∧ s1 ≠ k6 ∧ s1 ≠ s2) (h : J2 TB m B k5 k6 s1 s2 Bn Ce S u w) (hu : ∀ j, j < n → S j → u' j = u j) (hS : S k5) (hv : u k5 = .pointer (some ⟨b, 0, none⟩))
  (h2 : w.heap[b]? = some (.cells cs.toArray TB (0, 0))) (h3 : Db cs) (h4 : us.length = cs.length) (h5 : Db us) (hF : Js TB Bn B (setM w b 0 us) (.pointer (some ⟨b, 0, none⟩))) :
  J2 TB m B k5 k6 s1 s2 Bn Ce (fun j => j = s1 ∨ S j) u' (setM w b 0 us) := by
 obtain ⟨a, b', c, d, e⟩ := h
 have r6 : (k6 = s1 ∨ S k6) → S k6 := fun h => h.resolve_left (Ne.symm hne.2.1)
 refine ⟨fun _ => ?_, fun h => ?_, fun _ h' => ?_, fun _ => ?_, fun h => ?_⟩
 ·
  rw [hu _ hl.1 hS]; exact (a hS).set h2 h5 h4
 ·
  rw [hu _ hl.2 (r6 h)]; exact (b' (r6 h)).set h2 h5 h4
 ·
  rw [hu _ hl.1 hS, hu _ hl.2 (r6 h')]; exact c hS (r6 h')
 ·
  rw [hu _ hl.1 hS, hv]; exact ⟨.inr hS, hF⟩
 ·
  have q := e (h.resolve_left (Ne.symm hne.2.2))
  rw [hu _ hl.2 q.1]
  exact ⟨.inr q.1, q.2.set h2 h3 (fun x => c hS q.1 (by rw [hv, x]))⟩
end
section
variable {P : Program} {Q : Exit → Act → World → Prop} {l : List Oper} {n : Nat} {sl : Nat → Tmp} {T : Nat → World → Value → Prop} {w0 V : World} {bs : List wh} {a0 : Act} {TB : TypeId} {m k5 k6 s1 s2 : Nat} {Bn Ce : List jf} {ty : TypeId} {pos : String} {af : Array Edge}
theorem Bl {k : Nat} {o : Oper} (h : Rg.Step P Q l n T (az w0 bs V) dz [] a0 k o) (hg : o.guard = none := by rfl) (hd : o.dst.isSome = true := by rfl) (hl : k5 < n ∧ k6 < n := by decide) (hne : k ≠ k5 ∧ k ≠ k6 ∧ k ≠ s1 ∧ k ≠ s2 := by decide) :
  Rg.Oh P Q l n sl T (az w0 bs V) (EX V.heap.size TB) (J2 TB m V.heap.size k5 k6 s1 s2 Bn Ce) a0 k o :=
 ⟨hg, fun a w hG hO hN _ => Oper.wp_mono (fun a' w' hK => by
  obtain ⟨v, h1, h2, h3, h4, _⟩ := hK
  exact ⟨v, h1, h2, .inl h3, h4, fun e => by rw [e] at hd; (cases hd), fun S u u' hJ hu _ _ _ => hJ.same hl hne h3 hu⟩) (h a w hG hO hN)⟩
theorem Uv {d : Tmp} {cs : List Value} (hN : Jy P TB cs) (hw : cs.all okV = true) (hm : cs.length = m) (hT : T k5 = fun _ _ => True) (hl : k5 < n ∧ k6 < n := by decide) (hne : k5 ≠ k6 ∧ k5 ≠ s1 ∧ k5 ≠ s2 := by decide) :
  Rg.Oh P Q l n sl T (az w0 bs V) (EX V.heap.size TB) (J2 TB m V.heap.size k5 k6 s1 s2 Bn Ce) a0 k5 { dst := some d, op := .alloc TB, type := ty, pos := pos, after := af, guard := none } :=
 ⟨rfl, fun a w hG hO _ _ => by
  have hb : dz w (w.alloc (.cells cs.toArray TB)) := (Below.refl _ _).alloc (Nat.le_refl _) _
  refine iq (P := P) (hN a.eval w (some d) ty pos af none) ⟨_, rfl, az.step _ _ hG hb, .inl hb, by rw [hT]; trivial, fun e => by (cases e), fun S u u' hJ hu hv Ko _ => ?_⟩
  have hv' := hv (by simp)
  exact hJ.alloc hl hne hb hu Ko hv' (by rw [hv']; exact ⟨w.heap.size, rfl, hG.2.size, cs, heap_alloc_new w _, (fu.vs w cs hw).noW, hm⟩)⟩
theorem Uu {x : Operand} {t : Tmp} (hO : Own w0 bs V) (hS : zh P TB m) (hw : Rg.waits l s1 k5 t = true) (hx : Rg.ib l n T a0 s1 x (ax Bn)) (hn : oq Bn = m) (hsl : sl s1 = t) (hT : T s1 = fun _ _ => True) (hl : k5 < n ∧ k6 < n := by decide) (hne : s1 ≠ k5 ∧ s1 ≠ k6 ∧ s1 ≠ s2 := by decide) :
  Rg.Oh P Q l n sl T (az w0 bs V) (EX V.heap.size TB) (J2 TB m V.heap.size k5 k6 s1 s2 Bn Ce) a0 s1 { dst := none, op := .store TB (.tmp t) x, type := ty, pos := pos, after := af, guard := none } := by
 refine ⟨rfl, fun a w hG hA hN hE => ?_⟩
 obtain ⟨us, ex, hu⟩ := hx a w hA hN
 obtain ⟨S0, u0, hJ0, _, hw0⟩ := hE
 obtain ⟨b, ep, hge, cs, hb, hnw, hlen⟩ := hJ0.1 (hw0 k5 t hw).1
 rw [(hw0 k5 t hw).2] at ep
 have hle : us.length = cs.length := by rw [hu.len, hn, hlen]
 have hr := hS a.eval w none (.tmp t) x b 0 cs TB us ty pos af none (by rw [hu.len, hn]) (fun u h => (hu.noW u h).2.1) hb (by rw [hlen]; omega) ep ex
 unfold Oper.wp
 rw [hr]
 have hg := xh b us 0 w w (qb _ _)
 have hbel : dz V (setM w b 0 us) := hG.2.grown hg hG.2.size (fun k hk => by injection hk with hk; omega)
 refine ⟨a.tmps.getD (sl s1) undef, rfl, ⟨Own.step _ _ hO hbel, hbel⟩, .inr ⟨b, us, cs, hge, hb, hnw, hle, rfl⟩, by rw [hT]; trivial, fun _ => rfl, fun S u u' hJ hu' _ Ko hwt => ?_⟩
 exact hJ.store hl hne hu' (hwt k5 t hw).1 ((hwt k5 t hw).2.trans ep) hb hnw hle hu.noW ⟨b, rfl, hge, us, Ht hb hle, hu.upto hb hnw hg⟩
theorem Ww {d : Tmp} {cs : List Value} (hN : Jy P TB cs) (hw : cs.all okV = true) (hm : cs.length = m) (hT : T k6 = fun _ _ => True) (hl : k6 < n ∧ k5 < n := by decide) (hne : k6 ≠ k5 ∧ k6 ≠ s2 ∧ k6 ≠ s1 := by decide) :
  Rg.Oh P Q l n sl T (az w0 bs V) (EX V.heap.size TB) (J2 TB m V.heap.size k5 k6 s1 s2 Bn Ce) a0 k6 { dst := some d, op := .alloc TB, type := ty, pos := pos, after := af, guard := none } := by
 rw [alc]
 exact Uv hN hw hm hT hl hne
theorem Wv {x : Operand} {t : Tmp} (hO : Own w0 bs V) (hS : zh P TB m) (hw : Rg.waits l s2 k6 t = true) (hx : Rg.ib l n T a0 s2 x (ax Ce)) (hn : oq Ce = m) (hsl : sl s2 = t) (hT : T s2 = fun _ _ => True) (hl : k6 < n ∧ k5 < n := by decide) (hne : s2 ≠ k6 ∧ s2 ≠ k5 ∧ s2 ≠ s1 := by decide) :
  Rg.Oh P Q l n sl T (az w0 bs V) (EX V.heap.size TB) (J2 TB m V.heap.size k5 k6 s1 s2 Bn Ce) a0 s2 { dst := none, op := .store TB (.tmp t) x, type := ty, pos := pos, after := af, guard := none } := by
 rw [alc]
 exact Uu hO hS hw hx hn hsl hT hl hne
end
theorem abq : Ut Tryz.prog 79 3 3 := by
 intro ρ w d x y us vs ty pos af gd h1 h2 e1 e2
 match us, h1, vs, h2 with
 | [u0, u1, u2], _, [v0, v1, v2], _ =>
 simp only [execOp]
 simp [go_sem, e1, e2]
 try rfl
end Sb


namespace Sb
abbrev L7 (f : Nat → Int) : List Int := [f 0, f 1, f 2, f 3, f 4, f 5, f 6]
theorem aym {f g : Nat → Int} (h : ∀ j, j < 7 → f j = g j) : L7 f = L7 g := by
 simp only [L7, h 0 om, h 1 om, h 2 om, h 3 om, h 4 om, h 5 om, h 6 om]
theorem arc (f : Nat → Int) {k : Nat} (h : k < 7) : (L7 f)[k]? = some (f k) := by
 match k, h with
 | 0, _ => rfl
 | 1, _ => rfl
 | 2, _ => rfl
 | 3, _ => rfl
 | 4, _ => rfl
 | 5, _ => rfl
 | 6, _ => rfl
 | k + 7, h => omega
theorem bfi (f : Nat → Int) {k : Nat} (h : k < 7) (v : Int) : (L7 f).set k v = L7 (fun j => if j = k then v else f j) := by
 match k, h with
 | 0, _ => rfl
 | 1, _ => rfl
 | 2, _ => rfl
 | 3, _ => rfl
 | 4, _ => rfl
 | 5, _ => rfl
 | 6, _ => rfl
 | k + 7, h => omega
def eKL (l : List Int) : Kind where
 size := 7
 ok := fun _ c => c = l.map (fun n => .int .i64 n) ∧ l.length = 7
 noW := by
  rintro W c ⟨rfl, _⟩ u hu
  obtain ⟨n, _, rfl⟩ := List.mem_map.1 hu
  exact lh n
 below := fun _ h => h
 upto := fun _ _ _ h => h
 len := by rintro W c ⟨rfl, h⟩; rw [List.length_map, h]
def eK (f : Nat → Int) : Kind := eKL (L7 f)
theorem bhn {f g : Nat → Int} (h : ∀ j, j < 7 → f j = g j) : eK f = eK g := congrArg eKL (aym h)
def Gl (f h : Nat → Int) (k : Nat) : Nat → Int := fun j => if j < k then h j else f j
theorem aca (f h : Nat → Int) : Gl f h 0 = f := by funext j; simp [Gl]
theorem ajr (f h : Nat → Int) (k : Nat) : Gl f h k k = f k := if_neg (Nat.lt_irrefl k)
theorem aeg (f h : Nat → Int) : eK (Gl f h 7) = eK h := bhn fun j hj => if_pos hj
theorem acb (f h : Nat → Int) (k : Nat) : ∀ j, j < 7 → (if j = k then h k else Gl f h k j) = Gl f h (k + 1) j := fun j _ => by
 unfold Gl
 by_cases e : j = k
 ·
  subst e; rw [if_pos rfl, if_pos (Nat.lt_succ_self j)]
 ·
  rw [if_neg e]
  by_cases e2 : j < k
  ·
   rw [if_pos e2, if_pos om]
  ·
   rw [if_neg e2, if_neg om]
theorem fu.e {W : World} {f : Nat → Int} {ls : List jf} {cs : List Value} (h : fu W ls cs) : fu W (.k (eK f) :: ls) (.int .i64 (f 0) :: .int .i64 (f 1) :: .int .i64 (f 2) :: .int .i64 (f 3) :: .int .i64 (f 4) :: .int .i64 (f 5) :: .int .i64 (f 6) :: cs) := ⟨[_, _, _, _, _, _, _], cs, rfl, ⟨rfl, rfl⟩, h⟩
theorem fu.adx {W : World} {f : Nat → Int} {ls : List jf} {cs : List Value} (h : fu W (.k (eK f) :: ls) cs) : ∃ r, cs = .int .i64 (f 0) :: .int .i64 (f 1) :: .int .i64 (f 2) :: .int .i64 (f 3) :: .int .i64 (f 4) :: .int .i64 (f 5) :: .int .i64 (f 6) :: r ∧ fu W ls r := by
 obtain ⟨c, r, rfl, h1, h⟩ := h
 have h1' : c = (L7 f).map (fun n => .int .i64 n) := h1.1
 subst h1'
 exact ⟨r, rfl, h⟩
theorem azi {W : World} {f : Nat → Int} {v : Value} (h : ax [.k (eK f)] W v) : v = .agg #[.int .i64 (f 0), .int .i64 (f 1), .int .i64 (f 2), .int .i64 (f 3), .int .i64 (f 4), .int .i64 (f 5), .int .i64 (f 6)] := by
 obtain ⟨cs, rfl, h⟩ := h
 obtain ⟨r0, rfl, k⟩ := h.adx
 clear h
 cases k; rfl
theorem Aw {W : World} {f : Nat → Int} {a b v : Value} (h : ax [.k (eK f), .v a, .v b] W v) : v = .agg #[.int .i64 (f 0), .int .i64 (f 1), .int .i64 (f 2), .int .i64 (f 3), .int .i64 (f 4), .int .i64 (f 5), .int .i64 (f 6), a, b] := by
 obtain ⟨cs, rfl, h⟩ := h
 obtain ⟨r0, rfl, k⟩ := h.adx
 clear h
 obtain ⟨r1, rfl, _, k1⟩ := k.Ci
 obtain ⟨r2, rfl, _, k2⟩ := k1.Ci
 cases k2; rfl
theorem Vl {W : World} {f : Nat → Int} {x : Rat} {v : Value} (h : ax [.k (eK f), .q x] W v) : ∃ s1 n1 A1 c1 l1 s2 n2 A2 c2 l2, v = .agg #[.int .i64 (f 0), .int .i64 (f 1), .int .i64 (f 2), .int .i64 (f 3), .int .i64 (f 4), .int .i64 (f 5), .int .i64 (f 6), .int .i64 s1, .bool n1, .slice A1 (List.length l1) c1, .int .i64 s2, .bool n2, .slice A2 (List.length l2) c2] ∧ fw W s1 n1 A1 c1 l1 x.num ∧ fw W s2 n2 A2 c2 l2 (x.den : Int) := by
 obtain ⟨cs, rfl, h⟩ := h
 obtain ⟨r0, rfl, k⟩ := h.adx
 clear h
 obtain ⟨s1, n1, A1, c1, l1, s2, n2, A2, c2, l2, r, rfl, h1, h2, k1⟩ := k.axz
 cases k1
 exact ⟨_, _, _, _, _, _, _, _, _, _, rfl, h1, h2⟩
theorem si.anw {W : World} {b : Nat} {T : TypeId} {pre post : List jf} {f : Nat → Int} (h : si W b T (pre ++ (.k (eK f) :: post))) {k : Nat} (hk : k < 7) : W.cell? ⟨b, oq pre + k, none⟩ = some (.int .i64 (f k)) := by
 obtain ⟨cs, h1, h2⟩ := h
 obtain ⟨c, cd, rfl, k1, k2⟩ := h2.cut
 obtain ⟨c1, r, rfl, h3, k4⟩ := k2
 have h3' : c1 = (L7 f).map (fun n => .int .i64 n) := h3.1
 have := Oc h1 k (by rw [h3']; simpa using hk)
 rw [← k1.len, this, h3', List.getElem?_map, arc f hk]; rfl
end Sb

namespace Sb
def z7 : Nat → Int := fun _ => 0
abbrev zU : List jf := [iv 0, iv 0, iv 0, iv 0, iv 0, iv 0, iv 0, iv 0, iv 0]
abbrev zM : List jf := [iv 0, iv 0, iv 0, iv 0, iv 0, iv 0, iv 0, iv 0, .v (.bool false), .v (.slice none 0 0), iv 0, .v (.bool false), .v (.slice none 0 0)]
def aV (f : Nat → Int) : Value := .agg #[.int .i64 (f 0), .int .i64 (f 1), .int .i64 (f 2), .int .i64 (f 3), .int .i64 (f 4), .int .i64 (f 5), .int .i64 (f 6)]
theorem Cv {W : World} {f : Nat → Int} {ls : List jf} {cs : List Value} : fu W (.k (eK f) :: ls) cs ↔ fu W ((L7 f).map iv ++ ls) cs := by
 constructor
 ·
  intro h
  obtain ⟨r, rfl, h1⟩ := h.adx
  exact fu.v (lh _) (fu.v (lh _) (fu.v (lh _) (fu.v (lh _) (fu.v (lh _) (fu.v (lh _) (fu.v (lh _) h1))))))
 ·
  intro h
  obtain ⟨r1, rfl, _, h1⟩ := fu.Ci h
  obtain ⟨r2, rfl, _, h2⟩ := fu.Ci h1
  obtain ⟨r3, rfl, _, h3⟩ := fu.Ci h2
  obtain ⟨r4, rfl, _, h4⟩ := fu.Ci h3
  obtain ⟨r5, rfl, _, h5⟩ := fu.Ci h4
  obtain ⟨r6, rfl, _, h6⟩ := fu.Ci h5
  obtain ⟨r7, rfl, _, h7⟩ := fu.Ci h6
  exact fu.e h7
theorem Own.conv {w W : World} {xs ys : List wh} {b : Nat} {T : TypeId} {ls ls' : List jf} (h : Own w (xs ++ (b, T, ls) :: ys) W) (hc : ∀ cs, fu W ls cs → fu W ls' cs) : Own w (xs ++ (b, T, ls') :: ys) W := by
 refine ⟨h.bel, by have := h.nd; rw [List.map_append, List.map_cons] at this ⊢; exact this, fun b' T' l' hm => ?_⟩
 rcases List.mem_append.1 hm with hm | hm
 ·
  exact h.box _ _ _ (List.mem_append_left _ hm)
 ·
  rcases List.mem_cons.1 hm with e | hm
  ·
   cases e
   obtain ⟨g, cs, h1, h2⟩ := h.box b T ls (List.mem_append_right _ List.mem_cons_self)
   exact ⟨g, cs, h1, hc cs h2⟩
  ·
   exact h.box _ _ _ (List.mem_append_right _ (List.mem_cons_of_mem _ hm))
theorem Own.bnc {w W : World} {xs ys : List wh} {b k : Nat} {T : TypeId} {f g : Nat → Int} {post : List jf} {v : Int} (h : Own w (xs ++ (b, T, .k (eK f) :: post) :: ys) W) (hk : k < 7) (hg : ∀ j, j < 7 → (if j = k then v else f j) = g j) :
  Own w (xs ++ (b, T, .k (eK g) :: post) :: ys) (setM W b k [.int .i64 v]) := by
 have h1 := h.conv (fun cs => Cv.1)
 have e : L7 g = (L7 f).set k v := by rw [bfi f hk]; exact (aym hg).symm
 have hv : ∀ W' : World, fu W' [iv v] [.int .i64 v] := fun W' => fu.v (lh _) rfl
 clear hg
 have hc : k = 0 ∨ k = 1 ∨ k = 2 ∨ k = 3 ∨ k = 4 ∨ k = 5 ∨ k = 6 := by omega
 rcases hc with rfl | rfl | rfl | rfl | rfl | rfl | rfl
 ·
  exact (Own.set (pre := []) (old := [iv (f 0)]) (new := [iv v]) (post := [iv (f 1), iv (f 2), iv (f 3), iv (f 4), iv (f 5), iv (f 6)] ++ post) (off := 0) h1 (hv _) rfl rfl).conv (fun cs hc => Cv.2 (by rw [e]; exact hc))
 ·
  exact (Own.set (pre := [iv (f 0)]) (old := [iv (f 1)]) (new := [iv v]) (post := [iv (f 2), iv (f 3), iv (f 4), iv (f 5), iv (f 6)] ++ post) (off := 1) h1 (hv _) rfl rfl).conv (fun cs hc => Cv.2 (by rw [e]; exact hc))
 ·
  exact (Own.set (pre := [iv (f 0), iv (f 1)]) (old := [iv (f 2)]) (new := [iv v]) (post := [iv (f 3), iv (f 4), iv (f 5), iv (f 6)] ++ post) (off := 2) h1 (hv _) rfl rfl).conv (fun cs hc => Cv.2 (by rw [e]; exact hc))
 ·
  exact (Own.set (pre := [iv (f 0), iv (f 1), iv (f 2)]) (old := [iv (f 3)]) (new := [iv v]) (post := [iv (f 4), iv (f 5), iv (f 6)] ++ post) (off := 3) h1 (hv _) rfl rfl).conv (fun cs hc => Cv.2 (by rw [e]; exact hc))
 ·
  exact (Own.set (pre := [iv (f 0), iv (f 1), iv (f 2), iv (f 3)]) (old := [iv (f 4)]) (new := [iv v]) (post := [iv (f 5), iv (f 6)] ++ post) (off := 4) h1 (hv _) rfl rfl).conv (fun cs hc => Cv.2 (by rw [e]; exact hc))
 ·
  exact (Own.set (pre := [iv (f 0), iv (f 1), iv (f 2), iv (f 3), iv (f 4)]) (old := [iv (f 5)]) (new := [iv v]) (post := [iv (f 6)] ++ post) (off := 5) h1 (hv _) rfl rfl).conv (fun cs hc => Cv.2 (by rw [e]; exact hc))
 ·
  exact (Own.set (pre := [iv (f 0), iv (f 1), iv (f 2), iv (f 3), iv (f 4), iv (f 5)]) (old := [iv (f 6)]) (new := [iv v]) (post := [] ++ post) (off := 6) h1 (hv _) rfl rfl).conv (fun cs hc => Cv.2 (by rw [e]; exact hc))
theorem Hg : aea Tryz.prog 3 := by
 intro ρ w d x b off u ty pos af gd hc hx
 simp only [execOp, hx]
 simp [go_sem, hc]
theorem Qv {P : Program} {Q : Exit → Act → World → Prop} {l : List Oper} {n : Nat} {T : Nat → World → Value → Prop} {w V : World} {bs : List wh} {al : List Nat} {a0 : Act} {k d b off : Nat} {x : Operand} {TB TL : TypeId} {ls : List jf} {u : Value} {ty : TypeId} {pos : String} {af : Array Edge} {gd : Option (Nat × Bool)}
  (hL : aea P TL) (hm : (b, TB, ls) ∈ bs) (hx : Rg.ib l n T a0 k x (Rg.au (.pointer (some ⟨b, off, none⟩)))) (pre post : List jf) (hT : T k = Rg.au u) (he : ls = pre ++ (.v u :: post) := by rfl) (ho : oq pre = off := by rfl) (hal : al.contains k = false := by rfl) :
  Rg.Step P Q l n T (az w bs V) dz al a0 k { dst := some d, op := .load TL x, type := ty, pos := pos, after := af, guard := gd } := bap hL hal hx (fun W h => he ▸ az.box hm h) ho hT
theorem Nk {Q : Exit → Act → World → Prop} {l : List Oper} {n : Nat} {T : Nat → World → Value → Prop} {w V : World} {bs : List wh} {al : List Nat} {a0 : Act} {i d b k : Nat} {x : Operand} {TB : TypeId} {post : List jf} {f : Nat → Int} {c : Int} {ty : TypeId} {pos : String} {af : Array Edge} {gd : Option (Nat × Bool)}
  (hm : (b, TB, .k (eK f) :: post) ∈ bs) (hal : al.contains i = false) (hx : Rg.ib l n T a0 i x (Rg.au (.pointer (some ⟨b, k, none⟩)))) (hk : k < 7) (hv : f k = c) (hT : T i = Rg.au (.int .i64 c)) :
  Rg.Step Tryz.prog Q l n T (az w bs V) dz al a0 i { dst := some d, op := .load 3 x, type := ty, pos := pos, after := af, guard := gd } := by
 intro a w' hG hO hN
 have h1 := si.anw (pre := []) (az.box hm hG) hk
 rw [show oq [] + k = k from Nat.zero_add k, hv] at h1
 exact iq (P := Tryz.prog) (Hg a.eval w' (some d) x b k _ ty pos af gd h1 (hx a w' hO hN)) ⟨_, rfl, hG, Below.refl _ _, by rw [hT]; rfl, fun h => by rw [hal] at h; cases h⟩
theorem amd {Q : Exit → Act → World → Prop} {l : List Oper} {n : Nat} {T : Nat → World → Value → Prop} {w V : World} {bs : List wh} {al : List Nat} {a0 : Act} {i d b : Nat} {x : Operand} {TB : TypeId} {post : List jf} {f : Nat → Int} {ty : TypeId} {pos : String} {af : Array Edge} {gd : Option (Nat × Bool)}
  (hL : Dk Tryz.prog 42 7) (hm : (b, TB, .k (eK f) :: post) ∈ bs) (hal : al.contains i = false) (hx : Rg.ib l n T a0 i x (Rg.au (.pointer (some ⟨b, 0, none⟩)))) (hT : T i = Rg.au (aV f)) :
  Rg.Step Tryz.prog Q l n T (az w bs V) dz al a0 i { dst := some d, op := .load 42 x, type := ty, pos := pos, after := af, guard := gd } := by
 intro a w' hG hO hN
 have h1 := fun j (hj : j < 7) => si.anw (pre := []) (k := j) (az.box hm hG) hj
 have hr := hL a.eval w' (some d) x b 0 ((L7 f).map (fun n => .int .i64 n)) ty pos af gd rfl (fun j hj => by
  have h2 := h1 j hj
  rw [show oq [] + j = 0 + j from rfl] at h2
  rw [h2, List.getElem?_map, arc f hj]; rfl) (hx a w' hO hN)
 exact iq (P := Tryz.prog) hr ⟨_, rfl, hG, Below.refl _ _, by rw [hT]; rfl, fun h => by rw [hal] at h; cases h⟩
theorem auf {a : Act} {w : World} {d : Option Tmp} {x y : Operand} {b k : Nat} {ty : TypeId} {pos : String} {af : Array Edge} {gd : Option (Nat × Bool)} (hk : k < 7) (hx : a.eval x = .pointer (some ⟨b, 0, none⟩)) (hy : a.eval y = .int .i64 (k : Int)) :
  (execOp a.eval { dst := d, op := .indexAddr 42 x y, type := ty, pos := pos, after := af, guard := gd }).run Tryz.prog w = .ok (.value (.pointer (some ⟨b, k, none⟩))) w := by
 have hc : k = 0 ∨ k = 1 ∨ k = 2 ∨ k = 3 ∨ k = 4 ∨ k = 5 ∨ k = 6 := by omega
 rcases hc with rfl | rfl | rfl | rfl | rfl | rfl | rfl <;> (simp only [execOp, hx, hy]; simp [go_sem])
theorem Fp {Q : Exit → Act → World → Prop} {l : List Oper} {n : Nat} {T : Nat → World → Value → Prop} {G : World → Prop} {al : List Nat} {a0 : Act} {k d : Nat} {ty : TypeId} {pos : String} {af : Array Edge} {gd : Option (Nat × Bool)} {x y : Operand} {b : Nat} {i : Nat} (hal : al.contains i = false) (hx : Rg.ib l n T a0 i x (Rg.au (.pointer (some ⟨b, 0, none⟩)))) (hy : Rg.ib l n T a0 i y (Rg.au (.int .i64 (k : Int)))) (hk : k < 7) (hT : T i = Rg.au (.pointer (some ⟨b, k, none⟩))) :
  Rg.Step Tryz.prog Q l n T G dz al a0 i { dst := some d, op := .indexAddr 42 x y, type := ty, pos := pos, after := af, guard := gd } := by
 intro a w hG hO hN
 exact iq (P := Tryz.prog) (auf hk (hx a w hO hN) (hy a w hO hN)) ⟨_, rfl, hG, Below.refl _ _, by rw [hT]; rfl, fun h => by rw [hal] at h; cases h⟩
theorem bba {ρ : Operand → Value} {w : World} {d : Option Tmp} {x y : Operand} {f : Nat → Int} {k : Nat} {ty : TypeId} {pos : String} {af : Array Edge} {gd : Option (Nat × Bool)} (hk : k < 7) (hx : ρ x = aV f) (hy : ρ y = .int .i64 (k : Int)) :
  (execOp ρ { dst := d, op := .index 42 x y, type := ty, pos := pos, after := af, guard := gd }).run Tryz.prog w = .ok (.value (.int .i64 (f k))) w := by
 unfold aV at hx
 have hc : k = 0 ∨ k = 1 ∨ k = 2 ∨ k = 3 ∨ k = 4 ∨ k = 5 ∨ k = 6 := by omega
 rcases hc with rfl | rfl | rfl | rfl | rfl | rfl | rfl <;> (simp only [execOp, hx, hy]; simp [go_sem, Instr.index])
theorem bjf {Q : Exit → Act → World → Prop} {l : List Oper} {n : Nat} {T : Nat → World → Value → Prop} {G : World → Prop} {al : List Nat} {a0 : Act} {k d : Nat} {ty : TypeId} {pos : String} {af : Array Edge} {gd : Option (Nat × Bool)} {x y : Operand} {f : Nat → Int} {i : Nat} (hal : al.contains i = false) (hx : Rg.ib l n T a0 i x (Rg.au (aV f))) (hy : Rg.ib l n T a0 i y (Rg.au (.int .i64 (k : Int)))) (hk : k < 7) (hT : T i = Rg.au (.int .i64 (f k))) :
  Rg.Step Tryz.prog Q l n T G dz al a0 i { dst := some d, op := .index 42 x y, type := ty, pos := pos, after := af, guard := gd } := by
 intro a w hG hO hN
 exact iq (P := Tryz.prog) (bba hk (hx a w hO hN) (hy a w hO hN)) ⟨_, rfl, hG, Below.refl _ _, by rw [hT]; rfl, fun h => by rw [hal] at h; cases h⟩
theorem auj {ρ : Operand → Value} {w : World} {d : Option Tmp} {x y : Operand} {o z c : Int} {ty : TypeId} {pos : String} {af : Array Edge} {gd : Option (Nat × Bool)} (hx : ρ x = .int .i64 o) (hy : ρ y = .int .i64 z) (hw : wrap64 (o + z) = c) :
  (execOp ρ { dst := d, op := .binOp .add 3 x y 3, type := ty, pos := pos, after := af, guard := gd }).run Tryz.prog w = .ok (.value (.int .i64 c)) w := by
 have hw2 : IntKind.i64.wrap (o + z) = c := (IntWalk.i64_left _).trans hw
 simp only [execOp, hx, hy]
 simp [go_sem, Tryz.underlying3, hw, hw2]
theorem bej {Q : Exit → Act → World → Prop} {l : List Oper} {n : Nat} {T : Nat → World → Value → Prop} {G : World → Prop} {al : List Nat} {a0 : Act} {k d : Nat} {ty : TypeId} {pos : String} {af : Array Edge} {gd : Option (Nat × Bool)} {x y : Operand} {o z c : Int} (hal : al.contains k = false) (hx : Rg.ib l n T a0 k x (Rg.au (.int .i64 o))) (hy : Rg.ib l n T a0 k y (Rg.au (.int .i64 z))) (hw : wrap64 (o + z) = c) (hT : T k = Rg.au (.int .i64 c)) :
  Rg.Step Tryz.prog Q l n T G dz al a0 k { dst := some d, op := .binOp .add 3 x y 3, type := ty, pos := pos, after := af, guard := gd } := by
 intro a w hG hO hN
 exact iq (P := Tryz.prog) (auj (hx a w hO hN) (hy a w hO hN) hw) ⟨_, rfl, hG, Below.refl _ _, by rw [hT]; rfl, fun h => by rw [hal] at h; cases h⟩
theorem aud {ρ : Operand → Value} {w : World} {d : Option Tmp} {x y : Operand} {o z c : Int} {ty : TypeId} {pos : String} {af : Array Edge} {gd : Option (Nat × Bool)} (hx : ρ x = .int .i64 o) (hy : ρ y = .int .i64 z) (hw : wrap64 (o * z) = c) :
  (execOp ρ { dst := d, op := .binOp .mul 3 x y 3, type := ty, pos := pos, after := af, guard := gd }).run Tryz.prog w = .ok (.value (.int .i64 c)) w := by
 have hw2 : IntKind.i64.wrap (o * z) = c := (IntWalk.i64_left _).trans hw
 simp only [execOp, hx, hy]
 simp [go_sem, Tryz.underlying3, hw, hw2]
theorem apm {Q : Exit → Act → World → Prop} {l : List Oper} {n : Nat} {T : Nat → World → Value → Prop} {G : World → Prop} {al : List Nat} {a0 : Act} {k d : Nat} {ty : TypeId} {pos : String} {af : Array Edge} {gd : Option (Nat × Bool)} {x y : Operand} {o z c : Int} (hal : al.contains k = false) (hx : Rg.ib l n T a0 k x (Rg.au (.int .i64 o))) (hy : Rg.ib l n T a0 k y (Rg.au (.int .i64 z))) (hw : wrap64 (o * z) = c) (hT : T k = Rg.au (.int .i64 c)) :
  Rg.Step Tryz.prog Q l n T G dz al a0 k { dst := some d, op := .binOp .mul 3 x y 3, type := ty, pos := pos, after := af, guard := gd } := by
 intro a w hG hO hN
 exact iq (P := Tryz.prog) (aud (hx a w hO hN) (hy a w hO hN) hw) ⟨_, rfl, hG, Below.refl _ _, by rw [hT]; rfl, fun h => by rw [hal] at h; cases h⟩
theorem Bt : Dk Tryz.prog 44 9 := by
 intro ρ w d x b off us ty pos af gd hl hc hx
 match us, hl with
 | [u0, u1, u2, u3, u4, u5, u6, u7, u8], _ =>
 have k0 : w.cell? ⟨b, off, none⟩ = some u0 := hc 0 om
 have k1 : w.cell? ⟨b, off + 1, none⟩ = some u1 := hc 1 om
 have k2 : w.cell? ⟨b, off + 2, none⟩ = some u2 := hc 2 om
 have k3 : w.cell? ⟨b, off + 3, none⟩ = some u3 := hc 3 om
 have k4 : w.cell? ⟨b, off + 4, none⟩ = some u4 := hc 4 om
 have k5 : w.cell? ⟨b, off + 5, none⟩ = some u5 := hc 5 om
 have k6 : w.cell? ⟨b, off + 6, none⟩ = some u6 := hc 6 om
 have k7 : w.cell? ⟨b, off + 7, none⟩ = some u7 := hc 7 om
 have k8 : w.cell? ⟨b, off + 8, none⟩ = some u8 := hc 8 om
 clear hc
 simp only [execOp, hx]
 simp [go_sem, k0, k1, k2, k3, k4, k5, k6, k7, k8]
theorem Bo : zh Tryz.prog 44 9 := by
 intro ρ w d p x b off cs TB us ty pos af gd hl hu hb ho hp hx
 match us, hl with
 | [u0, u1, u2, u3, u4, u5, u6, u7, u8], _ =>
 have o0 := hu u0 (by simp)
 have o1 := hu u1 (by simp)
 have o2 := hu u2 (by simp)
 have o3 := hu u3 (by simp)
 have o4 := hu u4 (by simp)
 have o5 := hu u5 (by simp)
 have o6 := hu u6 (by simp)
 have o7 := hu u7 (by simp)
 have o8 := hu u8 (by simp)
 have f0 : w.frozen? ⟨b, off, none⟩ = false := ai hb _
 have f1 : w.frozen? ⟨b, off + 1, none⟩ = false := ai hb _
 have f2 : w.frozen? ⟨b, off + 2, none⟩ = false := ai hb _
 have f3 : w.frozen? ⟨b, off + 3, none⟩ = false := ai hb _
 have f4 : w.frozen? ⟨b, off + 4, none⟩ = false := ai hb _
 have f5 : w.frozen? ⟨b, off + 5, none⟩ = false := ai hb _
 have f6 : w.frozen? ⟨b, off + 6, none⟩ = false := ai hb _
 have f7 : w.frozen? ⟨b, off + 7, none⟩ = false := ai hb _
 have f8 : w.frozen? ⟨b, off + 8, none⟩ = false := ai hb _
 obtain ⟨c0, k0⟩ : ∃ c, w.cell? ⟨b, off, none⟩ = some c := jk hb om
 obtain ⟨c1, k1⟩ : ∃ c, w.cell? ⟨b, off + 1, none⟩ = some c := jk hb om
 obtain ⟨c2, k2⟩ : ∃ c, w.cell? ⟨b, off + 2, none⟩ = some c := jk hb om
 obtain ⟨c3, k3⟩ : ∃ c, w.cell? ⟨b, off + 3, none⟩ = some c := jk hb om
 obtain ⟨c4, k4⟩ : ∃ c, w.cell? ⟨b, off + 4, none⟩ = some c := jk hb om
 obtain ⟨c5, k5⟩ : ∃ c, w.cell? ⟨b, off + 5, none⟩ = some c := jk hb om
 obtain ⟨c6, k6⟩ : ∃ c, w.cell? ⟨b, off + 6, none⟩ = some c := jk hb om
 obtain ⟨c7, k7⟩ : ∃ c, w.cell? ⟨b, off + 7, none⟩ = some c := jk hb om
 obtain ⟨c8, k8⟩ : ∃ c, w.cell? ⟨b, off + 8, none⟩ = some c := jk hb om
 have hlt := lt_of_block hb
 clear hb ho hu
 simp only [execOp, hp, hx, setM]
 simp [go_sem, hlt, run_store _ _ _ _ _ o0, o0, run_store _ _ _ _ _ o1, o1, run_store _ _ _ _ _ o2, o2, run_store _ _ _ _ _ o3, o3, run_store _ _ _ _ _ o4, o4, run_store _ _ _ _ _ o5, o5, run_store _ _ _ _ _ o6, o6, run_store _ _ _ _ _ o7, o7, run_store _ _ _ _ _ o8, o8, k0, k1, k2, k3, k4, k5, k6, k7, k8, f0, f1, f2, f3, f4, f5, f6, f7, f8]
theorem Re : Jy Tryz.prog 44 [.int .i64 0, .int .i64 0, .int .i64 0, .int .i64 0, .int .i64 0, .int .i64 0, .int .i64 0, .int .i64 0, .int .i64 0] := by
 intro ρ w d ty pos af gd
 simp only [execOp]
 simp [go_sem]
theorem Ps : Oj Tryz.prog 44 9 := by
 intro w b off us hl hc
 match us, hl with
 | [u0, u1, u2, u3, u4, u5, u6, u7, u8], _ =>
 have k0 : w.cell? ⟨b, off, none⟩ = some u0 := hc 0 om
 have k1 : w.cell? ⟨b, off + 1, none⟩ = some u1 := hc 1 om
 have k2 : w.cell? ⟨b, off + 2, none⟩ = some u2 := hc 2 om
 have k3 : w.cell? ⟨b, off + 3, none⟩ = some u3 := hc 3 om
 have k4 : w.cell? ⟨b, off + 4, none⟩ = some u4 := hc 4 om
 have k5 : w.cell? ⟨b, off + 5, none⟩ = some u5 := hc 5 om
 have k6 : w.cell? ⟨b, off + 6, none⟩ = some u6 := hc 6 om
 have k7 : w.cell? ⟨b, off + 7, none⟩ = some u7 := hc 7 om
 have k8 : w.cell? ⟨b, off + 8, none⟩ = some u8 := hc 8 om
 clear hc
 simp [go_sem, k0, k1, k2, k3, k4, k5, k6, k7, k8]
theorem Pt : Dk Tryz.prog 118 13 := by
 intro ρ w d x b off us ty pos af gd hl hc hx
 match us, hl with
 | [u0, u1, u2, u3, u4, u5, u6, u7, u8, u9, u10, u11, u12], _ =>
 have k0 : w.cell? ⟨b, off, none⟩ = some u0 := hc 0 om
 have k1 : w.cell? ⟨b, off + 1, none⟩ = some u1 := hc 1 om
 have k2 : w.cell? ⟨b, off + 2, none⟩ = some u2 := hc 2 om
 have k3 : w.cell? ⟨b, off + 3, none⟩ = some u3 := hc 3 om
 have k4 : w.cell? ⟨b, off + 4, none⟩ = some u4 := hc 4 om
 have k5 : w.cell? ⟨b, off + 5, none⟩ = some u5 := hc 5 om
 have k6 : w.cell? ⟨b, off + 6, none⟩ = some u6 := hc 6 om
 have k7 : w.cell? ⟨b, off + 7, none⟩ = some u7 := hc 7 om
 have k8 : w.cell? ⟨b, off + 8, none⟩ = some u8 := hc 8 om
 have k9 : w.cell? ⟨b, off + 9, none⟩ = some u9 := hc 9 om
 have k10 : w.cell? ⟨b, off + 10, none⟩ = some u10 := hc 10 om
 have k11 : w.cell? ⟨b, off + 11, none⟩ = some u11 := hc 11 om
 have k12 : w.cell? ⟨b, off + 12, none⟩ = some u12 := hc 12 om
 clear hc
 simp only [execOp, hx]
 simp [go_sem, k0, k1, k2, k3, k4, k5, k6, k7, k8, k9, k10, k11, k12]
theorem Au : zh Tryz.prog 118 13 := by
 intro ρ w d p x b off cs TB us ty pos af gd hl hu hb ho hp hx
 match us, hl with
 | [u0, u1, u2, u3, u4, u5, u6, u7, u8, u9, u10, u11, u12], _ =>
 have o0 := hu u0 (by simp)
 have o1 := hu u1 (by simp)
 have o2 := hu u2 (by simp)
 have o3 := hu u3 (by simp)
 have o4 := hu u4 (by simp)
 have o5 := hu u5 (by simp)
 have o6 := hu u6 (by simp)
 have o7 := hu u7 (by simp)
 have o8 := hu u8 (by simp)
 have o9 := hu u9 (by simp)
 have o10 := hu u10 (by simp)
 have o11 := hu u11 (by simp)
 have o12 := hu u12 (by simp)
 have f0 : w.frozen? ⟨b, off, none⟩ = false := ai hb _
 have f1 : w.frozen? ⟨b, off + 1, none⟩ = false := ai hb _
 have f2 : w.frozen? ⟨b, off + 2, none⟩ = false := ai hb _
 have f3 : w.frozen? ⟨b, off + 3, none⟩ = false := ai hb _
 have f4 : w.frozen? ⟨b, off + 4, none⟩ = false := ai hb _
 have f5 : w.frozen? ⟨b, off + 5, none⟩ = false := ai hb _
 have f6 : w.frozen? ⟨b, off + 6, none⟩ = false := ai hb _
 have f7 : w.frozen? ⟨b, off + 7, none⟩ = false := ai hb _
 have f8 : w.frozen? ⟨b, off + 8, none⟩ = false := ai hb _
 have f9 : w.frozen? ⟨b, off + 9, none⟩ = false := ai hb _
 have f10 : w.frozen? ⟨b, off + 10, none⟩ = false := ai hb _
 have f11 : w.frozen? ⟨b, off + 11, none⟩ = false := ai hb _
 have f12 : w.frozen? ⟨b, off + 12, none⟩ = false := ai hb _
 obtain ⟨c0, k0⟩ : ∃ c, w.cell? ⟨b, off, none⟩ = some c := jk hb om
 obtain ⟨c1, k1⟩ : ∃ c, w.cell? ⟨b, off + 1, none⟩ = some c := jk hb om
 obtain ⟨c2, k2⟩ : ∃ c, w.cell? ⟨b, off + 2, none⟩ = some c := jk hb om
 obtain ⟨c3, k3⟩ : ∃ c, w.cell? ⟨b, off + 3, none⟩ = some c := jk hb om
 obtain ⟨c4, k4⟩ : ∃ c, w.cell? ⟨b, off + 4, none⟩ = some c := jk hb om
 obtain ⟨c5, k5⟩ : ∃ c, w.cell? ⟨b, off + 5, none⟩ = some c := jk hb om
 obtain ⟨c6, k6⟩ : ∃ c, w.cell? ⟨b, off + 6, none⟩ = some c := jk hb om
 obtain ⟨c7, k7⟩ : ∃ c, w.cell? ⟨b, off + 7, none⟩ = some c := jk hb om
 obtain ⟨c8, k8⟩ : ∃ c, w.cell? ⟨b, off + 8, none⟩ = some c := jk hb om
 obtain ⟨c9, k9⟩ : ∃ c, w.cell? ⟨b, off + 9, none⟩ = some c := jk hb om
 obtain ⟨c10, k10⟩ : ∃ c, w.cell? ⟨b, off + 10, none⟩ = some c := jk hb om
 obtain ⟨c11, k11⟩ : ∃ c, w.cell? ⟨b, off + 11, none⟩ = some c := jk hb om
 obtain ⟨c12, k12⟩ : ∃ c, w.cell? ⟨b, off + 12, none⟩ = some c := jk hb om
 have hlt := lt_of_block hb
 clear hb ho hu
 simp only [execOp, hp, hx, setM]
 simp [go_sem, hlt, run_store _ _ _ _ _ o0, o0, run_store _ _ _ _ _ o1, o1, run_store _ _ _ _ _ o2, o2, run_store _ _ _ _ _ o3, o3, run_store _ _ _ _ _ o4, o4, run_store _ _ _ _ _ o5, o5, run_store _ _ _ _ _ o6, o6, run_store _ _ _ _ _ o7, o7, run_store _ _ _ _ _ o8, o8, run_store _ _ _ _ _ o9, o9, run_store _ _ _ _ _ o10, o10, run_store _ _ _ _ _ o11, o11, run_store _ _ _ _ _ o12, o12, k0, k1, k2, k3, k4, k5, k6, k7, k8, k9, k10, k11, k12, f0, f1, f2, f3, f4, f5, f6, f7, f8, f9, f10, f11, f12]
theorem adu : Jy Tryz.prog 118 [.int .i64 0, .int .i64 0, .int .i64 0, .int .i64 0, .int .i64 0, .int .i64 0, .int .i64 0, .int .i64 0, .bool false, .slice none 0 0, .int .i64 0, .bool false, .slice none 0 0] := by
 intro ρ w d ty pos af gd
 simp only [execOp]
 simp [go_sem]
theorem Hf : Oj Tryz.prog 118 13 := by
 intro w b off us hl hc
 match us, hl with
 | [u0, u1, u2, u3, u4, u5, u6, u7, u8, u9, u10, u11, u12], _ =>
 have k0 : w.cell? ⟨b, off, none⟩ = some u0 := hc 0 om
 have k1 : w.cell? ⟨b, off + 1, none⟩ = some u1 := hc 1 om
 have k2 : w.cell? ⟨b, off + 2, none⟩ = some u2 := hc 2 om
 have k3 : w.cell? ⟨b, off + 3, none⟩ = some u3 := hc 3 om
 have k4 : w.cell? ⟨b, off + 4, none⟩ = some u4 := hc 4 om
 have k5 : w.cell? ⟨b, off + 5, none⟩ = some u5 := hc 5 om
 have k6 : w.cell? ⟨b, off + 6, none⟩ = some u6 := hc 6 om
 have k7 : w.cell? ⟨b, off + 7, none⟩ = some u7 := hc 7 om
 have k8 : w.cell? ⟨b, off + 8, none⟩ = some u8 := hc 8 om
 have k9 : w.cell? ⟨b, off + 9, none⟩ = some u9 := hc 9 om
 have k10 : w.cell? ⟨b, off + 10, none⟩ = some u10 := hc 10 om
 have k11 : w.cell? ⟨b, off + 11, none⟩ = some u11 := hc 11 om
 have k12 : w.cell? ⟨b, off + 12, none⟩ = some u12 := hc 12 om
 clear hc
 simp [go_sem, k0, k1, k2, k3, k4, k5, k6, k7, k8, k9, k10, k11, k12]
theorem Bu : Dk Tryz.prog 42 7 := by
 intro ρ w d x b off us ty pos af gd hl hc hx
 match us, hl with
 | [u0, u1, u2, u3, u4, u5, u6], _ =>
 have k0 : w.cell? ⟨b, off, none⟩ = some u0 := hc 0 om
 have k1 : w.cell? ⟨b, off + 1, none⟩ = some u1 := hc 1 om
 have k2 : w.cell? ⟨b, off + 2, none⟩ = some u2 := hc 2 om
 have k3 : w.cell? ⟨b, off + 3, none⟩ = some u3 := hc 3 om
 have k4 : w.cell? ⟨b, off + 4, none⟩ = some u4 := hc 4 om
 have k5 : w.cell? ⟨b, off + 5, none⟩ = some u5 := hc 5 om
 have k6 : w.cell? ⟨b, off + 6, none⟩ = some u6 := hc 6 om
 clear hc
 simp only [execOp, hx]
 simp [go_sem, k0, k1, k2, k3, k4, k5, k6]
theorem axb : ais Tryz.prog 44 [.int .i64 0, .int .i64 0, .int .i64 0, .int .i64 0, .int .i64 0, .int .i64 0, .int .i64 0, .int .i64 0, .int .i64 0] := by
 intro ρ w d ty pos af gd
 simp only [execOp]
 simp [go_sem]
 try rfl
theorem akz : Ut Tryz.prog 44 7 2 := by
 intro ρ w d x y us vs ty pos af gd h1 h2 e1 e2
 match us, h1, vs, h2 with
 | [u0, u1, u2, u3, u4, u5, u6], _, [v0, v1], _ =>
 simp only [execOp]
 simp [go_sem, e1, e2]
 try rfl
theorem bcq : Ut Tryz.prog 118 7 6 := by
 intro ρ w d x y us vs ty pos af gd h1 h2 e1 e2
 match us, h1, vs, h2 with
 | [u0, u1, u2, u3, u4, u5, u6], _, [v0, v1, v2, v3, v4, v5], _ =>
 simp only [execOp]
 simp [go_sem, e1, e2]
 try rfl
theorem bcw : Eu Tryz.prog (fun x => .fieldAddr 44 x 0) 0 := by
 intro a w d x b off ty pos af gd hx
 have hc : ∀ v, a.eval (.const v) = v := fun _ => rfl
 simp only [execOp, hx, hc]
 simp [go_sem]
theorem vw {Q : Exit → Act → World → Prop} {l : List Oper} {n : Nat} {T : Nat → World → Value → Prop} {G : World → Prop} {al : List Nat} {a0 : Act} {k d : Nat} {ty : TypeId} {pos : String} {af : Array Edge} {gd : Option (Nat × Bool)} {b off off' : Nat} {x : Operand} (hal : al.contains k = false) (hx : Rg.ib l n T a0 k x (Rg.au (.pointer (some ⟨b, off, none⟩)))) (ho : off + 0 = off') (hT : T k = Rg.au (.pointer (some ⟨b, off', none⟩))) :
  Rg.Step Tryz.prog Q l n T G dz al a0 k { dst := some d, op := .fieldAddr 44 x 0, type := ty, pos := pos, after := af, guard := gd } := by
 exact Fq (P := Tryz.prog) (o := fun x => .fieldAddr 44 x 0) bcw hal hx ho hT
theorem bcv : Eu Tryz.prog (fun x => .fieldAddr 44 x 1) 7 := by
 intro a w d x b off ty pos af gd hx
 have hc : ∀ v, a.eval (.const v) = v := fun _ => rfl
 simp only [execOp, hx, hc]
 simp [go_sem]
theorem tq {Q : Exit → Act → World → Prop} {l : List Oper} {n : Nat} {T : Nat → World → Value → Prop} {G : World → Prop} {al : List Nat} {a0 : Act} {k d : Nat} {ty : TypeId} {pos : String} {af : Array Edge} {gd : Option (Nat × Bool)} {b off off' : Nat} {x : Operand} (hal : al.contains k = false) (hx : Rg.ib l n T a0 k x (Rg.au (.pointer (some ⟨b, off, none⟩)))) (ho : off + 7 = off') (hT : T k = Rg.au (.pointer (some ⟨b, off', none⟩))) :
  Rg.Step Tryz.prog Q l n T G dz al a0 k { dst := some d, op := .fieldAddr 44 x 1, type := ty, pos := pos, after := af, guard := gd } := by
 exact Fq (P := Tryz.prog) (o := fun x => .fieldAddr 44 x 1) bcv hal hx ho hT
theorem bdb : Eu Tryz.prog (fun x => .fieldAddr 118 x 0) 0 := by
 intro a w d x b off ty pos af gd hx
 have hc : ∀ v, a.eval (.const v) = v := fun _ => rfl
 simp only [execOp, hx, hc]
 simp [go_sem]
theorem Br {Q : Exit → Act → World → Prop} {l : List Oper} {n : Nat} {T : Nat → World → Value → Prop} {G : World → Prop} {al : List Nat} {a0 : Act} {k d : Nat} {ty : TypeId} {pos : String} {af : Array Edge} {gd : Option (Nat × Bool)} {b off off' : Nat} {x : Operand} (hal : al.contains k = false) (hx : Rg.ib l n T a0 k x (Rg.au (.pointer (some ⟨b, off, none⟩)))) (ho : off + 0 = off') (hT : T k = Rg.au (.pointer (some ⟨b, off', none⟩))) :
  Rg.Step Tryz.prog Q l n T G dz al a0 k { dst := some d, op := .fieldAddr 118 x 0, type := ty, pos := pos, after := af, guard := gd } := by
 exact Fq (P := Tryz.prog) (o := fun x => .fieldAddr 118 x 0) bdb hal hx ho hT
theorem bda : Eu Tryz.prog (fun x => .fieldAddr 118 x 1) 7 := by
 intro a w d x b off ty pos af gd hx
 have hc : ∀ v, a.eval (.const v) = v := fun _ => rfl
 simp only [execOp, hx, hc]
 simp [go_sem]
theorem Ei {Q : Exit → Act → World → Prop} {l : List Oper} {n : Nat} {T : Nat → World → Value → Prop} {G : World → Prop} {al : List Nat} {a0 : Act} {k d : Nat} {ty : TypeId} {pos : String} {af : Array Edge} {gd : Option (Nat × Bool)} {b off off' : Nat} {x : Operand} (hal : al.contains k = false) (hx : Rg.ib l n T a0 k x (Rg.au (.pointer (some ⟨b, off, none⟩)))) (ho : off + 7 = off') (hT : T k = Rg.au (.pointer (some ⟨b, off', none⟩))) :
  Rg.Step Tryz.prog Q l n T G dz al a0 k { dst := some d, op := .fieldAddr 118 x 1, type := ty, pos := pos, after := af, guard := gd } := by
 exact Fq (P := Tryz.prog) (o := fun x => .fieldAddr 118 x 1) bda hal hx ho hT
theorem bav {ρ : Operand → Value} {w : World} {d : Option Tmp} {p x : Operand} {b off : Nat} {cs : List Value} {TB : TypeId} {v : Int} {ty : TypeId} {pos : String} {af : Array Edge} {gd : Option (Nat × Bool)} (hb : w.heap[b]? = some (.cells cs.toArray TB (0, 0))) (ho : off < cs.length) (hp : ρ p = .pointer (some ⟨b, off, none⟩)) (hx : ρ x = .int .i64 v) :
  (execOp ρ { dst := d, op := .store 3 p x, type := ty, pos := pos, after := af, guard := gd }).run Tryz.prog w = .ok .skip (setM w b off [.int .i64 v]) := by
 have f0 : w.frozen? ⟨b, off, none⟩ = false := ai hb _
 obtain ⟨c0, k0⟩ : ∃ c, w.cell? ⟨b, off, none⟩ = some c := jk hb ho
 have hlt := lt_of_block hb
 clear hb ho
 simp only [execOp, hp, hx, setM]
 simp [go_sem, hlt, k0, f0]
theorem aoy {ops : Array Oper} {Q : Exit → Act → World → Prop} {rest : List Oper} {a : Act} {w0 w : World} {TB : TypeId} {p x : Operand} {b k : Nat} {f g : Nat → Int} {v : Int} {bs : List wh} {ty : TypeId} {pos : String} {af : Array Edge} (hO : Own w0 bs w) (i : Nat) (post : List jf)
  (hi : bs[i]? = some (b, TB, .k (eK f) :: post)) (hk : k < 7) (hp : a.eval p = .pointer (some ⟨b, k, none⟩)) (hv : a.eval x = .int .i64 v) (hg : ∀ j, j < 7 → (if j = k then v else f j) = g j)
  (hk2 : ∀ w', Own w0 (bs.set i (b, TB, .k (eK g) :: post)) w' → (∀ ks u, ax ks w u → ax ks w' u) → wpList Tryz.prog ops Q rest a w') :
  wpList Tryz.prog ops Q ({ dst := none, op := .store 3 p x, type := ty, pos := pos, after := af, guard := none } :: rest) a w := by
 obtain ⟨hlt, he⟩ := List.getElem?_eq_some_iff.1 hi
 have hbs : bs = bs.take i ++ (b, TB, .k (eK f) :: post) :: bs.drop (i + 1) := by
  rw [← he, ← List.drop_eq_getElem_cons hlt, List.take_append_drop]
 have hset : bs.set i (b, TB, .k (eK g) :: post) = bs.take i ++ (b, TB, .k (eK g) :: post) :: bs.drop (i + 1) := List.set_eq_take_append_cons_drop .. |>.trans (if_pos hlt)
 rw [hset] at hk2
 rw [hbs] at hO
 have hbx := hO.box b TB _ (List.mem_append_right _ List.mem_cons_self)
 obtain ⟨hge, cs, hb, hls⟩ := hbx
 have hlen : 7 ≤ cs.length := by
  have h1 := hls.len
  rw [h1]
  show 7 ≤ 7 + oq post
  omega
 unfold wpList
 rw [if_pos (by simp [Region.wanted])]
 refine .inl ?_
 unfold Oper.wp
 rw [bav hb om hp hv]
 exact hk2 _ (hO.bnc hk hg) (fun ks u h => abt ⟨cs, hb, hls⟩ h)
theorem atv {Q : Exit → Act → World → Prop} {l : List Oper} {n : Nat} {T : Nat → World → Value → Prop} {G : World → Prop} {al : List Nat} {a0 : Act} {k d : Nat} {ty : TypeId} {pos : String} {af : Array Edge} {gd : Option (Nat × Bool)} (hal : al.contains k = false) (hT : T k = ax [.k (eK z7), .v (.int .i64 0), .v (.int .i64 0)]) :
  Rg.Step Tryz.prog Q l n T G dz al a0 k { dst := some d, op := .build 44 #[], type := ty, pos := pos, after := af, guard := gd } := by
 intro a w hG hO hN
 exact iq (P := Tryz.prog) (axb a.eval w (some d) ty pos af gd) ⟨_, rfl, hG, Below.refl _ _, by rw [hT]; exact ⟨_, rfl, fu.e (f := z7) (fu.v (lh _) (fu.v (lh _) rfl))⟩, fun h => by rw [hal] at h; cases h⟩
theorem apo {Q : Exit → Act → World → Prop} {l : List Oper} {n : Nat} {T : Nat → World → Value → Prop} {G : World → Prop} {al : List Nat} {a0 : Act} {k d : Nat} {ty : TypeId} {pos : String} {af : Array Edge} {gd : Option (Nat × Bool)} {b i m : Nat} {x y : Operand} (hal : al.contains k = false) (hx : Rg.ib l n T a0 k x (Rg.au (.slice (some ⟨b, 0, none⟩) m m))) (hy : Rg.ib l n T a0 k y (Rg.au (.int .i64 (i : Int)))) (hi : i < m) (hT : T k = Rg.au (.pointer (some ⟨b, 1 * i, none⟩))) :
  Rg.Step Tryz.prog Q l n T G dz al a0 k { dst := some d, op := .indexAddr 37 x y, type := ty, pos := pos, after := af, guard := gd } := by
 intro a w hG hO hN
 have h1 := hx a w hO hN
 have h2 := hy a w hO hN
 have hr : (execOp a.eval { dst := some d, op := .indexAddr 37 x y, type := ty, pos := pos, after := af, guard := gd }).run Tryz.prog w = .ok (.value (.pointer (some ⟨b, 1 * i, none⟩))) w := by
  have h1' : a.eval x = .slice (some ⟨b, 0, none⟩) m m := h1
  have h2' : a.eval y = .int .i64 (i : Int) := h2
  simp only [execOp, h1', h2']
  simp [go_sem, hi, Nat.mul_comm]
 exact iq (P := Tryz.prog) hr ⟨_, rfl, hG, Below.refl _ _, by rw [hT]; rfl, fun h => by rw [hal] at h; cases h⟩
theorem aex {P : Program} {Q : Exit → Act → World → Prop} {l : List Oper} {n : Nat} {T : Nat → World → Value → Prop} {G : World → Prop} {al : List Nat} {a0 : Act} {k d : Nat} {ty : TypeId} {pos : String} {af : Array Edge} {gd : Option (Nat × Bool)} {F : Nat} {fn : Func} {f x1 : Operand} {A1 : World → Value → Prop} {ats : Array TypeId}
  (hF : P.funcs[F]? = some fn) (hn : (!(fn.name == "runtime.NumGoroutine") && fn.body.isSome) = true) (hal : al.contains k = false) (Fx : ∀ W W', G W → dz W W' → G W') (hf : Rg.ib l n T a0 k f (Rg.au (.func (.func F) #[] #[]))) (h1 : Rg.ib l n T a0 k x1 A1)
  (hc : ∀ (W : World) (v1 : Value), G W → A1 W v1 → Calls P F #[v1] W fun e w' => ∃ u, e = .returned u ∧ dz W w' ∧ T k w' u) :
  Rg.Step P Q l n T G dz al a0 k { dst := some d, op := .call { callee := .value f, args := #[x1], argTypes := ats }, type := ty, pos := pos, after := af, guard := gd } := by
 intro a w hG hO hN
 refine Je (apw (Dt hF hn) (hf a w hO hN)) ?_
 simp only [List.map_toArray, List.map_cons, List.map_nil]
 refine (hc w (a.eval x1) hG (h1 a w hO hN)).mono ?_
 rintro e w' ⟨u, rfl, hb, ht⟩
 exact ⟨u, rfl, u, rfl, Fx _ _ hG hb, hb, ht, fun h => by rw [hal] at h; cases h⟩
theorem axv {Q : Exit → Act → World → Prop} {l : List Oper} {n : Nat} {T : Nat → World → Value → Prop} {G : World → Prop} {al : List Nat} {a0 : Act} {k d : Nat} {ty : TypeId} {pos : String} {af : Array Edge} {gd : Option (Nat × Bool)} {x : Operand} {TB : TypeId} {post : List jf} {f : Nat → Int} {b i : Nat}
  (hb : ∀ W, G W → si W b TB (.k (eK f) :: post)) (hal : al.contains i = false) (hx : Rg.ib l n T a0 i x (Rg.au (.pointer (some ⟨b, k, none⟩)))) (hk : k < 7) (hT : T i = Rg.au (.int .i64 (f k))) :
  Rg.Step Tryz.prog Q l n T G dz al a0 i { dst := some d, op := .load 3 x, type := ty, pos := pos, after := af, guard := gd } := by
 intro a w' hG hO hN
 have h1 := si.anw (pre := []) (hb w' hG) hk
 rw [show oq [] + k = k from Nat.zero_add k] at h1
 exact iq (P := Tryz.prog) (Hg a.eval w' (some d) x b k _ ty pos af gd h1 (hx a w' hO hN)) ⟨_, rfl, hG, Below.refl _ _, by rw [hT]; rfl, fun h => by rw [hal] at h; cases h⟩
theorem atx {Q : Exit → Act → World → Prop} {l : List Oper} {n : Nat} {T : Nat → World → Value → Prop} {G : World → Prop} {al : List Nat} {a0 : Act} {k d : Nat} {ty : TypeId} {pos : String} {af : Array Edge} {gd : Option (Nat × Bool)} {x : Operand} {b : Nat} {TB : TypeId} {post : List jf} {f : Nat → Int} (hb : ∀ W, G W → si W b TB (.k (eK f) :: post)) (hal : al.contains k = false) (hx : Rg.ib l n T a0 k x (Rg.au (.pointer (some ⟨b, 0, none⟩)))) (hT : T k = Rg.au (.slice (some ⟨b, 0, none⟩) 7 7)) :
  Rg.Step Tryz.prog Q l n T G dz al a0 k { dst := some d, op := .slice 42 x none none none, type := ty, pos := pos, after := af, guard := gd } := by
 intro a w' hG hO hN
 have hr : (execOp a.eval { dst := some d, op := .slice 42 x none none none, type := ty, pos := pos, after := af, guard := gd }).run Tryz.prog w' = .ok (.value (.slice (some ⟨b, 0, none⟩) 7 7)) w' := by
  have hx' : a.eval x = .pointer (some ⟨b, 0, none⟩) := hx a w' hO hN
  simp only [execOp, hx']
  simp [go_sem, Instr.sliceAt, Instr.sliceBounds]
 exact iq (P := Tryz.prog) hr ⟨_, rfl, hG, Below.refl _ _, by rw [hT]; rfl, fun h => by rw [hal] at h; cases h⟩
end Sb


namespace Sb
theorem _root_.Go.Proofs.YtfgeaakhlcaibaaGreatDoor.aT {l : List Oper} {n : Nat} {T : Nat → World → Value → Prop} {a0 : Act} {k : Nat} {t : Tmp} (j : Nat) (h : Rg.waits l k j t = true := by kernel_rfl) : Rg.ib l n T a0 k (.tmp t) (T j) := Rg.boz j h
theorem _root_.Go.Proofs.YtfgeaakhlcaibaaGreatDoor.aF {l : List Oper} {n : Nat} {T : Nat → World → Value → Prop} {a0 : Act} {k : Nat} {t : Tmp} {c : Value} (h : Rg.Ez l n t = true := by kernel_rfl) (hc : a0.tmps.getD t undef = c := by rfl) : Rg.ib l n T a0 k (.tmp t) (Rg.au c) := Rg.bpa h hc
theorem _root_.Go.Proofs.YtfgeaakhlcaibaaGreatDoor.sc2 {P : Program} {Q : Exit → Act → World → Prop} {l : List Oper} {n : Nat} {T : Nat → World → Value → Prop} {w V : World} {bs : List Sb.wh} {al : List Nat} {a0 : Act} {k F d : Nat} {fn : Func} {ats : Array TypeId} {ty : TypeId} {pos : String} {af : Array Edge} {gd : Option (Nat × Bool)} {x1 x2 : Operand} {A1 A2 : World → Value → Prop} (hF : P.funcs[F]? = some fn) (h1 : Rg.ib l n T a0 k x1 A1) (h2 : Rg.ib l n T a0 k x2 A2) (hc : ∀ (W : World) (v1 v2 : Value), Sb.az w bs V W → A1 W v1 → A2 W v2 → Calls P F #[v1, v2] W fun e w' => ∃ u, e = .returned u ∧ dz W w' ∧ T k w' u) (hn : (!(fn.name == "runtime.NumGoroutine") && fn.body.isSome) = true := by kernel_rfl) (hal : al.contains k = false := by rfl) :
  Rg.Step P Q l n T (Sb.az w bs V) dz al a0 k { dst := some d, op := .call { callee := .value (.func F), args := #[x1, x2], argTypes := ats }, type := ty, pos := pos, after := af, guard := gd } := Gz hF hn hal Sb.az.step h1 h2 hc
theorem _root_.Go.Proofs.YtfgeaakhlcaibaaGreatDoor.tA : (∀ {α : Type} {n : Nat} {a : α} {l : List α}, (a :: l).take (n + 1) = a :: l.take n) ∧ (∀ {α : Type} {l : List α}, l.take 0 = []) ∧ (∀ {α : Type} {n : Nat} {a : α} {l : List α}, (a :: l).drop (n + 1) = l.drop n) ∧ (∀ {α : Type} {l : List α}, l.drop 0 = l) ∧ (∀ {α : Type} {l : List α} {n : Nat} {a : α}, l.toArray.setIfInBounds n a = (l.set n a).toArray) ∧ (∀ {α : Type} {x a : α} {l : List α}, (x :: l).set 0 a = a :: l) ∧ (∀ {α : Type} {x a : α} {l : List α} {n : Nat}, (x :: l).set (n + 1) a = x :: l.set n a) := ⟨Sb.ta0, Sb.ta1, Sb.ta2, Sb.ta3, Sb.ta4, Sb.ta5, Sb.ta6⟩
theorem aqe {xn xd yn yd g h a1 b1 n a2 b2 d : Int} (w : World) (u0 : Value) (h0 : ax [.z xn, .z xd] w u0) (u1 : Value) (h1 : ax [.z yn, .z yd] w u1)
  (hg1 : Bj w 164 xn yd g)
  (hg2 : Bj w 164 yn xd h)
  (ha1 : Bj w 165 xn g a1)
  (hb1 : Bj w 165 yn h b1)
  (hm1 : Bj w 147 a1 b1 n)
  (ha2 : Bj w 165 xd h a2)
  (hb2 : Bj w 165 yd g b2)
  (hm2 : Bj w 147 a2 b2 d) :
  Calls Tryz.prog 108 #[u0, u1] w (ic (ax [.z n, .z d]) w) := by
 have Ff := hide hg1
 have HG2 := hide hg2
 have HA1 := hide ha1
 have HB1 := hide hb1
 have HM1 := hide hm1
 have HA2 := hide ha2
 have HB2 := hide hb2
 have HM2 := hide hm2
 clear hg1 hg2 ha1 hb1 hm1 ha2 hb2 hm2
 obtain ⟨Hu, Ia, Gb, c0a, Fv, Ke, Ki, Iz, c0b, Ic, rfl, f0a, Ik⟩ := Mx h0
 obtain ⟨Nn, Ze, Dn, c1a, Df, Nl, n1b, Dm, Dh, De, rfl, f1a, Ug⟩ := Mx h1
 go_enter Tryz.func108, Tryz.ntmps108
 go_upto_region 1 with fail
 have hO := (Own.push (T := 79) (ls := zQ) (Own.push (T := 79) (ls := [.z yn, .z yd]) (Own.push (T := 79) (ls := [.z xn, .z xd]) (Own.nil w) (fu.z f0a (fu.z Ik rfl)) (w.heap.size) rfl) (fu.below (by repeat (first | exact Below.refl _ _ | refine ig ?_ _)) (fu.z f1a (fu.z Ug rfl))) (w.heap.size + 1) (by simp only [World.size_alloc])) (fu.below (by repeat (first | exact Below.refl _ _ | refine ig ?_ _)) (fu.vs w [.int .i64 0, .bool false, .slice none 0 0, .int .i64 0, .bool false, .slice none 0 0] rfl)) (w.heap.size + 2) (by simp only [World.size_alloc]))
 generalize ((w.alloc (.cells #[.int .i64 Hu, .bool Ia, .slice Gb (List.length Fv) c0a, .int .i64 Ke, .bool Ki, .slice Iz (List.length Ic) c0b] 79)).alloc (.cells #[.int .i64 Nn, .bool Ze, .slice Dn (List.length Df) c1a, .int .i64 Nl, .bool n1b, .slice Dm (List.length De) Dh] 79)).alloc (.cells #[.int .i64 0, .bool false, .slice none 0 0, .int .i64 0, .bool false, .slice none 0 0] 79) = W0 at *
 have HO := hide hO
 clear hO
 go_upto_region 1 with fail
 go_upto_region 1 with fail
 refine Rg.aba 14 36 (fun k => if k = 12 then 5 else 6) (Rg.pick [Rg.au (.pointer (some ⟨w.heap.size, 0, none⟩)), ax [.z xn], Rg.au (.pointer (some ⟨w.heap.size + 1, 3, none⟩)), ax [.z yd], ax [.z g], Rg.au (.pointer (some ⟨w.heap.size + 1, 0, none⟩)), ax [.z yn], Rg.au (.pointer (some ⟨w.heap.size, 3, none⟩)), ax [.z xd], ax [.z h], fun _ _ => True, fun _ _ => True, fun _ _ => True, fun _ _ => True]) (az w [(w.heap.size + 2, 79, zQ), (w.heap.size + 1, 79, [.z yn, .z yd]), (w.heap.size, 79, [.z xn, .z xd])] W0) (EX W0.heap.size 77) (J2 77 3 W0.heap.size 10 11 12 13 [.z g] [.z h]) kr kr kr rfl (Rg.ek.pick ⟨(Jg _), (sw _), (Jg _), (sw _), (sw _), (Jg _), (sw _), (Jg _), (sw _), (sw _), (yo), (yo), (yo), (yo), trivial⟩) (az.start (aa HO)) (fun _ => J2.start) (fun _ _ _ _ h => J2.congr (n := 14) de h)
  (Rg.jl (Bl (Eh (b := w.heap.size) (off := 0) rfl aF rfl rfl))
   (Rg.jl (Bl (jc oz Ib (aT 0) [] [.z xn] [.z xd]))
   (Rg.jl (Bl (Ap (b := w.heap.size + 1) (off := 0) rfl aF rfl rfl))
   (Rg.jl (Bl (jc oz wz (aT 2) [.z yn] [.z yd] []))
   (Rg.jl (Bl (Gz Tryz.func164 kr rfl az.step (aT 1) (aT 3) (fun W v0 v1 hG h0 h1 => i2 (aa Ff) hG.bel h0 h1)))
   (Rg.jl (Bl (Eh (b := w.heap.size + 1) (off := 0) rfl aF rfl rfl))
   (Rg.jl (Bl (jc oz wz (aT 5) [] [.z yn] [.z yd]))
   (Rg.jl (Bl (Ap (b := w.heap.size) (off := 0) rfl aF rfl rfl))
   (Rg.jl (Bl (jc oz Ib (aT 7) [.z xn] [.z xd] []))
   (Rg.jl (Bl (Gz Tryz.func164 kr rfl az.step (aT 6) (aT 8) (fun W v0 v1 hG h0 h1 => i2 (aa HG2) hG.bel h0 h1)))
   (Rg.jl (Uv Nv rfl rfl rfl)
   (Rg.jl (Ww Nv rfl rfl rfl)
   (Rg.jl (Uu (aa HO) Dq kr (aT 4) rfl rfl rfl)
   (Rg.jl (Wv (aa HO) Dq kr (aT 9) rfl rfl rfl)
   Rg.Qp)))))))))))))) ?_
 intro v1 V1 hG1 hJ1 hv1 hne1
 simp only [Rg.puts, Act.put, tA]
 obtain ⟨_, _, hd1, hf1, hg1⟩ := hJ1
 obtain ⟨bud, e10, ayv, bfo⟩ := (hf1 trivial).2
 obtain ⟨buc, e11, ayu, bfn⟩ := (hg1 trivial).2
 simp only [e10, e11]
 have hO := Own.aod (aa HO) hG1.2 ayv bfo ayu bfn (fun h => hd1 trivial trivial (by rw [e10, e11, h]))
 clear ayv bfo ayu bfn hd1 hf1 hg1
 clear HO
 have HO := hide hO
 clear hO hG1 hv1 hne1
 try clear e10 e11
 go_upto_region 2 with fail
 refine Rg.region 19 36 (Rg.pick [Rg.au (.pointer (some ⟨w.heap.size, 0, none⟩)), ax [.z xn], ax [.z g], ax [.z a1], Rg.au (.pointer (some ⟨w.heap.size + 1, 0, none⟩)), ax [.z yn], ax [.z h], ax [.z b1], ax [.z n], Rg.au (.pointer (some ⟨w.heap.size, 3, none⟩)), ax [.z xd], ax [.z h], ax [.z a2], Rg.au (.pointer (some ⟨w.heap.size + 1, 3, none⟩)), ax [.z yd], ax [.z g], ax [.z b2], ax [.z d], ax [.z n, .z d]]) (az w _ V1) dz [] kr kr rfl (Rg.ek.pick ⟨Rg.ae _, bf _, bf _, bf _, Rg.ae _, bf _, bf _, bf _, bf _, Rg.ae _, bf _, bf _, bf _, Rg.ae _, bf _, bf _, bf _, bf _, bf _, trivial⟩) (az.start (aa HO))
  (ah (Eh (b := w.heap.size) (off := 0) rfl aF rfl rfl)
  (ah (jc oz me4 (aT 0) [] [.z xn] [.z xd])
  (ah (jc oz wz aF [] [.z g] [])
  (ah (sc2 Tryz.func165 (aT 1) (aT 2) (fun W v0 v1 hG h0 h1 => i2 (aa HA1) hG.bel h0 h1))
  (ah (Eh (b := w.heap.size + 1) (off := 0) rfl aF rfl rfl)
  (ah (jc oz Tn (aT 4) [] [.z yn] [.z yd])
  (ah (jc oz me0 aF [] [.z h] [])
  (ah (sc2 Tryz.func165 (aT 5) (aT 6) (fun W v0 v1 hG h0 h1 => i2 (aa HB1) hG.bel h0 h1))
  (ah (sc2 Tryz.func147 (aT 3) (aT 7) (fun W v0 v1 hG h0 h1 => i2 (aa HM1) hG.bel h0 h1))
  (ah (Ap (b := w.heap.size) (off := 0) rfl aF rfl rfl)
  (ah (jc oz me4 (aT 9) [.z xn] [.z xd] [])
  (ah (jc oz me0 aF [] [.z h] [])
  (ah (sc2 Tryz.func165 (aT 10) (aT 11) (fun W v0 v1 hG h0 h1 => i2 (aa HA2) hG.bel h0 h1))
  (ah (Ap (b := w.heap.size + 1) (off := 0) rfl aF rfl rfl)
  (ah (jc oz Tn (aT 13) [.z yn] [.z yd] [])
  (ah (jc oz wz aF [] [.z g] [])
  (ah (sc2 Tryz.func165 (aT 14) (aT 15) (fun W v0 v1 hG h0 h1 => i2 (aa HB2) hG.bel h0 h1))
  (ah (sc2 Tryz.func147 (aT 12) (aT 16) (fun W v0 v1 hG h0 h1 => i2 (aa HM2) hG.bel h0 h1))
  (ah (Gm abq rfl (aT 8) (aT 17) rfl rfl rfl)
  Rg.bg))))))))))))))))))) ?_
 intro v2 V2 hG2 hv2 hne2
 simp only [Rg.puts, Act.put, tA]
 have hO := hG2.1
 refine oo hO 2 [] zQ [.z n, .z d] [] rfl Gx rfl (show ax [.z n, .z d] V2 (v2 18) from hv2 18 de) rfl rfl rfl ?_
 intro Jo jb hk0
 replace hO := jb
 clear jb
 clear HO
 have HO := hide hO
 clear hO hG2 hv2 hne2 hk0
 go_wp2_with fail
 exact Dy Tryz.results108 Lu rfl (aa HO) Ib rfl rfl
theorem aqi {xn xd yn yd g p q m1 m2 n h a e d : Int} (w : World) (u0 : Value) (h0 : ax [.z xn, .z xd] w u0) (u1 : Value) (h1 : ax [.z yn, .z yd] w u1)
  (h1k : Bj w 164 xd yd g)
  (h2k : Bj w 165 xd g p)
  (h3k : Bj w 165 yd g q)
  (h4k : Bj w 147 xn q m1)
  (h5k : Bj w 147 yn p m2)
  (h6k : Bj w 166 m1 m2 n)
  (h7k : Bj w 164 g n h)
  (h8k : Bj w 165 n h a)
  (h9k : Bj w 165 yd h e)
  (bhf : Bj w 147 p e d) :
  Calls Tryz.prog 93 #[u0, u1] w (ic (ax [.z a, .z d]) w) := by
 have H1 := hide h1k
 have H2 := hide h2k
 have H3 := hide h3k
 have H4 := hide h4k
 have H5 := hide h5k
 have H6 := hide h6k
 have H7 := hide h7k
 have H8 := hide h8k
 have H9 := hide h9k
 have Nf := hide bhf
 clear h1k h2k h3k h4k h5k h6k h7k h8k h9k bhf
 obtain ⟨Hu, Ia, Gb, c0a, Fv, Ke, Ki, Iz, c0b, Ic, rfl, f0a, Ik⟩ := Mx h0
 obtain ⟨Nn, Ze, Dn, c1a, Df, Nl, n1b, Dm, Dh, De, rfl, f1a, Ug⟩ := Mx h1
 go_enter Tryz.func93, Tryz.ntmps93
 go_upto_region 1 with fail
 have hO := (Own.push (T := 79) (ls := zQ) (Own.push (T := 79) (ls := [.z yn, .z yd]) (Own.push (T := 79) (ls := [.z xn, .z xd]) (Own.nil w) (fu.z f0a (fu.z Ik rfl)) (w.heap.size) rfl) (fu.below (by repeat (first | exact Below.refl _ _ | refine ig ?_ _)) (fu.z f1a (fu.z Ug rfl))) (w.heap.size + 1) (by simp only [World.size_alloc])) (fu.below (by repeat (first | exact Below.refl _ _ | refine ig ?_ _)) (fu.vs w [.int .i64 0, .bool false, .slice none 0 0, .int .i64 0, .bool false, .slice none 0 0] rfl)) (w.heap.size + 2) (by simp only [World.size_alloc]))
 generalize ((w.alloc (.cells #[.int .i64 Hu, .bool Ia, .slice Gb (List.length Fv) c0a, .int .i64 Ke, .bool Ki, .slice Iz (List.length Ic) c0b] 79)).alloc (.cells #[.int .i64 Nn, .bool Ze, .slice Dn (List.length Df) c1a, .int .i64 Nl, .bool n1b, .slice Dm (List.length De) Dh] 79)).alloc (.cells #[.int .i64 0, .bool false, .slice none 0 0, .int .i64 0, .bool false, .slice none 0 0] 79) = W0 at *
 have HO := hide hO
 clear hO
 go_upto_region 1 with fail
 refine Rg.di 6 45 (Rg.pick [Rg.au (.pointer (some ⟨w.heap.size, 3, none⟩)), ax [.z xd], Rg.au (.pointer (some ⟨w.heap.size + 1, 3, none⟩)), ax [.z yd], ax [.z g], qj 77 zZ W0.heap.size]) (az w _ W0) dz [5] kr rfl (Rg.ek.pick ⟨Rg.ae _, bf _, Rg.ae _, bf _, bf _, qz _ _ _, trivial⟩) (az.begin (aa HO))
  (ah (Ap (b := w.heap.size) (off := 0) rfl aF rfl rfl)
  (ah (jc oz Ib (aT 0) [.z xn] [.z xd] [])
  (ah (Ap (b := w.heap.size + 1) (off := 0) rfl aF rfl rfl)
  (ah (jc oz wz (aT 2) [.z yn] [.z yd] [])
  (ah (sc2 Tryz.func164 (aT 1) (aT 3) (fun W v0 v1 hG h0 h1 => i2 (aa H1) hG.bel h0 h1))
  (ah (uh Nv rfl az.step az.size rfl (xm (by intro j hj; simp at hj; (repeat' (first | (rcases hj with rfl | hj))) <;> first | (subst hj; exact ⟨_, _, _, rfl⟩) | exact ⟨_, _, _, rfl⟩)))
  Rg.bg)))))) ?_
 intro v1 V1 hG1 hv1 hne1
 simp only [Rg.puts, Act.put, tA]
 obtain ⟨bhz, e5, Mr, Tu⟩ := (show qj 77 zZ W0.heap.size V1 (v1 5) from hv1 5 de)
 simp only [e5]
 have hO := hG1.1
 replace hO := Own.add (aa HO) hG1.2 Mr Tu
 clear Mr Tu
 refine oo hO 0 [] zZ [.z g] [] rfl Dq rfl (show ax [.z g] V1 (v1 4) from hv1 4 de) rfl rfl rfl ?_
 intro Cg jb hk0
 replace hO := jb
 clear jb
 clear HO
 have HO := hide hO
 clear hO hG1 hv1 hne1 hk0
 try clear e5
 go_upto_region 2 with fail
 go_upto_region 2 with fail
 refine Rg.aba 12 45 (fun k => if k = 10 then 6 else 7) (Rg.pick [Rg.au (.pointer (some ⟨w.heap.size, 3, none⟩)), ax [.z xd], ax [.z g], ax [.z p], Rg.au (.pointer (some ⟨w.heap.size + 1, 3, none⟩)), ax [.z yd], ax [.z g], ax [.z q], fun _ _ => True, fun _ _ => True, fun _ _ => True, fun _ _ => True]) (az w [(bhz, 77, [.z g]), (w.heap.size + 2, 79, zQ), (w.heap.size + 1, 79, [.z yn, .z yd]), (w.heap.size, 79, [.z xn, .z xd])] Cg) (EX Cg.heap.size 77) (J2 77 3 Cg.heap.size 8 9 10 11 [.z p] [.z q]) kr kr kr rfl (Rg.ek.pick ⟨(Jg _), (sw _), (sw _), (sw _), (Jg _), (sw _), (sw _), (sw _), (yo), (yo), (yo), (yo), trivial⟩) (az.start (aa HO)) (fun _ => J2.start) (fun _ _ _ _ h => J2.congr (n := 12) de h)
  (Rg.jl (Bl (Ap (b := w.heap.size) (off := 0) rfl aF rfl rfl))
   (Rg.jl (Bl (jc oz Tn (aT 0) [.z xn] [.z xd] []))
   (Rg.jl (Bl (jc oz me0 aF [] [.z g] []))
   (Rg.jl (Bl (Gz Tryz.func165 kr rfl az.step (aT 1) (aT 2) (fun W v0 v1 hG h0 h1 => i2 (aa H2) hG.bel h0 h1)))
   (Rg.jl (Bl (Ap (b := w.heap.size + 1) (off := 0) rfl aF rfl rfl))
   (Rg.jl (Bl (jc oz Ib (aT 4) [.z yn] [.z yd] []))
   (Rg.jl (Bl (jc oz me0 aF [] [.z g] []))
   (Rg.jl (Bl (Gz Tryz.func165 kr rfl az.step (aT 5) (aT 6) (fun W v0 v1 hG h0 h1 => i2 (aa H3) hG.bel h0 h1)))
   (Rg.jl (Uv Nv rfl rfl rfl)
   (Rg.jl (Ww Nv rfl rfl rfl)
   (Rg.jl (Uu (aa HO) Dq kr (aT 3) rfl rfl rfl)
   (Rg.jl (Wv (aa HO) Dq kr (aT 7) rfl rfl rfl)
   Rg.Qp)))))))))))) ?_
 intro v2 V2 hG2 hJ2 hv2 hne2
 simp only [Rg.puts, Act.put, tA]
 obtain ⟨_, _, hd2, hf2, hg2⟩ := hJ2
 obtain ⟨bvd, e8, bgg, hz8⟩ := (hf2 trivial).2
 obtain ⟨bvc, e9, agx, hz9⟩ := (hg2 trivial).2
 simp only [e8, e9]
 have hO := Own.aod (aa HO) hG2.2 bgg hz8 agx hz9 (fun h => hd2 trivial trivial (by rw [e8, e9, h]))
 clear bgg hz8 agx hz9 hd2 hf2 hg2
 clear HO
 have HO := hide hO
 clear hO hG2 hv2 hne2
 try clear e8 e9
 go_upto_region 3 with fail
 go_upto_region 3 with fail
 refine Rg.bbi 11 45 (fun _ => 8) (Rg.pick [Rg.au (.pointer (some ⟨w.heap.size, 0, none⟩)), ax [.z xn], ax [.z q], ax [.z m1], Rg.au (.pointer (some ⟨w.heap.size + 1, 0, none⟩)), ax [.z yn], ax [.z p], ax [.z m2], ax [.z n], Ip 77 3 V2.heap.size, Js 77 [.z n] V2.heap.size]) (az w _ V2) (EN V2.heap.size 77 [.z n]) kr kr kr rfl (Rg.ek.pick ⟨(aeq _), (Ef _), (Ef _), (Ef _), (aeq _), (Ef _), (Ef _), (Ef _), (Ef _), (aly), (apc), trivial⟩) (az.start (aa HO))
  (Rg.wy (Rg.Ca rfl rfl (zm (Eh (b := w.heap.size) (off := 0) rfl aF rfl rfl)))
   (Rg.wy (Rg.Ca rfl rfl (zm (jc oz me5 (aT 0) [] [.z xn] [.z xd])))
   (Rg.wy (Rg.Ca rfl rfl (zm (jc oz me0 aF [] [.z q] [])))
   (Rg.wy (Rg.Ca rfl rfl (zm (Gz Tryz.func147 kr rfl az.step (aT 1) (aT 2) (fun W v0 v1 hG h0 h1 => i2 (aa H4) hG.bel h0 h1))))
   (Rg.wy (Rg.Ca rfl rfl (zm (Eh (b := w.heap.size + 1) (off := 0) rfl aF rfl rfl)))
   (Rg.wy (Rg.Ca rfl rfl (zm (jc oz me4 (aT 4) [] [.z yn] [.z yd])))
   (Rg.wy (Rg.Ca rfl rfl (zm (jc oz wz aF [] [.z p] [])))
   (Rg.wy (Rg.Ca rfl rfl (zm (Gz Tryz.func147 kr rfl az.step (aT 5) (aT 6) (fun W v0 v1 hG h0 h1 => i2 (aa H5) hG.bel h0 h1))))
   (Rg.wy (Rg.Ca rfl rfl (zm (Gz Tryz.func166 kr rfl az.step (aT 3) (aT 7) (fun W v0 v1 hG h0 h1 => i2 (aa H6) hG.bel h0 h1))))
   (Rg.wy (Rg.Ca rfl rfl (zm (aua Nv rfl rfl az.step az.size rfl)))
   (Rg.wy (atw (aa HO) Dq (aT 9) (aT 8) rfl rfl rfl)
   Rg.alx))))))))))) ?_
 intro v3 V3 hG3 hv3 mh
 simp only [Rg.puts, Act.put, tA]
 have e0 : v3 0 = .pointer (some ⟨w.heap.size, 0, none⟩) := hv3 0 de
 have e4 : v3 4 = .pointer (some ⟨w.heap.size + 1, 0, none⟩) := hv3 4 de
 have e99 : v3 10 = v3 9 := mh 10 9 de de rfl rfl
 obtain ⟨bva, e9, agx, hz9⟩ := (show Js 77 [.z n] V2.heap.size V3 (v3 10) from hv3 10 de)
 rw [e99] at e9
 clear e99
 simp only [e0, e4, e9]
 have hO := Own.add (aa HO) hG3.2 agx hz9
 clear agx hz9
 clear HO
 have HO := hide hO
 clear hO hG3 hv3 mh
 try clear e0 e4 e9
 go_upto_region 4 with fail
 refine Rg.di 4 45 (Rg.pick [ax [.z g], ax [.z n], ax [.z h], qj 77 zZ V3.heap.size]) (az w _ V3) dz [3] kr rfl (Rg.ek.pick ⟨bf _, bf _, bf _, qz _ _ _, trivial⟩) (az.begin (aa HO))
  (ah (jc oz Tn aF [] [.z g] [])
  (ah (jc oz me0 aF [] [.z n] [])
  (ah (sc2 Tryz.func164 (aT 0) (aT 1) (fun W v0 v1 hG h0 h1 => i2 (aa H7) hG.bel h0 h1))
  (ah (uh Nv rfl az.step az.size rfl (xm (by intro j hj; simp at hj; (repeat' (first | (rcases hj with rfl | hj))) <;> first | (subst hj; exact ⟨_, _, _, rfl⟩) | exact ⟨_, _, _, rfl⟩)))
  Rg.bg)))) ?_
 intro v4 V4 hG4 hv4 tu
 simp only [Rg.puts, Act.put, tA]
 obtain ⟨buz, e3, bgh, hz3⟩ := (show qj 77 zZ V3.heap.size V4 (v4 3) from hv4 3 de)
 simp only [e3]
 have hO := hG4.1
 replace hO := Own.add (aa HO) hG4.2 bgh hz3
 clear bgh hz3
 refine oo hO 0 [] zZ [.z h] [] rfl Dq rfl (show ax [.z h] V4 (v4 2) from hv4 2 de) rfl rfl rfl ?_
 intro Gr jb hk0
 replace hO := jb
 clear jb
 clear HO
 have HO := hide hO
 clear hO hG4 hv4 tu hk0
 try clear e3
 go_upto_region 5 with fail
 refine Rg.region 10 45 (Rg.pick [ax [.z n], ax [.z h], ax [.z a], ax [.z p], Rg.au (.pointer (some ⟨w.heap.size + 1, 3, none⟩)), ax [.z yd], ax [.z h], ax [.z e], ax [.z d], ax [.z a, .z d]]) (az w _ Gr) dz [] kr kr rfl (Rg.ek.pick ⟨bf _, bf _, bf _, bf _, Rg.ae _, bf _, bf _, bf _, bf _, bf _, trivial⟩) (az.start (aa HO))
  (ah (jc oz wz aF [] [.z n] [])
  (ah (jc oz me0 aF [] [.z h] [])
  (ah (sc2 Tryz.func165 (aT 0) (aT 1) (fun W v0 v1 hG h0 h1 => i2 (aa H8) hG.bel h0 h1))
  (ah (jc oz Tn aF [] [.z p] [])
  (ah (Ap (b := w.heap.size + 1) (off := 0) rfl aF rfl rfl)
  (ah (jc oz me6 (aT 4) [.z yn] [.z yd] [])
  (ah (jc oz me0 aF [] [.z h] [])
  (ah (sc2 Tryz.func165 (aT 5) (aT 6) (fun W v0 v1 hG h0 h1 => i2 (aa H9) hG.bel h0 h1))
  (ah (sc2 Tryz.func147 (aT 3) (aT 7) (fun W v0 v1 hG h0 h1 => i2 (aa Nf) hG.bel h0 h1))
  (ah (Gm abq rfl (aT 2) (aT 8) rfl rfl rfl)
  Rg.bg)))))))))) ?_
 intro v5 V5 zz hv5 hne5
 simp only [Rg.puts, Act.put, tA]
 have hO := zz.1
 refine oo hO 5 [] zQ [.z a, .z d] [] rfl Gx rfl (show ax [.z a, .z d] V5 (v5 9) from hv5 9 de) rfl rfl rfl ?_
 intro Rx jb hk0
 replace hO := jb
 clear jb
 clear HO
 have HO := hide hO
 clear hO zz hv5 hne5 hk0
 go_wp2_with fail
 exact Dy Tryz.results93 Lu rfl (aa HO) me5 rfl rfl
end Sb

end Go.Proofs.YtfgeaakhlcaibaaGreatDoor
namespace Go.Proofs.YtfgeaakhlcaibaaGreatDoor
open Go.RowKit Sb

theorem akd {w : World} {K : Nat} (hT : og w) (x y : Rat) (hx : Bi K x) (hy : Bi K y) (hK : K + K + 1 ≤ lim) : Er w 93 x y (x + y) ∧ Bi (K + K + 1) (x + y) := by
 have dx : (x.den : Int) ≠ 0 := by have := x.den_pos; omega
 have dy : (y.den : Int) ≠ 0 := by have := y.den_pos; omega
 obtain ⟨g, hg⟩ : ∃ g, g = x.den.gcd y.den := ⟨_, rfl⟩
 obtain ⟨xd, hxd⟩ : ∃ z, z = (x.den : Int).tdiv g := ⟨_, rfl⟩
 obtain ⟨yd, hyd⟩ : ∃ z, z = (y.den : Int).tdiv g := ⟨_, rfl⟩
 obtain ⟨m1, hm1⟩ : ∃ z, z = x.num * yd := ⟨_, rfl⟩
 obtain ⟨m2, hm2⟩ : ∃ z, z = y.num * xd := ⟨_, rfl⟩
 obtain ⟨n, hn⟩ : ∃ z, z = m1 + m2 := ⟨_, rfl⟩
 obtain ⟨h, hh⟩ : ∃ h, h = g.gcd n.natAbs := ⟨_, rfl⟩
 obtain ⟨e1, he1⟩ : ∃ z, z = (y.den : Int).tdiv h := ⟨_, rfl⟩
 have hp := Wd.adr x y g h n hg (by rw [hn, hm1, hm2, hxd, hyd]) hh
 have g0 : 0 < g := by rw [hg]; exact Nat.gcd_pos_of_pos_left _ x.den_pos
 have h0 : 0 < h := by rw [hh]; exact Nat.gcd_pos_of_pos_left _ g0
 have sg : Wd.Sz dh K (g : Int) := by
  have := hx.2.gcd_left (b := (y.den : Int)) dx
  simpa [hg] using this
 have sh : Wd.Sz dh K (h : Int) := by
  have := sg.gcd_left (b := n) om
  simpa [hh] using this
 have sxd : Wd.Sz dh K xd := by rw [hxd]; exact hx.2.tdiv _
 have syd : Wd.Sz dh K yd := by rw [hyd]; exact hy.2.tdiv _
 have sm1 : Wd.Sz dh (K + K) m1 := by rw [hm1]; exact hx.1.mul syd
 have sm2 : Wd.Sz dh (K + K) m2 := by rw [hm2]; exact hy.1.mul sxd
 have sn : Wd.Sz dh (K + K + 1) n := by rw [hn]; exact sm1.add oh sm2
 have se1 : Wd.Sz dh K e1 := by rw [he1]; exact hy.2.tdiv _
 have B := oh
 have up : ∀ z, Wd.Sz dh K z → Wd.Sz dh (K + K + 1) z := fun z hz => hz.mono B om
 refine ⟨?_, ⟨by rw [hp.1]; exact sn.tdiv _, by rw [hp.2]; exact ((hx.2.tdiv _).mul (hy.2.tdiv _)).mono B om⟩⟩
 rw [Er, hp.1, hp.2]
 exact fun s1 cz A1 c1 l1 s2 cu A2 c2 l2 s3 rz A3 c3 l3 s4 Cy A4 c4 l4 W hW f1 f2 f3 f4 => (aqi W _ ⟨_, rfl, fu.z f1 (fu.z f2 rfl)⟩ _ ⟨_, rfl, fu.z f3 (fu.z f4 rfl)⟩
  (Po (hT.below hW) (up _ hx.2) (up _ hy.2) hK (by simp [hg])) (Dc (up _ hx.2) (up _ sg) hK om hxd) (Dc (up _ hy.2) (up _ sg) hK om hyd)
  (Pn (up _ hx.1) (up _ syd) hK hm1) (Pn (up _ hy.1) (up _ sxd) hK hm2) (bex (sm1.mono B om) (sm2.mono B om) hK hn)
  (Po (hT.below hW) (up _ sg) sn hK (by simp [hh])) (Dc sn (up _ sh) hK om rfl) (Dc (up _ hy.2) (up _ sh) hK om he1) (Pn (up _ sxd) (up _ se1) hK (by rw [hxd, he1]))).mono fun _ _ h => aqn h

theorem abf {w : World} {K : Nat} (hT : og w) (x y : Rat) (hx : Bi K x) (hy : Bi K y) (hK : K + K + 1 ≤ lim) : Er w 108 x y (x * y) ∧ Bi (K + K) (x * y) := by
 have dx : (x.den : Int) ≠ 0 := by have := x.den_pos; omega
 have dy : (y.den : Int) ≠ 0 := by have := y.den_pos; omega
 obtain ⟨g, hg⟩ : ∃ g, g = x.num.natAbs.gcd y.den := ⟨_, rfl⟩
 obtain ⟨h, hh⟩ : ∃ h, h = y.num.natAbs.gcd x.den := ⟨_, rfl⟩
 obtain ⟨a1, ha1⟩ : ∃ z, z = x.num.tdiv g := ⟨_, rfl⟩
 obtain ⟨b1, hb1⟩ : ∃ z, z = y.num.tdiv h := ⟨_, rfl⟩
 obtain ⟨a2, ha2⟩ : ∃ z, z = (x.den : Int).tdiv h := ⟨_, rfl⟩
 obtain ⟨b2, hb2⟩ : ∃ z, z = (y.den : Int).tdiv g := ⟨_, rfl⟩
 have hp := Wd.adn x y g h hg hh
 have g0 : 0 < g := by rw [hg]; exact Nat.gcd_pos_of_pos_right _ y.den_pos
 have h0 : 0 < h := by rw [hh]; exact Nat.gcd_pos_of_pos_right _ x.den_pos
 have sg : Wd.Sz dh K (g : Int) := by
  have := hy.2.gcd_right (a := x.num) dy
  simpa [hg] using this
 have sh : Wd.Sz dh K (h : Int) := by
  have := hx.2.gcd_right (a := y.num) dx
  simpa [hh] using this
 have sa1 : Wd.Sz dh K a1 := by rw [ha1]; exact hx.1.tdiv _
 have sb1 : Wd.Sz dh K b1 := by rw [hb1]; exact hy.1.tdiv _
 have sa2 : Wd.Sz dh K a2 := by rw [ha2]; exact hx.2.tdiv _
 have sb2 : Wd.Sz dh K b2 := by rw [hb2]; exact hy.2.tdiv _
 have hK1 : K ≤ lim := by omega
 refine ⟨?_, ⟨by rw [hp.1, ← ha1, ← hb1]; exact sa1.mul sb1, by rw [hp.2, ← ha2, ← hb2]; exact sa2.mul sb2⟩⟩
 rw [Er, hp.1, hp.2]
 exact fun s1 cz A1 c1 l1 s2 cu A2 c2 l2 s3 rz A3 c3 l3 s4 Cy A4 c4 l4 W hW f1 f2 f3 f4 => (aqe W _ ⟨_, rfl, fu.z f1 (fu.z f2 rfl)⟩ _ ⟨_, rfl, fu.z f3 (fu.z f4 rfl)⟩
  (Po (hT.below hW) hx.1 hy.2 hK1 (by simp [hg])) (Po (hT.below hW) hy.1 hx.2 hK1 (by simp [hh])) (Dc hx.1 sg hK1 om ha1) (Dc hy.1 sh hK1 om hb1)
  (Pn sa1 sb1 hK1 (by rw [ha1, hb1])) (Dc hx.2 sh hK1 om ha2) (Dc hy.2 sg hK1 om hb2) (Pn sa2 sb2 hK1 (by rw [ha2, hb2]))).mono fun _ _ h => aqn h


namespace Sb
theorem aqj {w w' : World} {q : Rat} {e : Ending} (h : ic (ax [.q q]) w e w') : Gh w q.num (q.den : Int) e w' := by
 obtain ⟨u, rfl, hb, h⟩ := h
 obtain ⟨s1, n1, A1, c1, l1, s2, n2, A2, c2, l2, rfl, f1, f2⟩ := Gg h
 exact ⟨_, _, _, _, _, _, _, _, _, _, rfl, f1, f2, hb⟩
theorem q1b {F : Nat} {x q : Rat} {w W : World} {v0 : Value} (h : Nc w F x q) (hb : Below w.heap.size w W) (h0 : ax [.q x] W v0) : Calls Tryz.prog F #[v0] W (ic (ax [.q q]) W) := azg (h.mono hb) h0
theorem q2b {F : Nat} {x y q : Rat} {w W : World} {v0 v1 : Value} (h : Er w F x y q) (hb : Below w.heap.size w W) (h0 : ax [.q x] W v0) (h1 : ax [.q y] W v1) : Calls Tryz.prog F #[v0, v1] W (ic (ax [.q q]) W) := azf (h.mono hb) h0 h1
theorem _root_.Go.Proofs.YtfgeaakhlcaibaaGreatDoor.sc1 {P : Program} {Q : Exit → Act → World → Prop} {l : List Oper} {n : Nat} {T : Nat → World → Value → Prop} {w V : World} {bs : List Sb.wh} {al : List Nat} {a0 : Act} {k F d : Nat} {fn : Func} {ats : Array TypeId} {ty : TypeId} {pos : String} {af : Array Edge} {gd : Option (Nat × Bool)} {x1 : Operand} {A1 : World → Value → Prop} (hF : P.funcs[F]? = some fn) (h1 : Rg.ib l n T a0 k x1 A1) (hc : ∀ (W : World) (v1 : Value), Sb.az w bs V W → A1 W v1 → Calls P F #[v1] W fun e w' => ∃ u, e = .returned u ∧ dz W w' ∧ T k w' u) (hn : (!(fn.name == "runtime.NumGoroutine") && fn.body.isSome) = true := by kernel_rfl) (hal : al.contains k = false := by rfl) :
  Rg.Step P Q l n T (Sb.az w bs V) dz al a0 k { dst := some d, op := .call { callee := .value (.func F), args := #[x1], argTypes := ats }, type := ty, pos := pos, after := af, guard := gd } := Bp hF hn hal Sb.az.step h1 hc
theorem apy {x y v q : Rat} (w : World) (u0 : Value) (h0 : ax [.q x] w u0) (u1 : Value) (h1 : ax [.q y] w u1) (g1 : Nc w 88 y v) (g2 : Er w 93 x v q) :
  Calls Tryz.prog 78 #[u0, u1] w (ic (ax [.q q]) w) := by
 have H1 := hide g1
 have H2 := hide g2
 clear g1 g2
 obtain ⟨Hu, Ia, Gb, c0a, Fv, Ke, Ki, Iz, c0b, Ic, rfl, f0a, Ik⟩ := Gg h0
 obtain ⟨Nn, Ze, Dn, c1a, Df, Nl, n1b, Dm, Dh, De, rfl, f1a, Ug⟩ := Gg h1
 go_enter Tryz.func78, Tryz.ntmps78
 go_upto_region 1 with fail
 have hO := (Own.push (T := 79) (ls := zQ) (Own.push (T := 79) (ls := [.q y]) (Own.push (T := 79) (ls := [.q x]) (Own.nil w) (fu.q f0a Ik rfl) (w.heap.size) rfl) (fu.below (by repeat (first | exact Below.refl _ _ | refine ig ?_ _)) (fu.q f1a Ug rfl)) (w.heap.size + 1) (by simp only [World.size_alloc])) (fu.below (by repeat (first | exact Below.refl _ _ | refine ig ?_ _)) (fu.vs w [.int .i64 0, .bool false, .slice none 0 0, .int .i64 0, .bool false, .slice none 0 0] rfl)) (w.heap.size + 2) (by simp only [World.size_alloc]))
 generalize ((w.alloc (.cells #[.int .i64 Hu, .bool Ia, .slice Gb (List.length Fv) c0a, .int .i64 Ke, .bool Ki, .slice Iz (List.length Ic) c0b] 79)).alloc (.cells #[.int .i64 Nn, .bool Ze, .slice Dn (List.length Df) c1a, .int .i64 Nl, .bool n1b, .slice Dm (List.length De) Dh] 79)).alloc (.cells #[.int .i64 0, .bool false, .slice none 0 0, .int .i64 0, .bool false, .slice none 0 0] 79) = W0 at *
 have HO := hide hO
 clear hO
 go_upto_region 1 with fail
 refine Rg.region 4 9 (Rg.pick [ax [.q x], ax [.q y], ax [.q v], ax [.q q]]) (az w _ W0) dz [] kr kr rfl (Rg.ek.pick ⟨bf _, bf _, bf _, bf _, trivial⟩) (az.start (aa HO))
  (ah (jc Fu Ib aF [] [.q x] [])
  (ah (jc Fu wz aF [] [.q y] [])
  (ah (sc1 Tryz.func88 (aT 1) (fun W v0 hG h0 => q1b (aa H1) hG.bel h0))
  (ah (sc2 Tryz.func93 (aT 0) (aT 2) (fun W v0 v1 hG h0 h1 => q2b (aa H2) hG.bel h0 h1))
  Rg.bg)))) ?_
 intro v1 V1 hG1 hv1 hne1
 simp only [Rg.puts, Act.put, tA]
 have hO := hG1.1
 refine oo hO 0 [] zQ [.q q] [] rfl Gx rfl (show ax [.q q] V1 (v1 3) from hv1 3 de) rfl rfl rfl ?_
 intro Cg jb hk0
 replace hO := jb
 clear jb
 clear HO
 have HO := hide hO
 clear hO hG1 hv1 hne1 hk0
 go_wp2_with fail
 exact Dy Tryz.results78 Lu rfl (aa HO) me0 rfl rfl
theorem amr {w : World} {x y v q : Rat} (g1 : Nc w 88 y v) (g2 : Er w 93 x v q) : Er w 78 x y q :=
 fun _ _ _ _ _ _ _ _ _ _ _ _ _ _ _ _ _ _ _ _ W hW f1 f2 f3 f4 => (apy W _ ⟨_, rfl, fu.q f1 f2 rfl⟩ _ ⟨_, rfl, fu.q f3 f4 rfl⟩ (g1.mono hW) (g2.mono hW)).mono fun _ _ h => aqj h
theorem aqc {x y v q : Rat} (w : World) (u0 : Value) (h0 : ax [.q x] w u0) (u1 : Value) (h1 : ax [.q y] w u1) (g1 : Nc w 94 y v) (g2 : Er w 108 x v q) :
  Calls Tryz.prog 109 #[u0, u1] w (ic (ax [.q q]) w) := by
 have H1 := hide g1
 have H2 := hide g2
 clear g1 g2
 obtain ⟨Hu, Ia, Gb, c0a, Fv, Ke, Ki, Iz, c0b, Ic, rfl, f0a, Ik⟩ := Gg h0
 obtain ⟨Nn, Ze, Dn, c1a, Df, Nl, n1b, Dm, Dh, De, rfl, f1a, Ug⟩ := Gg h1
 go_enter Tryz.func109, Tryz.ntmps109
 go_upto_region 1 with fail
 have hO := (Own.push (T := 79) (ls := zQ) (Own.push (T := 79) (ls := [.q y]) (Own.push (T := 79) (ls := [.q x]) (Own.nil w) (fu.q f0a Ik rfl) (w.heap.size) rfl) (fu.below (by repeat (first | exact Below.refl _ _ | refine ig ?_ _)) (fu.q f1a Ug rfl)) (w.heap.size + 1) (by simp only [World.size_alloc])) (fu.below (by repeat (first | exact Below.refl _ _ | refine ig ?_ _)) (fu.vs w [.int .i64 0, .bool false, .slice none 0 0, .int .i64 0, .bool false, .slice none 0 0] rfl)) (w.heap.size + 2) (by simp only [World.size_alloc]))
 generalize ((w.alloc (.cells #[.int .i64 Hu, .bool Ia, .slice Gb (List.length Fv) c0a, .int .i64 Ke, .bool Ki, .slice Iz (List.length Ic) c0b] 79)).alloc (.cells #[.int .i64 Nn, .bool Ze, .slice Dn (List.length Df) c1a, .int .i64 Nl, .bool n1b, .slice Dm (List.length De) Dh] 79)).alloc (.cells #[.int .i64 0, .bool false, .slice none 0 0, .int .i64 0, .bool false, .slice none 0 0] 79) = W0 at *
 have HO := hide hO
 clear hO
 go_upto_region 1 with fail
 refine Rg.region 4 9 (Rg.pick [ax [.q x], ax [.q y], ax [.q v], ax [.q q]]) (az w _ W0) dz [] kr kr rfl (Rg.ek.pick ⟨bf _, bf _, bf _, bf _, trivial⟩) (az.start (aa HO))
  (ah (jc Fu Ib aF [] [.q x] [])
  (ah (jc Fu wz aF [] [.q y] [])
  (ah (sc1 Tryz.func94 (aT 1) (fun W v0 hG h0 => q1b (aa H1) hG.bel h0))
  (ah (sc2 Tryz.func108 (aT 0) (aT 2) (fun W v0 v1 hG h0 h1 => q2b (aa H2) hG.bel h0 h1))
  Rg.bg)))) ?_
 intro v1 V1 hG1 hv1 hne1
 simp only [Rg.puts, Act.put, tA]
 have hO := hG1.1
 refine oo hO 0 [] zQ [.q q] [] rfl Gx rfl (show ax [.q q] V1 (v1 3) from hv1 3 de) rfl rfl rfl ?_
 intro Cg jb hk0
 replace hO := jb
 clear jb
 clear HO
 have HO := hide hO
 clear hO hG1 hv1 hne1 hk0
 go_wp2_with fail
 exact Dy Tryz.results109 Lu rfl (aa HO) me0 rfl rfl
theorem ams {w : World} {x y v q : Rat} (g1 : Nc w 94 y v) (g2 : Er w 108 x v q) : Er w 109 x y q :=
 fun _ _ _ _ _ _ _ _ _ _ _ _ _ _ _ _ _ _ _ _ W hW f1 f2 f3 f4 => (aqc W _ ⟨_, rfl, fu.q f1 f2 rfl⟩ _ ⟨_, rfl, fu.q f3 f4 rfl⟩ (g1.mono hW) (g2.mono hW)).mono fun _ _ h => aqj h
end Sb
theorem bbo {w : World} {K : Nat} (hT : og w) (x y : Rat) (hx : Bi K x) (hy : Bi K y) (hK : K + K + 1 ≤ lim) : Er w 78 x y (x - y) ∧ Bi (K + K + 1) (x - y) := by
 obtain ⟨a, b⟩ := akd hT x (-y) hx hy.neg hK
 rw [Rat.sub_eq_add_neg]
 exact ⟨amr (bbq w y) a, b⟩
theorem bbp {w : World} {K : Nat} (hT : og w) (x y : Rat) (hx : Bi K x) (hy : Bi K y) (hK : K + K + 1 ≤ lim) (h0 : y.num ≠ 0) : Er w 109 x y (x / y) ∧ Bi (K + K) (x / y) := by
 obtain ⟨a, b⟩ := abf hT x (y⁻¹) hx (hy.inv h0) hK
 rw [Rat.div_def]
 exact ⟨ams (akc w y h0) a, b⟩

end Go.Proofs.YtfgeaakhlcaibaaGreatDoor
namespace Go.Proofs.YtfgeaakhlcaibaaGreatDoor
open Go.RowKit


theorem bey {n d : Int} (h : Wd.qm n d) : Bi 1 (Wd.qR n d) := by
 obtain ⟨e1, e2⟩ := Wd.Yz h
 obtain ⟨h1, h2, h3, h4, _⟩ := h
 have B : (1000000000000 : Nat) < dh := by rw [gm]; omega
 exact ⟨by rw [e1]; exact Wd.Sz.of_le om oh (Nat.le_refl _), by rw [e2]; exact Wd.Sz.of_le om oh (Nat.le_refl _)⟩

namespace Sb
def Sm (K : Nat) (x : Rat) : Prop := Bi K x ∧ K ≤ 1000000
theorem Sm.mono {K L : Nat} {x : Rat} (h : Sm K x) (hk : K ≤ L) (hl : L ≤ 1000000) : Sm L x := ⟨h.1.mono hk, hl⟩
theorem Lv : 100000000 ≤ lim := by unfold lim; omega
variable {W : World} {v0 v1 : Value} {x y : Rat} {K : Nat}
theorem Vk (hT : og W) (hx : Sm K x) (hy : Sm K y) (h0 : ax [.q x] W v0) (h1 : ax [.q y] W v1) : Calls Tryz.prog 108 #[v0, v1] W (ic (ax [.q (x * y)]) W) :=
 azf (abf hT x y hx.1 hy.1 (by have := hx.2; have := Lv; omega)).1 h0 h1
theorem bhu {n d : Int} (ok : Wd.qm n d) (h0 : ax [.v (.int .i64 n), .v (.int .i64 d)] W v0) : Calls Tryz.prog 67 #[v0] W (ic (ax [.q (Wd.qR n d)]) W) := by
 rw [Eo h0]
 obtain ⟨e1, e2⟩ := Wd.Yz ok
 obtain ⟨h1, h2, h3, h4, _⟩ := ok
 refine (bbh n d W om om om om).mono fun e w' h => Xg ?_
 rw [e1, e2]; exact h
theorem bju (h0 : ax [.q x] W v0) : Calls Tryz.prog 69 #[v0] W (ic (Rg.au (.tuple #[.agg #[.int .i64 (Wd.told x).n, .int .i64 (Wd.told x).d], .int .i64 (Wd.told x).e])) W) := by
 obtain ⟨s1, n1, A1, c1, l1, s2, n2, A2, c2, l2, rfl, f1, f2⟩ := Gg h0
 exact (Xd s1 n1 A1 c1 l1 _ s2 n2 A2 c2 l2 _ W f1 f2 x rfl rfl).mono fun e w' h => Zz h
theorem bhv (n : Int) (h1 : -9223372036854775808 ≤ n) (h2 : n ≤ 9223372036854775807) (W : World) : Calls Tryz.prog 137 #[.int .i64 n] W (ic (ax [.z n]) W) :=
 (Al n h1 h2 W).mono fun e w' h => abk h
theorem Sm.add (hx : Sm K x) (hy : Sm K y) (h : K + K + 1 ≤ 1000000) (w : World) (hT : og w) : Sm (K + K + 1) (x + y) := ⟨(akd hT x y hx.1 hy.1 (by have := Lv; omega)).2, h⟩
theorem Sm.mul (hx : Sm K x) (hy : Sm K y) (h : K + K ≤ 1000000) (w : World) (hT : og w) : Sm (K + K) (x * y) := ⟨(abf hT x y hx.1 hy.1 (by have := Lv; omega)).2, h⟩
theorem Sm.quo (hx : Sm K x) (hy : Sm K y) (h : K + K ≤ 1000000) (hn : y.num ≠ 0) (w : World) (hT : og w) : Sm (K + K) (x / y) := ⟨(bbp hT x y hx.1 hy.1 (by have := Lv; omega) hn).2, h⟩
theorem Sm.neg (hx : Sm K x) : Sm K (-x) := ⟨hx.1.neg, hx.2⟩
theorem Eg {n d : Int} (ok : Wd.qm n d) : Sm 1 (Wd.qR n d) := ⟨bey ok, by omega⟩
end Sb


def Lc (q : Rat) : World → Value → Prop := fun W v => ∃ A1 c1 l1 m1 A2 c2 l2 m2, v = (Value.agg #[.slice A1 (List.length l1) c1, .bool m1, .slice A2 (List.length l2) c2, .bool m2]) ∧ QV W A1 c1 l1 m1 A2 c2 l2 m2 q
theorem ajy (q : Rat) : Rg.Da dz (Lc q) := by
 rintro w w' v hb ⟨A1, c1, l1, m1, A2, c2, l2, m2, rfl, h⟩
 exact ⟨_, _, _, _, _, _, _, _, rfl, h.below hb⟩
theorem axd {W : World} {b : Nat} (h : W.heap[b]? = some (.cells #[.slice none 0 0, .bool false, .slice none 0 0, .bool false] 68 (0, 0))) : Dv W b 0 :=
 have h0 : ku W none 0 [] false 0 := ⟨qd.Rc W 0 om, rfl⟩
 ⟨none, 0, [], false, none, 0, [], false, h, h0, 0, h0, .inr ⟨rfl, rfl⟩⟩
theorem Dv.lt {W : World} {b : Nat} {q : Rat} (h : Dv W b q) : b < W.heap.size := by
 obtain ⟨_, _, _, _, _, _, _, _, h, _⟩ := h; exact lt_of_block h
theorem apv {ρ : Operand → Value} {w : World} {d : Option Tmp} {x : Operand} {b : Nat} {u0 u1 u2 u3 : Value} {ty : TypeId} {pos : String} {af : Array Edge} {gd : Option (Nat × Bool)} (h : ρ x = .pointer (some ⟨b, 0, none⟩)) (k0 : w.cell? ⟨b, 0, none⟩ = some u0) (k1 : w.cell? ⟨b, 1, none⟩ = some u1) (k2 : w.cell? ⟨b, 2, none⟩ = some u2) (k3 : w.cell? ⟨b, 3, none⟩ = some u3) :
  (execOp ρ { dst := d, op := .load 68 x, type := ty, pos := pos, after := af, guard := gd }).run Tryz.prog w = .ok (.value (.agg #[u0, u1, u2, u3])) w := by
 simp only [execOp, h]
 simp [go_sem, k0, k1, k2, k3]
theorem bao {Q : Exit → Act → World → Prop} {l : List Oper} {n : Nat} {T : Nat → World → Value → Prop} {G : World → Prop} {al : List Nat} {a0 : Act} {k d b : Nat} {x : Operand} {q : Rat} {ty : TypeId} {pos : String} {af : Array Edge} {gd : Option (Nat × Bool)}
  (hal : al.contains k = false) (hx : Rg.ib l n T a0 k x (Rg.au (.pointer (some ⟨b, 0, none⟩)))) (hb : ∀ W, G W → Dv W b q) (hT : T k = Lc q) :
  Rg.Step Tryz.prog Q l n T G dz al a0 k { dst := some d, op := .load 68 x, type := ty, pos := pos, after := af, guard := gd } := by
 intro a w hG hO hN
 obtain ⟨A1, c1, l1, m1, A2, c2, l2, m2, hk, hq⟩ := hb w hG
 exact iq (P := Tryz.prog) (apv (hx a w hO hN) (ag hk 0) (ag hk 1) (ag hk 2) (ag hk 3)) ⟨_, rfl, hG, Below.refl _ _, by rw [hT]; exact ⟨A1, c1, l1, m1, A2, c2, l2, m2, rfl, hq⟩, fun h => by rw [hal] at h; cases h⟩
structure Own (w : World) (bs : List (Nat × Rat)) (W : World) : Prop where
 bel : Below w.heap.size w W
 nd : (bs.map Prod.fst).Nodup
 box : ∀ b q, (b, q) ∈ bs → w.heap.size ≤ b ∧ Dv W b q
theorem Own.nil (w : World) : Own w [] w := ⟨Below.refl _ _, List.nodup_nil, fun b q h => by cases h⟩
theorem Own.step {w : World} {bs : List (Nat × Rat)} : ∀ W W', Own w bs W → dz W W' → Own w bs W' := fun W W' h hb => ⟨ay h.bel hb, h.nd, fun b q hm => ⟨(h.box b q hm).1, (h.box b q hm).2.below hb⟩⟩
theorem Own.lt {w W : World} {bs : List (Nat × Rat)} {b : Nat} {q : Rat} (h : Own w bs W) (hm : (b, q) ∈ bs) : b < W.heap.size := (h.box b q hm).2.lt
theorem Own.add {w W V : World} {bs : List (Nat × Rat)} {b : Nat} {q : Rat} (h : Own w bs V) (Uc : dz V W) (hb : V.heap.size ≤ b) (hq : Dv W b q) : Own w ((b, q) :: bs) W :=
 ⟨ay h.bel Uc, List.nodup_cons.2 ⟨fun hm => by
  obtain ⟨p, hp, he⟩ := List.mem_map.1 hm
  have := h.lt (b := p.1) (q := p.2) hp
  omega, h.nd⟩, fun b' q' hm => by
  rcases List.mem_cons.1 hm with e | hm
  ·
   cases e; exact ⟨Nat.le_trans h.bel.size hb, hq⟩
  ·
   exact ((Own.step V W h Uc).box b' q' hm)⟩
theorem Own.push {w W : World} {bs : List (Nat × Rat)} {q : Rat} {A1 : Option Addr} {c1 : Nat} {l1 : List Nat} {m1 : Bool} {A2 : Option Addr} {c2 : Nat} {l2 : List Nat} {m2 : Bool} (h : Own w bs W) (hv : QV W A1 c1 l1 m1 A2 c2 l2 m2 q) (b : Nat) (hb : b = W.heap.size) : Own w ((b, q) :: bs) (W.alloc (.cells #[.slice A1 l1.length c1, .bool m1, .slice A2 l2.length c2, .bool m2] 68)) := by
 subst hb
 exact h.add ((Below.refl _ _).alloc (Nat.le_refl _) _) (Nat.le_refl _) ⟨_, _, _, _, _, _, _, _, heap_alloc_new W _, hv.below ((Below.refl _ _).alloc (Nat.le_refl _) _)⟩
theorem Own.bji {w W : World} {bs : List (Nat × Rat)} (h : Own w bs W) (b : Nat) (hb : b = W.heap.size) : Own w ((b, 0) :: bs) (W.alloc (.cells #[.slice none 0 0, .bool false, .slice none 0 0, .bool false] 68)) := by
 subst hb
 exact h.add ((Below.refl _ _).alloc (Nat.le_refl _) _) (Nat.le_refl _) (axd (heap_alloc_new W _))
theorem Own.other {w W : World} {bs : List (Nat × Rat)} (o : Obj) (h : Own w bs W) : Own w bs (W.alloc o) := Own.step _ _ h ((Below.refl _ _).alloc (Nat.le_refl _) _)
def bdz (W : World) (b : Nat) (v0 v1 v2 v3 : Value) : World := (((W.setCell ⟨b, 0, none⟩ v0).setCell ⟨b, 1, none⟩ v1).setCell ⟨b, 2, none⟩ v2).setCell ⟨b, 3, none⟩ v3
theorem Own.set {w W : World} {xs ys : List (Nat × Rat)} {b : Nat} {q0 q : Rat} {A1 : Option Addr} {c1 : Nat} {l1 : List Nat} {m1 : Bool} {A2 : Option Addr} {c2 : Nat} {l2 : List Nat} {m2 : Bool} (h : Own w (xs ++ (b, q0) :: ys) W) (hv : QV W A1 c1 l1 m1 A2 c2 l2 m2 q) :
  Own w (xs ++ (b, q) :: ys) (bdz W b (.slice A1 l1.length c1) (.bool m1) (.slice A2 l2.length c2) (.bool m2)) := by
 obtain ⟨hge, hb⟩ := h.box b q0 (List.mem_append_right _ List.mem_cons_self)
 obtain ⟨A, c, l, m, A', c', l', m', h1, h2⟩ := hb
 have hg := uw W b (.slice A1 l1.length c1) (.bool m1) (.slice A2 l2.length c2) (.bool m2)
 have hnd := h.nd
 rw [List.map_append, List.map_cons] at hnd
 have hn : ∀ b' q', (b', q') ∈ xs ++ ys → b' ≠ b := fun b' q' hm e => by
  subst e
  obtain ⟨_, h4, h5⟩ := List.nodup_append.1 hnd
  rcases List.mem_append.1 hm with hm | hm
  ·
   exact h5 b' (List.mem_map.2 ⟨_, hm, rfl⟩) b' List.mem_cons_self rfl
  ·
   exact (List.nodup_cons.1 h4).1 (List.mem_map.2 ⟨_, hm, rfl⟩)
 refine ⟨h.bel.grown hg h.bel.size (fun k hk => by injection hk with hk; omega), by rw [List.map_append, List.map_cons]; exact hnd, fun b' q' hm => ?_⟩
 rcases List.mem_append.1 hm with hm | hm
 rotate_left
 rcases List.mem_cons.1 hm with e | hm
 ·
  cases e
  exact ⟨hge, ⟨_, _, _, _, _, _, _, _, amb h1, hv.upto h1 (Fs _ _ _ _ _ _ _ _) hg⟩⟩
 all_goals
  have hne := hn b' q' (by first | exact List.mem_append_right _ hm | exact List.mem_append_left _ hm)
  obtain ⟨hge', B, d, r, p, B', d', r', p', g1, g2⟩ := h.box b' q' (by first | exact List.mem_append_right _ (List.mem_cons_of_mem _ hm) | exact List.mem_append_left _ hm)
  exact ⟨hge', B, d, r, p, B', d', r', p', (hg.block b' (lt_of_block g1) (fun e => hne (by first | exact Option.some.inj e | exact (Option.some.inj e).symm))).trans g1, g2.upto h1 (Fs _ _ _ _ _ _ _ _) hg⟩
theorem Own.aod {w W V : World} {bs : List (Nat × Rat)} {b b' : Nat} {q q' : Rat} (h : Own w bs V) (Uc : dz V W) (hb : V.heap.size ≤ b) (hq : Dv W b q) (hb' : V.heap.size ≤ b') (hq' : Dv W b' q') (hne : b' ≠ b) : Own w ((b', q') :: (b, q) :: bs) W := by
 have h1 := Own.add h Uc hb hq
 have h2 := Own.add h Uc hb' hq'
 refine ⟨h1.bel, List.nodup_cons.2 ⟨fun hm => ?_, h1.nd⟩, fun c p hm => ?_⟩
 ·
  rw [List.map_cons] at hm
  rcases List.mem_cons.1 hm with e | hm
  ·
   exact hne e
  ·
   exact (List.nodup_cons.1 h2.nd).1 hm
 ·
  rcases List.mem_cons.1 hm with e | hm
  ·
   cases e; exact h2.box _ _ List.mem_cons_self
  ·
   exact h1.box _ _ hm
def az (w : World) (bs : List (Nat × Rat)) (V : World) : World → Prop := fun W => Own w bs W ∧ dz V W
theorem az.step {w V : World} {bs : List (Nat × Rat)} : ∀ W W', az w bs V W → dz W W' → az w bs V W' := fun W W' h hb => ⟨Own.step W W' h.1 hb, ay h.2 hb⟩
theorem az.size {w V : World} {bs : List (Nat × Rat)} : ∀ W, az w bs V W → V.heap.size ≤ W.heap.size := fun _ h => h.2.size
theorem az.start {w V : World} {bs : List (Nat × Rat)} (h : Own w bs V) : az w bs V V.drew := ⟨Own.step _ _ h (dz.drew V), dz.drew V⟩
theorem az.begin {w V : World} {bs : List (Nat × Rat)} (h : Own w bs V) : az w bs V V := ⟨h, Below.refl _ _⟩
theorem az.box {w V W : World} {bs : List (Nat × Rat)} {b : Nat} {q : Rat} (hm : (b, q) ∈ bs) (h : az w bs V W) : Dv W b q := (h.1.box b q hm).2
theorem bet {w w' : World} {q : Rat} {e : Ending} (h : QR w q e w') : ic (Lc q) w e w' := by
 obtain ⟨A1, c1, l1, m1, A2, c2, l2, m2, rfl, h1, h2, hb⟩ := h
 exact ⟨_, rfl, hb, _, _, _, _, _, _, _, _, rfl, QV.of h1 h2⟩
def Wt (z : Int) : World → Value → Prop := fun W v => ∃ A c l m, v = .agg #[.slice A (List.length l) c, .bool m] ∧ ku W A c l m z
theorem ajx (z : Int) : Rg.Da dz (Wt z) := by
 rintro w w' v hb ⟨A, c, l, m, rfl, h⟩
 exact ⟨_, _, _, _, rfl, h.below hb⟩
theorem amh {ρ : Operand → Value} {w : World} {d : Option Tmp} {x y : Operand} {u0 u1 u2 u3 : Value} {ty : TypeId} {pos : String} {af : Array Edge} {gd : Option (Nat × Bool)} (h : ρ x = .agg #[u0, u1]) (h' : ρ y = .agg #[u2, u3]) :
  (execOp ρ { dst := d, op := .build 68 #[(0, x), (1, y)], type := ty, pos := pos, after := af, guard := gd }).run Tryz.prog w = .ok (.value (.agg #[u0, u1, u2, u3])) w := by
 simp [execOp, h, h', go_sem]
theorem aty {Q : Exit → Act → World → Prop} {l : List Oper} {n : Nat} {T : Nat → World → Value → Prop} {G : World → Prop} {al : List Nat} {a0 : Act} {k d : Nat} {x y : Operand} {a b : Int} {q : Rat} {ty : TypeId} {pos : String} {af : Array Edge} {gd : Option (Nat × Bool)}
  (hal : al.contains k = false) (hx : Rg.ib l n T a0 k x (Wt a)) (hy : Rg.ib l n T a0 k y (Wt b)) (ha : a = q.num) (hb : b = (q.den : Int)) (hT : T k = Lc q) :
  Rg.Step Tryz.prog Q l n T G dz al a0 k { dst := some d, op := .build 68 #[(0, x), (1, y)], type := ty, pos := pos, after := af, guard := gd } := by
 intro s w hG hO hN
 obtain ⟨A1, c1, l1, m1, e1, h1⟩ := hx s w hO hN
 obtain ⟨A2, c2, l2, m2, e2, h2⟩ := hy s w hO hN
 subst ha; subst hb
 exact iq (P := Tryz.prog) (amh e1 e2) ⟨_, rfl, hG, Below.refl _ _, by rw [hT]; exact ⟨A1, c1, l1, m1, A2, c2, l2, m2, rfl, QV.of h1 h2⟩, fun h => by rw [hal] at h; cases h⟩
theorem abz {w w' : World} {z : Int} {e : Ending} (h : Io w z e w') : ic (Wt z) w e w' := by
 obtain ⟨A, c, l, m, rfl, h1, hb⟩ := h
 exact ⟨_, rfl, hb, _, _, _, _, rfl, h1⟩
def bih (w : World) (bs : List (Nat × Rat)) (r s : Nat) : World → Prop := fun W => ∃ p q, Own w ((r, p) :: (s, q) :: bs) W
theorem bih.box {w W : World} {bs : List (Nat × Rat)} {r s b : Nat} {x : Rat} (hm : (b, x) ∈ bs) (h : bih w bs r s W) : Dv W b x := by
 obtain ⟨p, q, h⟩ := h
 exact (h.box b x (List.mem_cons_of_mem _ (List.mem_cons_of_mem _ hm))).2
end Go.Proofs.YtfgeaakhlcaibaaGreatDoor
