/- Texts beneath a law of layer 1. -/
import Derived.Test.YtjdnmdlnaoedoaaGreatDoorCs11
import Derived.BigRegion
set_option maxRecDepth 100000
namespace Go.Proofs.YtjdnmdlnaoedoaaGreatDoor
open Go.RowKit

namespace Sb
theorem bam {Q : Exit → Act → World → Prop} {l : List Oper} {n : Nat} {T : Nat → World → Value → Prop} {G : World → Prop} {al : List Nat} {a0 : Act} {k d : Nat} {ty : TypeId} {pos : String} {af : Array Edge} {gd : Option (Nat × Bool)} {b i m : Nat} {x y : Operand} (hal : al.contains k = false) (hx : Rg.mo l n T a0 k x (Rg.bf (.slice (some ⟨b, 0, none⟩) m m))) (hy : Rg.mo l n T a0 k y (Rg.bf (.int .i64 (i : Int)))) (hi : i < m) (hT : T k = Rg.bf (.pointer (some ⟨b, 6 * i, none⟩))) :
  Rg.Step Tryz.prog Q l n T G ik al a0 k { dst := some d, op := .indexAddr 153 x y, type := ty, pos := pos, after := af, guard := gd } := by
 intro a w hG hO hN
 have h1 := hx a w hO hN
 have h2 := hy a w hO hN
 have hr : (execOp a.eval { dst := some d, op := .indexAddr 153 x y, type := ty, pos := pos, after := af, guard := gd }).run Tryz.prog w = .ok (.value (.pointer (some ⟨b, 6 * i, none⟩))) w := by
  have h1' : a.eval x = .slice (some ⟨b, 0, none⟩) m m := h1
  have h2' : a.eval y = .int .i64 (i : Int) := h2
  simp only [execOp, h1', h2']
  simp [go_sem, hi, Nat.mul_comm]
 exact qm (P := Tryz.prog) hr ⟨_, rfl, hG, Below.refl _ _, by rw [hT]; rfl, fun h => by rw [hal] at h; cases h⟩
theorem bal {Q : Exit → Act → World → Prop} {l : List Oper} {n : Nat} {T : Nat → World → Value → Prop} {G : World → Prop} {al : List Nat} {a0 : Act} {k d : Nat} {ty : TypeId} {pos : String} {af : Array Edge} {gd : Option (Nat × Bool)} {b i m : Nat} {x y : Operand} (hal : al.contains k = false) (hx : Rg.mo l n T a0 k x (Rg.bf (.slice (some ⟨b, 0, none⟩) m m))) (hy : Rg.mo l n T a0 k y (Rg.bf (.int .i64 (i : Int)))) (hi : i < m) (hT : T k = Rg.bf (.pointer (some ⟨b, 4 * i, none⟩))) :
  Rg.Step Tryz.prog Q l n T G ik al a0 k { dst := some d, op := .indexAddr 150 x y, type := ty, pos := pos, after := af, guard := gd } := by
 intro a w hG hO hN
 have h1 := hx a w hO hN
 have h2 := hy a w hO hN
 have hr : (execOp a.eval { dst := some d, op := .indexAddr 150 x y, type := ty, pos := pos, after := af, guard := gd }).run Tryz.prog w = .ok (.value (.pointer (some ⟨b, 4 * i, none⟩))) w := by
  have h1' : a.eval x = .slice (some ⟨b, 0, none⟩) m m := h1
  have h2' : a.eval y = .int .i64 (i : Int) := h2
  simp only [execOp, h1', h2']
  simp [go_sem, hi, Nat.mul_comm]
 exact qm (P := Tryz.prog) hr ⟨_, rfl, hG, Below.refl _ _, by rw [hT]; rfl, fun h => by rw [hal] at h; cases h⟩

theorem Tq {n m : Nat} (h1 : n < m) (h2 : m ≤ 1000000) : wrap64 ((n : Int) + 1) = ((n + 1 : Nat) : Int) := (IntWalk.wrap64_in _ om).trans om
theorem Xj {n m : Nat} (h1 : n < m) (h2 : m ≤ 1000000) : Value.int .i64 (wrap64 ((n : Int) + 1)) = Value.int .i64 ((n + 1 : Nat) : Int) := by rw [Tq h1 h2]
theorem measS {n m : Nat} (h1 : n < m) : m - (intOf (Value.int .i64 ((n + 1 : Nat) : Int))).toNat < m - (intOf (Value.int .i64 (n : Int))).toNat := by
 simp only [intOf]; omega
def ko (x : Rat) (l : List Rat) : Rat := l.foldl (fun a y => if jw (y.num * a.den - a.num * y.den) < 0 then y else a) x
def jd (x : Rat) (l : List Rat) : Rat := l.foldl (fun a y => if 0 < jw (y.num * a.den - a.num * y.den) then y else a) x
theorem Ra (x : Rat) (l : List Rat) (y : Rat) : ko x (l ++ [y]) = if jw (y.num * (ko x l).den - (ko x l).num * y.den) < 0 then y else ko x l := by
 unfold ko; rw [List.foldl_append]; rfl
theorem Fx (x : Rat) (l : List Rat) (y : Rat) : jd x (l ++ [y]) = if 0 < jw (y.num * (jd x l).den - (jd x l).num * y.den) then y else jd x l := by
 unfold jd; rw [List.foldl_append]; rfl
theorem Sd {K : Nat} : ∀ {l : List Rat} {x : Rat}, Sm K x → (∀ y ∈ l, Sm K y) → Sm K (ko x l)
 | [], _, h, _ => h
 | y :: l, x, h, hl => by
  refine Sd (l := l) ?_ (fun z hz => hl z (List.mem_cons_of_mem _ hz))
  show Sm K (if jw (y.num * x.den - x.num * y.den) < 0 then y else x)
  split
  ·
   exact hl y List.mem_cons_self
  ·
   exact h
theorem Md {K : Nat} : ∀ {l : List Rat} {x : Rat}, Sm K x → (∀ y ∈ l, Sm K y) → Sm K (jd x l)
 | [], _, h, _ => h
 | y :: l, x, h, hl => by
  refine Md (l := l) ?_ (fun z hz => hl z (List.mem_cons_of_mem _ hz))
  show Sm K (if 0 < jw (y.num * x.den - x.num * y.den) then y else x)
  split
  ·
   exact hl y List.mem_cons_self
  ·
   exact h
theorem aka : ∀ (l : List Rat), lsize (l.map .q) = 6 * l.length
 | [] => rfl
 | x :: l => by rw [List.map_cons, lsize, aka l, List.length_cons]; simp [Leaf.size]; omega
theorem Own.drop {w W : World} {e : Az} {bs : List Az} (h : Own w (e :: bs) W) : Own w bs W :=
 ⟨h.bel, (List.nodup_cons.1 h.nd).2, fun b T ls hm => h.box b T ls (List.mem_cons_of_mem _ hm)⟩
set_option maxHeartbeats 16000000 in
theorem aqz {x : Rat} {qs : List Rat} {K : Nat} (sx : Sm K x) (sq : ∀ y ∈ qs, Sm K y) (hm : qs.length ≤ 1000000) (w : World) (u0 u1 : Value) (h0 : ai [.q x] w u0) (h1 : Zh 74 qs.length (qs.map .q) w u1) :
  Calls Tryz.prog 155 #[u0, u1] w (jh (tq [ai [.q (ko x qs)], ai [.q (jd x qs)]]) w) := by
 obtain ⟨b0, rfl, hbx⟩ := h1
 have Qm := hide sx
 have HSQ := hide sq
 have HLEN := hide hm
 have HBX := hide hbx
 clear sx sq hbx hm
 obtain ⟨Ak, wh, ry, c0a, rq, Br, xw, uh, c0b, ug, rfl, f0a, zq⟩ := Gi h0
 go_enter Tryz.func155, Tryz.ntmps155
 go_upto_region 1 with fail
 have hO := (Own.push (T := 74) (ls := zQ) (cs := [.int .i64 0, .bool false, .slice none 0 0, .int .i64 0, .bool false, .slice none 0 0]) (Own.push (T := 74) (ls := zQ) (cs := [.int .i64 0, .bool false, .slice none 0 0, .int .i64 0, .bool false, .slice none 0 0]) (Own.push (T := 74) (ls := [.q x]) (cs := [.int .i64 Ak, .bool wh, .slice ry (List.length rq) c0a, .int .i64 Br, .bool xw, .slice uh (List.length ug) c0b]) (Own.nil w) (ek.q f0a zq rfl) (w.heap.size) rfl) (((ek.vs w [.int .i64 0, .bool false, .slice none 0 0, .int .i64 0, .bool false, .slice none 0 0] rfl) : ek w zQ [.int .i64 0, .bool false, .slice none 0 0, .int .i64 0, .bool false, .slice none 0 0]).below (by repeat (first | exact Below.refl _ _ | refine ja ?_ _))) (w.heap.size + 1) (by simp only [World.size_alloc])) (((ek.vs w [.int .i64 0, .bool false, .slice none 0 0, .int .i64 0, .bool false, .slice none 0 0] rfl) : ek w zQ [.int .i64 0, .bool false, .slice none 0 0, .int .i64 0, .bool false, .slice none 0 0]).below (by repeat (first | exact Below.refl _ _ | refine ja ?_ _))) (w.heap.size + 2) (by simp only [World.size_alloc]))
 generalize ((w.alloc (.cells #[.int .i64 Ak, .bool wh, .slice ry (List.length rq) c0a, .int .i64 Br, .bool xw, .slice uh (List.length ug) c0b] 74)).alloc (.cells #[.int .i64 0, .bool false, .slice none 0 0, .int .i64 0, .bool false, .slice none 0 0] 74)).alloc (.cells #[.int .i64 0, .bool false, .slice none 0 0, .int .i64 0, .bool false, .slice none 0 0] 74) = W0 at *
 have HO := hide hO
 clear hO
 go_upto_region 1 with fail
 refine Rg.region 4 31 (Rg.pick [ai [.q x], ai [.q x], StT (w.heap.size + 1, 74, [.q x]), StT (w.heap.size + 2, 74, [.q x])]) (GS w [(w.heap.size + 2, 74, zQ), (w.heap.size + 1, 74, zQ), (w.heap.size, 74, [.q x])] (w.heap.size + 1, 74, [.q x]) (w.heap.size + 2, 74, [.q x])) (ES (w.heap.size + 1, 74, [.q x]) (w.heap.size + 2, 74, [.q x])) [] kr kr rfl (Rg.gm.pick ⟨(xq _), (xq _), (Ls (.inl (by show (w.heap.size + 1 : Nat) ≠ w.heap.size + 2; omega)) (.inl rfl)), (Ls (.inl (by show (w.heap.size + 1 : Nat) ≠ w.heap.size + 2; omega)) (.inr rfl)), trivial⟩) (GS.start (aa HO))
  (Rg.bg (Rg.plain rfl (rf (Bd (b := w.heap.size) (off := 0) (TB := 74) (pre := []) (mid := [.q x]) (post := []) nz rfl (Rg.cz kr rfl) (fun W h => GS.get qo (fun h => absurd (show (w.heap.size + 1 : Nat) = w.heap.size from h) (by first | omega | (intro h; exact _root_.trivial h))) (fun h => absurd (show (w.heap.size + 2 : Nat) = w.heap.size from h) (by first | omega | (intro h; exact _root_.trivial h))) h) rfl rfl rfl)))
   (Rg.bg (Rg.plain rfl (rf (Bd (b := w.heap.size) (off := 0) (TB := 74) (pre := []) (mid := [.q x]) (post := []) nz rfl (Rg.cz kr rfl) (fun W h => GS.get qo (fun h => absurd (show (w.heap.size + 1 : Nat) = w.heap.size from h) (by first | omega | (intro h; exact _root_.trivial h))) (fun h => absurd (show (w.heap.size + 2 : Nat) = w.heap.size from h) (by first | omega | (intro h; exact _root_.trivial h))) h) rfl rfl rfl)))
   (Rg.bg (Rg.plain rfl (Lv (b := w.heap.size + 1) (old := zQ) (new := [.q x]) Bq rfl (Rg.cz kr rfl) (Rg.ax 0 kr) nu (aa HO).nd (.inl rfl) (.inl (by show (w.heap.size + 1 : Nat) ≠ w.heap.size + 2; omega)) rfl rfl rfl))
   (Rg.bg (Rg.plain rfl (Lv (b := w.heap.size + 2) (old := zQ) (new := [.q x]) Bq rfl (Rg.cz kr rfl) (Rg.ax 1 kr) me0 (aa HO).nd (.inr rfl) (.inl (by show (w.heap.size + 1 : Nat) ≠ w.heap.size + 2; omega)) rfl rfl rfl))
   Rg.cu)))) ?_
 intro v1 V1 hG1 hv1 hne1
 simp only [Rg.puts, jr, jq, jo, jm, Act.put, jl, jk, ji]
 have hO : Own w [(w.heap.size + 2, 74, [.q x]), (w.heap.size + 1, 74, [.q x]), (w.heap.size, 74, [.q x])] V1 := by
  refine ⟨hG1.bel, (aa HO).nd, fun b T ls hm => ?_⟩
  rcases List.mem_cons.1 hm with e | hm
  ·
   cases e; exact ⟨(hG1.box _ _ _ me0).1, hv1 3 (by decide)⟩
  rcases List.mem_cons.1 hm with e | hm
  ·
   cases e; exact ⟨(hG1.box _ _ _ nu).1, hv1 2 (by decide)⟩
  rcases List.mem_cons.1 hm with e | hm
  ·
   cases e; exact ⟨(hG1.box _ _ _ qo).1, GS.get qo (fun h => absurd (show (w.heap.size + 1 : Nat) = w.heap.size from h) (by first | omega | (intro h; exact _root_.trivial h))) (fun h => absurd (show (w.heap.size + 2 : Nat) = w.heap.size from h) (by first | omega | (intro h; exact _root_.trivial h))) hG1⟩
  cases hm
 clear HO
 have HO := hide hO
 clear hO hG1 hv1 hne1
 go_wp2_with fail
 go_loopw [12] (fun iv wr => ∃ q1 q2 : List Rat, qs = q1 ++ q2 ∧ iv = .int .i64 ((q1.length : Nat) : Int) ∧ Hid (Own w [(w.heap.size + 2, 74, [.q (jd x q1)]), (w.heap.size + 1, 74, [.q (ko x q1)]), (w.heap.size, 74, [.q x])] wr)) (fun iv _ => qs.length - (intOf iv).toNat)
 case atStart => exact ⟨[], qs, rfl, rfl, HO⟩
 case round =>
  obtain ⟨q1, q2, Ec, rfl, HO⟩ := hrel
  rcases q2 with _ | ⟨y, q2⟩
  ·
   have d1 : decide ((q1.length : Int) < (qs.length : Int)) = false := decide_eq_false (by rw [Ec]; simp)
   rw [List.append_nil] at Ec
   obtain rfl : q1 = qs := Ec.symm
   go_upto_region 3 with fail
   refine Rg.fw 1 31 (Rg.pick [Rg.bf (.bool false)]) (ay w [(w.heap.size + 2, 74, [.q (jd x q1)]), (w.heap.size + 1, 74, [.q (ko x q1)]), (w.heap.size, 74, [.q x])] wr) ik [] kr rfl (Rg.gm.pick ⟨Rg.ag _, trivial⟩) (ay.begin (aa HO))
    (ae (Ie rfl (Rg.cz kr rfl) (Rg.cz kr rfl) rfl d1)
    Rg.cu) ?_
   intro v2 V2 hG2 hv2 hne2
   simp only [Rg.puts, jr, jq, jo, jm, Act.put, jl, jk, ji]
   have e0 : v2 0 = .bool false := hv2 0 (by decide)
   simp only [e0]
   have hO := hG2.1
   clear HO
   have HO := hide hO
   clear hO hG2 hv2 hne2
   try clear e0
   go_upto_region 10 with fail
   refine Rg.region 4 31 (Rg.pick [ai [.q (ko x q1)], ai [.q (jd x q1)], StT (w.heap.size + 1, 74, [.q (ko x q1)]), StT (w.heap.size + 2, 74, [.q (jd x q1)])]) (GS w [(w.heap.size + 2, 74, [.q (jd x q1)]), (w.heap.size + 1, 74, [.q (ko x q1)]), (w.heap.size, 74, [.q x])] (w.heap.size + 1, 74, [.q (ko x q1)]) (w.heap.size + 2, 74, [.q (jd x q1)])) (ES (w.heap.size + 1, 74, [.q (ko x q1)]) (w.heap.size + 2, 74, [.q (jd x q1)])) [] kr kr rfl (Rg.gm.pick ⟨(xq _), (xq _), (Ls (.inl (by show (w.heap.size + 1 : Nat) ≠ w.heap.size + 2; omega)) (.inl rfl)), (Ls (.inl (by show (w.heap.size + 1 : Nat) ≠ w.heap.size + 2; omega)) (.inr rfl)), trivial⟩) (GS.start (aa HO))
    (Rg.bg (Rg.plain rfl (rf (Bd (b := w.heap.size + 1) (off := 0) (TB := 74) (pre := []) (mid := [.q (ko x q1)]) (post := []) nz rfl (Rg.cz kr rfl) (fun W h => GS.get nu (fun _ => rfl) (fun h => absurd (show (w.heap.size + 2 : Nat) = w.heap.size + 1 from h) (by first | omega | (intro h; exact _root_.trivial h))) h) rfl rfl rfl)))
     (Rg.bg (Rg.plain rfl (rf (Bd (b := w.heap.size + 2) (off := 0) (TB := 74) (pre := []) (mid := [.q (jd x q1)]) (post := []) nz rfl (Rg.cz kr rfl) (fun W h => GS.get me0 (fun h => absurd (show (w.heap.size + 1 : Nat) = w.heap.size + 2 from h) (by first | omega | (intro h; exact _root_.trivial h))) (fun _ => rfl) h) rfl rfl rfl)))
     (Rg.bg (Rg.plain rfl (Lv (b := w.heap.size + 1) (old := [.q (ko x q1)]) (new := [.q (ko x q1)]) Bq rfl (Rg.cz kr rfl) (Rg.ax 0 kr) nu (aa HO).nd (.inl rfl) (.inl (by show (w.heap.size + 1 : Nat) ≠ w.heap.size + 2; omega)) rfl rfl rfl))
     (Rg.bg (Rg.plain rfl (Lv (b := w.heap.size + 2) (old := [.q (jd x q1)]) (new := [.q (jd x q1)]) Bq rfl (Rg.cz kr rfl) (Rg.ax 1 kr) me0 (aa HO).nd (.inr rfl) (.inl (by show (w.heap.size + 1 : Nat) ≠ w.heap.size + 2; omega)) rfl rfl rfl))
     Rg.cu)))) ?_
   intro v3 V3 hG3 hv3 qh
   simp only [Rg.puts, jr, jq, jo, jm, Act.put, jl, jk, ji]
   have hO : Own w [(w.heap.size + 2, 74, [.q (jd x q1)]), (w.heap.size + 1, 74, [.q (ko x q1)]), (w.heap.size, 74, [.q x])] V3 := by
    refine ⟨hG3.bel, (aa HO).nd, fun b T ls hm => ?_⟩
    rcases List.mem_cons.1 hm with e | hm
    ·
     cases e; exact ⟨(hG3.box _ _ _ me0).1, hv3 3 (by decide)⟩
    rcases List.mem_cons.1 hm with e | hm
    ·
     cases e; exact ⟨(hG3.box _ _ _ nu).1, hv3 2 (by decide)⟩
    rcases List.mem_cons.1 hm with e | hm
    ·
     cases e; exact ⟨(hG3.box _ _ _ qo).1, GS.get qo (fun h => absurd (show (w.heap.size + 1 : Nat) = w.heap.size from h) (by first | omega | (intro h; exact _root_.trivial h))) (fun h => absurd (show (w.heap.size + 2 : Nat) = w.heap.size from h) (by first | omega | (intro h; exact _root_.trivial h))) hG3⟩
    cases hm
   clear HO
   have HO := hide hO
   clear hO hG3 hv3 qh
   go_wp2_with fail
   exact bcz Tryz.results155 Oy Oy rfl rfl (aa HO) nu me0 rfl rfl rfl
  ·
   have d1 : decide ((q1.length : Int) < (qs.length : Int)) = true := decide_eq_true (by rw [Ec]; simp; omega)
   have yc := hide (show q1.length < qs.length by rw [Ec]; simp)
   have Je := hide Ec
   have HY := hide ((aa HSQ) y (by rw [Ec]; simp))
   have Ml := hide (fun z (hz : z ∈ q1) => (aa HSQ) z (by rw [Ec]; exact List.mem_append_left _ hz))
   have hB := (aa HBX)
   rw [Ec, List.map_append, List.map_cons] at hB
   have HB := hide hB
   clear hB Ec
   go_upto_region 3 with fail
   refine Rg.fw 1 31 (Rg.pick [Rg.bf (.bool true)]) (ay w [(w.heap.size + 2, 74, [.q (jd x q1)]), (w.heap.size + 1, 74, [.q (ko x q1)]), (w.heap.size, 74, [.q x])] wr) ik [] kr rfl (Rg.gm.pick ⟨Rg.ag _, trivial⟩) (ay.begin (aa HO))
    (ae (Ie rfl (Rg.cz kr rfl) (Rg.cz kr rfl) rfl d1)
    Rg.cu) ?_
   intro v2 V2 hG2 hv2 hne2
   simp only [Rg.puts, jr, jq, jo, jm, Act.put, jl, jk, ji]
   have e0 : v2 0 = .bool true := hv2 0 (by decide)
   simp only [e0]
   have hO := hG2.1
   clear HO
   have HO := hide hO
   clear hO hG2 hv2 hne2
   try clear e0
   clear d1
   go_upto_region 4 with fail
   refine Rg.fw 3 31 (Rg.pick [Rg.bf (.pointer (some ⟨b0, 6 * q1.length, none⟩)), ai [.q y], tu 74 zQ V2.heap.size]) (ay w [(w.heap.size + 2, 74, [.q (jd x q1)]), (w.heap.size + 1, 74, [.q (ko x q1)]), (w.heap.size, 74, [.q x])] V2) ik [2] kr rfl (Rg.gm.pick ⟨Rg.ag _, au _, uq _ _ _, trivial⟩) (ay.begin (aa HO))
    (ae (bam (i := q1.length) (m := qs.length) rfl (Rg.cz kr rfl) (Rg.cz kr rfl) (aa yc) rfl)
    (ae (Bd (b := b0) (off := 6 * q1.length) (TB := 74) (pre := q1.map .q) (mid := [.q y]) (post := q2.map .q) nz rfl (Rg.ax 0 kr) (fun W h => (aa HB).below h.1.bel) (aka q1) rfl rfl)
    (ae (xc aff rfl ay.step ay.size rfl (ym (by intro j hj; simp at hj; (repeat' (first | (rcases hj with rfl | hj))) <;> first | (subst hj; exact ⟨_, _, _, rfl⟩) | exact ⟨_, _, _, rfl⟩)))
    Rg.cu))) ?_
   intro v3 V3 hG3 hv3 qh
   simp only [Rg.puts, jr, jq, jo, jm, Act.put, jl, jk, ji]
   obtain ⟨Uy, e2, Wt, hz2⟩ := (show tu 74 zQ V2.heap.size V3 (v3 2) from hv3 2 (by decide))
   simp only [e2]
   have hO := hG3.1
   replace hO := Own.add (aa HO) hG3.2 Wt hz2
   clear Wt hz2
   refine ky hO 0 [] zQ [.q y] [] rfl Bq rfl (show ai [.q y] V3 (v3 1) from hv3 1 (by decide)) rfl rfl rfl ?_
   intro Ea iy hk0
   replace hO := iy
   clear iy
   clear HO
   have HO := hide hO
   clear hO hG3 hv3 qh hk0
   try clear e2
   by_cases g1 : jw (y.num * (ko x q1).den - (ko x q1).num * y.den) < 0
   ·
    have d2 : decide (jw (y.num * (ko x q1).den - (ko x q1).num * y.den) < 0) = true := decide_eq_true g1
    have hm : ko x (q1 ++ [y]) = y := by rw [Ra, if_pos g1]
    have HM := hide hm
    clear g1 hm
    go_upto_region 5 with fail
    refine Rg.fw 5 31 (Rg.pick [ai [.q y], IfT 74 [.q y], ai [.q (ko x q1)], Rg.bf (.int .i64 (jw (y.num * (ko x q1).den - (ko x q1).num * y.den))), Rg.bf (.bool true)]) (ay w [(Uy, 74, [.q y]), (w.heap.size + 2, 74, [.q (jd x q1)]), (w.heap.size + 1, 74, [.q (ko x q1)]), (w.heap.size, 74, [.q x])] Ea) ik [] kr rfl (Rg.gm.pick ⟨au _, Ou _ _, au _, Rg.ag _, Rg.ag _, trivial⟩) (ay.begin (aa HO))
     (ae (fo nz me0 (Rg.cz kr rfl) [] [.q y] [])
     (ae (Ov rfl (Rg.ax 0 kr) rfl)
     (ae (fo nz qo (Rg.cz kr rfl) [] [.q (ko x q1)] [])
     (ae (Lx rfl ay.step (Rg.ax 1 kr) (Rg.ax 2 kr) (fun W v0 v1 hG h0 h1 => Ik (aa HY) (Sd (aa Qm) (aa Ml)) h0 h1))
     (ae (Ie rfl (Rg.ax 3 kr) (Rg.mh _) rfl d2)
     Rg.cu))))) ?_
    intro v4 V4 hG4 hv4 yg
    simp only [Rg.puts, jr, jq, jo, jm, Act.put, jl, jk, ji]
    have e4 : v4 4 = .bool true := hv4 4 (by decide)
    simp only [e4]
    have hO := hG4.1
    clear HO
    have HO := hide hO
    clear hO hG4 hv4 yg
    try clear e4
    clear d2
    go_upto_region 6 with fail
    refine Rg.fw 1 31 (Rg.pick [ai [.q y]]) (ay w [(Uy, 74, [.q y]), (w.heap.size + 2, 74, [.q (jd x q1)]), (w.heap.size + 1, 74, [.q (ko x q1)]), (w.heap.size, 74, [.q x])] V4) ik [] kr rfl (Rg.gm.pick ⟨au _, trivial⟩) (ay.begin (aa HO))
     (ae (fo nz me0 (Rg.cz kr rfl) [] [.q y] [])
     Rg.cu) ?_
    intro v5 V5 Ap hv5 hne5
    simp only [Rg.puts, jr, jq, jo, jm, Act.put, jl, jk, ji]
    have hO := Ap.1
    refine ky hO 2 [] [.q (ko x q1)] [.q y] [] rfl Bq rfl (show ai [.q y] V5 (v5 0) from hv5 0 (by decide)) rfl rfl rfl ?_
    intro Ro iy hk0
    replace hO := iy
    clear iy
    clear HO
    have HO := hide hO
    clear hO Ap hv5 hne5 hk0
    by_cases g3 : 0 < jw (y.num * (jd x q1).den - (jd x q1).num * y.den)
    ·
     have d3 : decide (0 < jw (y.num * (jd x q1).den - (jd x q1).num * y.den)) = true := decide_eq_true g3
     have hx : jd x (q1 ++ [y]) = y := by rw [Fx, if_pos g3]
     have HX := hide hx
     clear g3 hx
     go_upto_region 7 with fail
     refine Rg.fw 5 31 (Rg.pick [ai [.q y], IfT 74 [.q y], ai [.q (jd x q1)], Rg.bf (.int .i64 (jw (y.num * (jd x q1).den - (jd x q1).num * y.den))), Rg.bf (.bool true)]) (ay w [(Uy, 74, [.q y]), (w.heap.size + 2, 74, [.q (jd x q1)]), (w.heap.size + 1, 74, [.q y]), (w.heap.size, 74, [.q x])] Ro) ik [] kr rfl (Rg.gm.pick ⟨au _, Ou _ _, au _, Rg.ag _, Rg.ag _, trivial⟩) (ay.begin (aa HO))
      (ae (fo nz me0 (Rg.cz kr rfl) [] [.q y] [])
      (ae (Ov rfl (Rg.ax 0 kr) rfl)
      (ae (fo nz nu (Rg.cz kr rfl) [] [.q (jd x q1)] [])
      (ae (Lx rfl ay.step (Rg.ax 1 kr) (Rg.ax 2 kr) (fun W v0 v1 hG h0 h1 => Ik (aa HY) (Md (aa Qm) (aa Ml)) h0 h1))
      (ae (Gx rfl (Rg.ax 3 kr) (Rg.mh _) rfl d3)
      Rg.cu))))) ?_
     intro v6 V6 Et hv6 Gg
     simp only [Rg.puts, jr, jq, jo, jm, Act.put, jl, jk, ji]
     have e4 : v6 4 = .bool true := hv6 4 (by decide)
     simp only [e4]
     have hO := Et.1
     clear HO
     have HO := hide hO
     clear hO Et hv6 Gg
     try clear e4
     clear d3
     go_upto_region 8 with fail
     refine Rg.fw 1 31 (Rg.pick [ai [.q y]]) (ay w [(Uy, 74, [.q y]), (w.heap.size + 2, 74, [.q (jd x q1)]), (w.heap.size + 1, 74, [.q y]), (w.heap.size, 74, [.q x])] V6) ik [] kr rfl (Rg.gm.pick ⟨au _, trivial⟩) (ay.begin (aa HO))
      (ae (fo nz me0 (Rg.cz kr rfl) [] [.q y] [])
      Rg.cu) ?_
     intro v7 V7 Nk hv7 Qa
     simp only [Rg.puts, jr, jq, jo, jm, Act.put, jl, jk, ji]
     have hO := Nk.1
     refine ky hO 1 [] [.q (jd x q1)] [.q y] [] rfl Bq rfl (show ai [.q y] V7 (v7 0) from hv7 0 (by decide)) rfl rfl rfl ?_
     intro anc iy hk0
     replace hO := iy
     clear iy
     clear HO
     have HO := hide hO
     clear hO Nk hv7 Qa hk0
     go_wp2_with fail
     go_roundw
     case rel =>
      refine ⟨q1 ++ [y], q2, by rw [aa Je]; simp, by have h1 := aa yc; have h2 := aa HLEN; rw [List.length_append, List.length_singleton]; exact Xj h1 h2, hide ?_⟩
      rw [aa HM, aa HX]
      exact (aa HO).drop
     case measure =>
      have h1 := aa yc; have h2 := aa HLEN
      clear HO Je HB
      rw [Tq h1 h2]
      exact measS h1
    ·
     have d3 : decide (0 < jw (y.num * (jd x q1).den - (jd x q1).num * y.den)) = false := decide_eq_false g3
     have hx : jd x (q1 ++ [y]) = jd x q1 := by rw [Fx, if_neg g3]
     have HX := hide hx
     clear g3 hx
     go_upto_region 7 with fail
     refine Rg.fw 5 31 (Rg.pick [ai [.q y], IfT 74 [.q y], ai [.q (jd x q1)], Rg.bf (.int .i64 (jw (y.num * (jd x q1).den - (jd x q1).num * y.den))), Rg.bf (.bool false)]) (ay w [(Uy, 74, [.q y]), (w.heap.size + 2, 74, [.q (jd x q1)]), (w.heap.size + 1, 74, [.q y]), (w.heap.size, 74, [.q x])] Ro) ik [] kr rfl (Rg.gm.pick ⟨au _, Ou _ _, au _, Rg.ag _, Rg.ag _, trivial⟩) (ay.begin (aa HO))
      (ae (fo nz me0 (Rg.cz kr rfl) [] [.q y] [])
      (ae (Ov rfl (Rg.ax 0 kr) rfl)
      (ae (fo nz nu (Rg.cz kr rfl) [] [.q (jd x q1)] [])
      (ae (Lx rfl ay.step (Rg.ax 1 kr) (Rg.ax 2 kr) (fun W v0 v1 hG h0 h1 => Ik (aa HY) (Md (aa Qm) (aa Ml)) h0 h1))
      (ae (Gx rfl (Rg.ax 3 kr) (Rg.mh _) rfl d3)
      Rg.cu))))) ?_
     intro v6 V6 Et hv6 Gg
     simp only [Rg.puts, jr, jq, jo, jm, Act.put, jl, jk, ji]
     have e4 : v6 4 = .bool false := hv6 4 (by decide)
     simp only [e4]
     have hO := Et.1
     clear HO
     have HO := hide hO
     clear hO Et hv6 Gg
     try clear e4
     clear d3
     go_wp2_with fail
     go_roundw
     case rel =>
      refine ⟨q1 ++ [y], q2, by rw [aa Je]; simp, by have h1 := aa yc; have h2 := aa HLEN; rw [List.length_append, List.length_singleton]; exact Xj h1 h2, hide ?_⟩
      rw [aa HM, aa HX]
      exact (aa HO).drop
     case measure =>
      have h1 := aa yc; have h2 := aa HLEN
      clear HO Je HB
      rw [Tq h1 h2]
      exact measS h1
   ·
    have d2 : decide (jw (y.num * (ko x q1).den - (ko x q1).num * y.den) < 0) = false := decide_eq_false g1
    have hm : ko x (q1 ++ [y]) = ko x q1 := by rw [Ra, if_neg g1]
    have HM := hide hm
    clear g1 hm
    go_upto_region 5 with fail
    refine Rg.fw 5 31 (Rg.pick [ai [.q y], IfT 74 [.q y], ai [.q (ko x q1)], Rg.bf (.int .i64 (jw (y.num * (ko x q1).den - (ko x q1).num * y.den))), Rg.bf (.bool false)]) (ay w [(Uy, 74, [.q y]), (w.heap.size + 2, 74, [.q (jd x q1)]), (w.heap.size + 1, 74, [.q (ko x q1)]), (w.heap.size, 74, [.q x])] Ea) ik [] kr rfl (Rg.gm.pick ⟨au _, Ou _ _, au _, Rg.ag _, Rg.ag _, trivial⟩) (ay.begin (aa HO))
     (ae (fo nz me0 (Rg.cz kr rfl) [] [.q y] [])
     (ae (Ov rfl (Rg.ax 0 kr) rfl)
     (ae (fo nz qo (Rg.cz kr rfl) [] [.q (ko x q1)] [])
     (ae (Lx rfl ay.step (Rg.ax 1 kr) (Rg.ax 2 kr) (fun W v0 v1 hG h0 h1 => Ik (aa HY) (Sd (aa Qm) (aa Ml)) h0 h1))
     (ae (Ie rfl (Rg.ax 3 kr) (Rg.mh _) rfl d2)
     Rg.cu))))) ?_
    intro v4 V4 hG4 hv4 yg
    simp only [Rg.puts, jr, jq, jo, jm, Act.put, jl, jk, ji]
    have e4 : v4 4 = .bool false := hv4 4 (by decide)
    simp only [e4]
    have hO := hG4.1
    clear HO
    have HO := hide hO
    clear hO hG4 hv4 yg
    try clear e4
    clear d2
    by_cases g3 : 0 < jw (y.num * (jd x q1).den - (jd x q1).num * y.den)
    ·
     have d3 : decide (0 < jw (y.num * (jd x q1).den - (jd x q1).num * y.den)) = true := decide_eq_true g3
     have hx : jd x (q1 ++ [y]) = y := by rw [Fx, if_pos g3]
     have HX := hide hx
     clear g3 hx
     go_upto_region 7 with fail
     refine Rg.fw 5 31 (Rg.pick [ai [.q y], IfT 74 [.q y], ai [.q (jd x q1)], Rg.bf (.int .i64 (jw (y.num * (jd x q1).den - (jd x q1).num * y.den))), Rg.bf (.bool true)]) (ay w [(Uy, 74, [.q y]), (w.heap.size + 2, 74, [.q (jd x q1)]), (w.heap.size + 1, 74, [.q (ko x q1)]), (w.heap.size, 74, [.q x])] V4) ik [] kr rfl (Rg.gm.pick ⟨au _, Ou _ _, au _, Rg.ag _, Rg.ag _, trivial⟩) (ay.begin (aa HO))
      (ae (fo nz me0 (Rg.cz kr rfl) [] [.q y] [])
      (ae (Ov rfl (Rg.ax 0 kr) rfl)
      (ae (fo nz nu (Rg.cz kr rfl) [] [.q (jd x q1)] [])
      (ae (Lx rfl ay.step (Rg.ax 1 kr) (Rg.ax 2 kr) (fun W v0 v1 hG h0 h1 => Ik (aa HY) (Md (aa Qm) (aa Ml)) h0 h1))
      (ae (Gx rfl (Rg.ax 3 kr) (Rg.mh _) rfl d3)
      Rg.cu))))) ?_
     intro v5 V5 Ap hv5 hne5
     simp only [Rg.puts, jr, jq, jo, jm, Act.put, jl, jk, ji]
     have e4 : v5 4 = .bool true := hv5 4 (by decide)
     simp only [e4]
     have hO := Ap.1
     clear HO
     have HO := hide hO
     clear hO Ap hv5 hne5
     try clear e4
     clear d3
     go_upto_region 8 with fail
     refine Rg.fw 1 31 (Rg.pick [ai [.q y]]) (ay w [(Uy, 74, [.q y]), (w.heap.size + 2, 74, [.q (jd x q1)]), (w.heap.size + 1, 74, [.q (ko x q1)]), (w.heap.size, 74, [.q x])] V5) ik [] kr rfl (Rg.gm.pick ⟨au _, trivial⟩) (ay.begin (aa HO))
      (ae (fo nz me0 (Rg.cz kr rfl) [] [.q y] [])
      Rg.cu) ?_
     intro v6 V6 Et hv6 Gg
     simp only [Rg.puts, jr, jq, jo, jm, Act.put, jl, jk, ji]
     have hO := Et.1
     refine ky hO 1 [] [.q (jd x q1)] [.q y] [] rfl Bq rfl (show ai [.q y] V6 (v6 0) from hv6 0 (by decide)) rfl rfl rfl ?_
     intro avt iy hk0
     replace hO := iy
     clear iy
     clear HO
     have HO := hide hO
     clear hO Et hv6 Gg hk0
     go_wp2_with fail
     go_roundw
     case rel =>
      refine ⟨q1 ++ [y], q2, by rw [aa Je]; simp, by have h1 := aa yc; have h2 := aa HLEN; rw [List.length_append, List.length_singleton]; exact Xj h1 h2, hide ?_⟩
      rw [aa HM, aa HX]
      exact (aa HO).drop
     case measure =>
      have h1 := aa yc; have h2 := aa HLEN
      clear HO Je HB
      rw [Tq h1 h2]
      exact measS h1
    ·
     have d3 : decide (0 < jw (y.num * (jd x q1).den - (jd x q1).num * y.den)) = false := decide_eq_false g3
     have hx : jd x (q1 ++ [y]) = jd x q1 := by rw [Fx, if_neg g3]
     have HX := hide hx
     clear g3 hx
     go_upto_region 7 with fail
     refine Rg.fw 5 31 (Rg.pick [ai [.q y], IfT 74 [.q y], ai [.q (jd x q1)], Rg.bf (.int .i64 (jw (y.num * (jd x q1).den - (jd x q1).num * y.den))), Rg.bf (.bool false)]) (ay w [(Uy, 74, [.q y]), (w.heap.size + 2, 74, [.q (jd x q1)]), (w.heap.size + 1, 74, [.q (ko x q1)]), (w.heap.size, 74, [.q x])] V4) ik [] kr rfl (Rg.gm.pick ⟨au _, Ou _ _, au _, Rg.ag _, Rg.ag _, trivial⟩) (ay.begin (aa HO))
      (ae (fo nz me0 (Rg.cz kr rfl) [] [.q y] [])
      (ae (Ov rfl (Rg.ax 0 kr) rfl)
      (ae (fo nz nu (Rg.cz kr rfl) [] [.q (jd x q1)] [])
      (ae (Lx rfl ay.step (Rg.ax 1 kr) (Rg.ax 2 kr) (fun W v0 v1 hG h0 h1 => Ik (aa HY) (Md (aa Qm) (aa Ml)) h0 h1))
      (ae (Gx rfl (Rg.ax 3 kr) (Rg.mh _) rfl d3)
      Rg.cu))))) ?_
     intro v5 V5 Ap hv5 hne5
     simp only [Rg.puts, jr, jq, jo, jm, Act.put, jl, jk, ji]
     have e4 : v5 4 = .bool false := hv5 4 (by decide)
     simp only [e4]
     have hO := Ap.1
     clear HO
     have HO := hide hO
     clear hO Ap hv5 hne5
     try clear e4
     clear d3
     go_wp2_with fail
     go_roundw
     case rel =>
      refine ⟨q1 ++ [y], q2, by rw [aa Je]; simp, by have h1 := aa yc; have h2 := aa HLEN; rw [List.length_append, List.length_singleton]; exact Xj h1 h2, hide ?_⟩
      rw [aa HM, aa HX]
      exact (aa HO).drop
     case measure =>
      have h1 := aa yc; have h2 := aa HLEN
      clear HO Je HB
      rw [Tq h1 h2]
      exact measS h1
end Sb

end Go.Proofs.YtjdnmdlnaoedoaaGreatDoor
namespace Go.Proofs.YtjdnmdlnaoedoaaGreatDoor
open Go.RowKit

namespace Sb
set_option maxHeartbeats 16000000 in
theorem avo {x : Rat} {qs : List Rat} {K : Nat} (sx : Sm K x) (sq : ∀ y ∈ qs, Sm K y) (hm : qs.length ≤ 1000000) (w : World) (u0 u1 : Value) (h0 : ai [.q x] w u0) (h1 : Zh 74 qs.length (qs.map .q) w u1) :
  Calls Tryz.prog 107 #[u0, u1] w (jh (ai [.q (ko x qs), .q (jd x qs)]) w) := by
 obtain ⟨b0, rfl, hbx⟩ := h1
 have Qm := hide sx
 have HSQ := hide sq
 have HLEN := hide hm
 have HBX := hide hbx
 clear sx sq hbx hm
 obtain ⟨Ak, wh, ry, c0a, rq, Br, xw, uh, c0b, ug, rfl, f0a, zq⟩ := Gi h0
 go_enter Tryz.func107, Tryz.ntmps107
 go_upto_region 1 with fail
 have hO := (Own.push (T := 108) (ls := zE) (cs := [.int .i64 0, .bool false, .slice none 0 0, .int .i64 0, .bool false, .slice none 0 0, .int .i64 0, .bool false, .slice none 0 0, .int .i64 0, .bool false, .slice none 0 0]) (Own.push (T := 74) (ls := [.q x]) (cs := [.int .i64 Ak, .bool wh, .slice ry (List.length rq) c0a, .int .i64 Br, .bool xw, .slice uh (List.length ug) c0b]) (Own.nil w) (ek.q f0a zq rfl) (w.heap.size) rfl) (((ek.vs w [.int .i64 0, .bool false, .slice none 0 0, .int .i64 0, .bool false, .slice none 0 0, .int .i64 0, .bool false, .slice none 0 0, .int .i64 0, .bool false, .slice none 0 0] rfl) : ek w zE [.int .i64 0, .bool false, .slice none 0 0, .int .i64 0, .bool false, .slice none 0 0, .int .i64 0, .bool false, .slice none 0 0, .int .i64 0, .bool false, .slice none 0 0]).below (by repeat (first | exact Below.refl _ _ | refine ja ?_ _))) (w.heap.size + 1) (by simp only [World.size_alloc]))
 generalize (w.alloc (.cells #[.int .i64 Ak, .bool wh, .slice ry (List.length rq) c0a, .int .i64 Br, .bool xw, .slice uh (List.length ug) c0b] 74)).alloc (.cells #[.int .i64 0, .bool false, .slice none 0 0, .int .i64 0, .bool false, .slice none 0 0, .int .i64 0, .bool false, .slice none 0 0, .int .i64 0, .bool false, .slice none 0 0] 108) = W0 at *
 have HO := hide hO
 clear hO
 go_upto_region 1 with fail
 refine Rg.fw 8 16 (Rg.pick [ai [.q x], Rg.bf (.slice (some ⟨b0, 0, none⟩) qs.length qs.length), tq [ai [.q (ko x qs)], ai [.q (jd x qs)]], tq [ai [.q (ko x qs)], ai [.q (jd x qs)]], ai [.q (ko x qs)], ai [.q (jd x qs)], tu 74 zQ W0.heap.size, tu 74 zQ W0.heap.size]) (ay w [(w.heap.size + 1, 108, zE), (w.heap.size, 74, [.q x])] W0) ik [6, 7] kr rfl (Rg.gm.pick ⟨au _, Rg.ag _, oz ⟨(au _), (au _), trivial⟩, oz ⟨(au _), (au _), trivial⟩, au _, au _, uq _ _ _, uq _ _ _, trivial⟩) (ay.begin (aa HO))
  (ae (fo nz nu (Rg.cz kr rfl) [] [.q x] [])
  (ae (ig rfl (Rg.cz kr rfl))
  (ae (iw Tryz.func155 kr rfl ay.step (Rg.ax 0 kr) (Rg.ax 1 kr) (fun W v0 v1 hG h0 h1 => aqz (aa Qm) (aa HSQ) (aa HLEN) W _ _ h0 (by cases h1; exact ⟨b0, rfl, (aa HBX).below hG.1.bel⟩)))
  (ae (ig rfl (Rg.ax 2 kr))
  (ae (oo (ts := [ai [.q (ko x qs)], ai [.q (jd x qs)]]) rfl (Rg.ax 3 kr) (of_decide_eq_true rfl) rfl)
  (ae (oo (ts := [ai [.q (ko x qs)], ai [.q (jd x qs)]]) rfl (Rg.ax 3 kr) (of_decide_eq_true rfl) rfl)
  (ae (xc aff rfl ay.step ay.size rfl (ym (by intro j hj; simp at hj; (repeat' (first | (rcases hj with rfl | hj))) <;> first | (subst hj; exact ⟨_, _, _, rfl⟩) | exact ⟨_, _, _, rfl⟩)))
  (ae (xc aff rfl ay.step ay.size rfl (ym (by intro j hj; simp at hj; (repeat' (first | (rcases hj with rfl | hj))) <;> first | (subst hj; exact ⟨_, _, _, rfl⟩) | exact ⟨_, _, _, rfl⟩)))
  Rg.cu)))))))) ?_
 intro v1 V1 hG1 hv1 hne1
 simp only [Rg.puts, jr, jq, jo, jm, Act.put, jl, jk, ji]
 obtain ⟨Ci, e6, Bj, Dq⟩ := (show tu 74 zQ W0.heap.size V1 (v1 6) from hv1 6 (by decide))
 obtain ⟨zt, e7, ahk, hz7⟩ := (show tu 74 zQ W0.heap.size V1 (v1 7) from hv1 7 (by decide))
 simp only [e6, e7]
 have hO := hG1.1
 have hnn : zt ≠ Ci := fun h => hne1 7 6 rfl rfl (by decide) (by decide) (by decide) rfl rfl (by rw [e6, e7, h])
 replace hO := Own.Xb (aa HO) hG1.2 Bj Dq ahk hz7 hnn
 clear hnn Bj Dq ahk hz7
 refine ky hO 1 [] zQ [.q (ko x qs)] [] rfl Bq rfl (show ai [.q (ko x qs)] V1 (v1 4) from hv1 4 (by decide)) rfl rfl rfl ?_
 intro uy iy hk0
 replace hO := iy
 clear iy
 refine ky hO 0 [] zQ [.q (jd x qs)] [] rfl Bq rfl (hk0 _ _ (show ai [.q (jd x qs)] V1 (v1 5) from hv1 5 (by decide))) rfl rfl rfl ?_
 intro avv hO1 hk1
 replace hO := hO1
 clear hO1
 clear HO
 have HO := hide hO
 clear hO hG1 hv1 hne1 hk0 hk1
 try clear e6 e7
 go_upto_region 2 with fail
 refine Rg.fw 3 16 (Rg.pick [ai [.q (ko x qs)], ai [.q (jd x qs)], ai [.q (ko x qs), .q (jd x qs)]]) (ay w [(zt, 74, [.q (jd x qs)]), (Ci, 74, [.q (ko x qs)]), (w.heap.size + 1, 108, zE), (w.heap.size, 74, [.q x])] avv) ik [] kr rfl (Rg.gm.pick ⟨au _, au _, au _, trivial⟩) (ay.begin (aa HO))
  (ae (fo nz nu (Rg.cz kr rfl) [] [.q (ko x qs)] [])
  (ae (fo nz me0 (Rg.cz kr rfl) [] [.q (jd x qs)] [])
  (ae (yf Sy rfl (Rg.ax 0 kr) (Rg.ax 1 kr) rfl rfl rfl)
  Rg.cu))) ?_
 intro v2 V2 hG2 hv2 hne2
 simp only [Rg.puts, jr, jq, jo, jm, Act.put, jl, jk, ji]
 have hO := hG2.1
 refine ky hO 2 [] zE [.q (ko x qs), .q (jd x qs)] [] rfl Lp rfl (show ai [.q (ko x qs), .q (jd x qs)] V2 (v2 2) from hv2 2 (by decide)) rfl rfl rfl ?_
 intro Dl iy hk0
 replace hO := iy
 clear iy
 clear HO
 have HO := hide hO
 clear hO hG2 hv2 hne2 hk0
 go_wp2_with fail
 exact zh Tryz.results107 Mf rfl (aa HO) qo rfl rfl
theorem Zo {x y a b : Rat} {K : Nat} (sx : Sm K x) (sy : Sm K y) (sa : Sm K a) (sb : Sm K b) (hK : K + K ≤ 1000000) (w : World) (hT : rz w) : Sm (K + K) (x * a) ∧ ∀ z ∈ [x * b, y * a, y * b], Sm (K + K) z := by
 refine ⟨sx.mul sa hK w hT, fun z hz => ?_⟩
 simp only [List.mem_cons, List.not_mem_nil, or_false] at hz
 rcases hz with rfl | rfl | rfl
 ·
  exact sx.mul sb hK w hT
 ·
  exact sy.mul sa hK w hT
 ·
  exact sy.mul sb hK w hT
set_option maxHeartbeats 16000000 in
theorem akg {x y a b : Rat} {K : Nat} (sx : Sm K x) (sy : Sm K y) (sa : Sm K a) (sb : Sm K b) (hK : K + K ≤ 1000000) (w : World) (hT : rz w) (u0 : Value) (h0 : ai [.q x, .q y] w u0) (u1 : Value) (h1 : ai [.q a, .q b] w u1) :
  Calls Tryz.prog 151 #[u0, u1] w (jh (ai [.q (ko (x * a) [x * b, y * a, y * b]), .q (jd (x * a) [x * b, y * a, y * b])]) w) := by
 have HS := hide (And.intro sx (And.intro sy (And.intro sa (And.intro sb hK))))
 have HP := hide (Zo sx sy sa sb hK w hT)
 have HT := hide hT
 clear sx sy sa sb hK hT
 obtain ⟨Ak, wh, ry, c0a, rq, Br, xw, uh, c0b, ug, Ju, Jw, Kq, Kj, Ka, Jt, Jv, Ko, Ki, Jz, rfl, f0a, zq, Su, Sr⟩ := Ht h0
 obtain ⟨zk, xh, qf, c1a, qd, Bh, n1b, qz, qy, qw, Ph, n1c, Qp, Qi, Pt, Pg, Pp, Qo, Qh, Ps, rfl, f1a, Di, f1c, f1d⟩ := Ht h1
 go_enter Tryz.func151, Tryz.ntmps151
 go_upto_region 1 with fail
 have hO := (Own.push (T := 108) (ls := zE) (cs := [.int .i64 0, .bool false, .slice none 0 0, .int .i64 0, .bool false, .slice none 0 0, .int .i64 0, .bool false, .slice none 0 0, .int .i64 0, .bool false, .slice none 0 0]) (Own.push (T := 108) (ls := [.q a, .q b]) (cs := [.int .i64 zk, .bool xh, .slice qf (List.length qd) c1a, .int .i64 Bh, .bool n1b, .slice qz (List.length qw) qy, .int .i64 Ph, .bool n1c, .slice Qp (List.length Pt) Qi, .int .i64 Pg, .bool Pp, .slice Qo (List.length Ps) Qh]) (Own.push (T := 108) (ls := [.q x, .q y]) (cs := [.int .i64 Ak, .bool wh, .slice ry (List.length rq) c0a, .int .i64 Br, .bool xw, .slice uh (List.length ug) c0b, .int .i64 Ju, .bool Jw, .slice Kq (List.length Ka) Kj, .int .i64 Jt, .bool Jv, .slice Ko (List.length Jz) Ki]) (Own.nil w) (ek.q f0a zq (ek.q Su Sr rfl)) (w.heap.size) rfl) (((ek.q f1a Di (ek.q f1c f1d rfl)) : ek w [.q a, .q b] [.int .i64 zk, .bool xh, .slice qf (List.length qd) c1a, .int .i64 Bh, .bool n1b, .slice qz (List.length qw) qy, .int .i64 Ph, .bool n1c, .slice Qp (List.length Pt) Qi, .int .i64 Pg, .bool Pp, .slice Qo (List.length Ps) Qh]).below (by repeat (first | exact Below.refl _ _ | refine ja ?_ _))) (w.heap.size + 1) (by simp only [World.size_alloc])) (((ek.vs w [.int .i64 0, .bool false, .slice none 0 0, .int .i64 0, .bool false, .slice none 0 0, .int .i64 0, .bool false, .slice none 0 0, .int .i64 0, .bool false, .slice none 0 0] rfl) : ek w zE [.int .i64 0, .bool false, .slice none 0 0, .int .i64 0, .bool false, .slice none 0 0, .int .i64 0, .bool false, .slice none 0 0, .int .i64 0, .bool false, .slice none 0 0]).below (by repeat (first | exact Below.refl _ _ | refine ja ?_ _))) (w.heap.size + 2) (by simp only [World.size_alloc]))
 generalize ((w.alloc (.cells #[.int .i64 Ak, .bool wh, .slice ry (List.length rq) c0a, .int .i64 Br, .bool xw, .slice uh (List.length ug) c0b, .int .i64 Ju, .bool Jw, .slice Kq (List.length Ka) Kj, .int .i64 Jt, .bool Jv, .slice Ko (List.length Jz) Ki] 108)).alloc (.cells #[.int .i64 zk, .bool xh, .slice qf (List.length qd) c1a, .int .i64 Bh, .bool n1b, .slice qz (List.length qw) qy, .int .i64 Ph, .bool n1c, .slice Qp (List.length Pt) Qi, .int .i64 Pg, .bool Pp, .slice Qo (List.length Ps) Qh] 108)).alloc (.cells #[.int .i64 0, .bool false, .slice none 0 0, .int .i64 0, .bool false, .slice none 0 0, .int .i64 0, .bool false, .slice none 0 0, .int .i64 0, .bool false, .slice none 0 0] 108) = W0 at *
 have HO := hide hO
 clear hO
 go_upto_region 1 with fail
 refine Rg.region 22 27 (Rg.pick [Rg.bf (.pointer (some ⟨w.heap.size, 0, none⟩)), ai [.q x], Rg.bf (.pointer (some ⟨w.heap.size + 1, 0, none⟩)), ai [.q a], ai [.q (x * a)], Rg.bf (.pointer (some ⟨w.heap.size, 0, none⟩)), ai [.q x], Rg.bf (.pointer (some ⟨w.heap.size + 1, 6, none⟩)), ai [.q b], ai [.q (x * b)], Rg.bf (.pointer (some ⟨w.heap.size, 6, none⟩)), ai [.q y], Rg.bf (.pointer (some ⟨w.heap.size + 1, 0, none⟩)), ai [.q a], ai [.q (y * a)], Rg.bf (.pointer (some ⟨w.heap.size, 6, none⟩)), ai [.q y], Rg.bf (.pointer (some ⟨w.heap.size + 1, 6, none⟩)), ai [.q b], ai [.q (y * b)], Zh 74 3 [.q (x * b), .q (y * a), .q (y * b)], ai [.q (ko (x * a) [x * b, y * a, y * b]), .q (jd (x * a) [x * b, y * a, y * b])]]) (ay w [(w.heap.size + 2, 108, zE), (w.heap.size + 1, 108, [.q a, .q b]), (w.heap.size, 108, [.q x, .q y])] W0) ik [] kr kr rfl (Rg.gm.pick ⟨Rg.ag _, au _, Rg.ag _, au _, au _, Rg.ag _, au _, Rg.ag _, au _, au _, Rg.ag _, au _, Rg.ag _, au _, au _, Rg.ag _, au _, Rg.ag _, au _, au _, Xo _ _ _, au _, trivial⟩) (ay.start (aa HO))
  (ae (Aj (b := w.heap.size) (off := 0) rfl (Rg.cz kr rfl) rfl rfl)
  (ae (fo nz qo (Rg.ax 0 kr) [] [.q x] [.q y])
  (ae (Aj (b := w.heap.size + 1) (off := 0) rfl (Rg.cz kr rfl) rfl rfl)
  (ae (fo nz nu (Rg.ax 2 kr) [] [.q a] [.q b])
  (ae (iw Tryz.func111 kr rfl ay.step (Rg.ax 1 kr) (Rg.ax 3 kr) (fun W v0 v1 hG h0 h1 => Re ((aa HT).below hG.bel) (aa HS).1 (aa HS).2.2.1 h0 h1))
  (ae (Aj (b := w.heap.size) (off := 0) rfl (Rg.cz kr rfl) rfl rfl)
  (ae (fo nz qo (Rg.ax 5 kr) [] [.q x] [.q y])
  (ae (Bf (b := w.heap.size + 1) (off := 0) rfl (Rg.cz kr rfl) rfl rfl)
  (ae (fo nz nu (Rg.ax 7 kr) [.q a] [.q b] [])
  (ae (iw Tryz.func111 kr rfl ay.step (Rg.ax 6 kr) (Rg.ax 8 kr) (fun W v0 v1 hG h0 h1 => Re ((aa HT).below hG.bel) (aa HS).1 (aa HS).2.2.2.1 h0 h1))
  (ae (Bf (b := w.heap.size) (off := 0) rfl (Rg.cz kr rfl) rfl rfl)
  (ae (fo nz qo (Rg.ax 10 kr) [.q x] [.q y] [])
  (ae (Aj (b := w.heap.size + 1) (off := 0) rfl (Rg.cz kr rfl) rfl rfl)
  (ae (fo nz nu (Rg.ax 12 kr) [] [.q a] [.q b])
  (ae (iw Tryz.func111 kr rfl ay.step (Rg.ax 11 kr) (Rg.ax 13 kr) (fun W v0 v1 hG h0 h1 => Re ((aa HT).below hG.bel) (aa HS).2.1 (aa HS).2.2.1 h0 h1))
  (ae (Bf (b := w.heap.size) (off := 0) rfl (Rg.cz kr rfl) rfl rfl)
  (ae (fo nz qo (Rg.ax 15 kr) [.q x] [.q y] [])
  (ae (Bf (b := w.heap.size + 1) (off := 0) rfl (Rg.cz kr rfl) rfl rfl)
  (ae (fo nz nu (Rg.ax 17 kr) [.q a] [.q b] [])
  (ae (iw Tryz.func111 kr rfl ay.step (Rg.ax 16 kr) (Rg.ax 18 kr) (fun W v0 v1 hG h0 h1 => Re ((aa HT).below hG.bel) (aa HS).2.1 (aa HS).2.2.2.1 h0 h1))
  (ae (Qx (ps := [(0, .tmp 14), (1, .tmp 19), (2, .tmp 24)]) (gs := [[.q (x * b)], [.q (y * a)], [.q (y * b)]]) amv rfl ay.step rfl (Ar.cons (Rg.ax 9 kr) rfl (Ar.cons (Rg.ax 14 kr) rfl (Ar.cons (Rg.ax 19 kr) rfl Ar.nil))) rfl)
  (ae (iw Tryz.func107 kr rfl ay.step (Rg.ax 4 kr) (Rg.ax 20 kr) (fun W v0 v1 hG h0 h1 => avo (qs := [x * b, y * a, y * b]) (aa HP).1 (aa HP).2 (by simp) W _ _ h0 h1))
  Rg.cu)))))))))))))))))))))) ?_
 intro v1 V1 hG1 hv1 hne1
 simp only [Rg.puts, jr, jq, jo, jm, Act.put, jl, jk, ji]
 have hO := hG1.1
 refine ky hO 0 [] zE [.q (ko (x * a) [x * b, y * a, y * b]), .q (jd (x * a) [x * b, y * a, y * b])] [] rfl Lp rfl (show ai [.q (ko (x * a) [x * b, y * a, y * b]), .q (jd (x * a) [x * b, y * a, y * b])] V1 (v1 21) from hv1 21 (by decide)) rfl rfl rfl ?_
 intro uy iy hk0
 replace hO := iy
 clear iy
 clear HO
 have HO := hide hO
 clear hO hG1 hv1 hne1 hk0
 go_wp2_with fail
 exact zh Tryz.results151 Mf rfl (aa HO) me0 rfl rfl
def wz (x : Rat) (g : Int) : Rat := Rat.divInt ((x * Rat.divInt g 1).num / ((x * Rat.divInt g 1).den : Int)) g
def Cj (y : Rat) (g : Int) : Rat := Rat.divInt (-((-(y * Rat.divInt g 1)).num / ((-(y * Rat.divInt g 1)).den : Int))) g
structure bkz (x y : Rat) (g : Int) (K : Nat) : Prop where
 g1 : 1 ≤ g
 g2 : g ≤ 1000000
 g0 : g ≠ 0
 sx : Sm (K + 1) x
 sy : Sm (K + 1) y
 sg : Sm (K + 1) (Rat.divInt g 1)
 sxg : Sm (K + 1 + K + 1) (x * Rat.divInt g 1)
 syg : Sm (K + 1 + K + 1) (-(y * Rat.divInt g 1))
 zx : Wd.Sz dw (K + 1 + (K + 1)) ((x * Rat.divInt g 1).num / ((x * Rat.divInt g 1).den : Int))
 zy : Wd.Sz dw (K + 1 + (K + 1)) (-((-(y * Rat.divInt g 1)).num / ((-(y * Rat.divInt g 1)).den : Int)))
 zg : Wd.Sz dw (K + 1 + (K + 1)) g
 hK : K + 1 + (K + 1) ≤ 1000000
theorem ajn {K : Nat} {a : Int} (h : Wd.Sz dw K a) (b : Int) : Wd.Sz dw K (a / b) := h.le (Int.natAbs_ediv_le_natAbs a b)
theorem afu {g : Int} (g1 : -1000000000000 ≤ g) (g2 : g ≤ 1000000000000) : Sm 1 (Rat.divInt g 1) := ⟨⟨by rw [(Wd.Er g).1]; exact Wd.Sz.of_le (by rw [jb]; omega) vg (Nat.le_refl _), by rw [(Wd.Er g).2]; exact Wd.Sz.of_le (by rw [jb]; omega) vg (Nat.le_refl _)⟩, by omega⟩
theorem bjk {x y : Rat} {g : Int} {K : Nat} (sx : Sm (K + 1) x) (sy : Sm (K + 1) y) (g1 : 1 ≤ g) (g2 : g ≤ 1000000) (hK : K + 1 + (K + 1) ≤ 1000000) (w : World) (hT : rz w) : bkz x y g K := by
 have sg : Sm (K + 1) (Rat.divInt g 1) := (afu om om).mono om om
 have s1 := sx.mul sg hK w hT
 have s2 := (sy.mul sg hK w hT).neg
 exact ⟨g1, g2, by omega, sx, sy, sg, s1, s2, ajn s1.1.1 _, (ajn s2.1.1 _).neg, (Wd.Sz.of_le (by rw [jb]; omega) vg om), hK⟩
set_option maxHeartbeats 16000000 in
theorem aep {x y : Rat} {g : Int} {K : Nat} (sx : Sm (K + 1) x) (sy : Sm (K + 1) y) (g1 : 1 ≤ g) (g2 : g ≤ 1000000) (hK : K + 1 + (K + 1) ≤ 1000000) (w : World) (hT : rz w) (u0 : Value) (h0 : ai [.q x, .q y] w u0) :
  Calls Tryz.prog 96 #[u0, .int .i64 g] w (jh (ai [.q (wz x g), .q (Cj y g)]) w) := by
 have HR := hide (bjk sx sy g1 g2 hK w hT)
 have HT := hide hT
 clear sx sy g1 g2 hK hT
 obtain ⟨Ak, wh, ry, c0a, rq, Br, xw, uh, c0b, ug, Ju, Jw, Kq, Kj, Ka, Jt, Jv, Ko, Ki, Jz, rfl, f0a, zq, Su, Sr⟩ := Ht h0
 go_enter Tryz.func96, Tryz.ntmps96
 go_upto_region 1 with fail
 have hO := (Own.push (T := 108) (ls := zE) (cs := [.int .i64 0, .bool false, .slice none 0 0, .int .i64 0, .bool false, .slice none 0 0, .int .i64 0, .bool false, .slice none 0 0, .int .i64 0, .bool false, .slice none 0 0]) (Own.push (T := 108) (ls := [.q x, .q y]) (cs := [.int .i64 Ak, .bool wh, .slice ry (List.length rq) c0a, .int .i64 Br, .bool xw, .slice uh (List.length ug) c0b, .int .i64 Ju, .bool Jw, .slice Kq (List.length Ka) Kj, .int .i64 Jt, .bool Jv, .slice Ko (List.length Jz) Ki]) (Own.nil w) (ek.q f0a zq (ek.q Su Sr rfl)) (w.heap.size) rfl) (((ek.vs w [.int .i64 0, .bool false, .slice none 0 0, .int .i64 0, .bool false, .slice none 0 0, .int .i64 0, .bool false, .slice none 0 0, .int .i64 0, .bool false, .slice none 0 0] rfl) : ek w zE [.int .i64 0, .bool false, .slice none 0 0, .int .i64 0, .bool false, .slice none 0 0, .int .i64 0, .bool false, .slice none 0 0, .int .i64 0, .bool false, .slice none 0 0]).below (by repeat (first | exact Below.refl _ _ | refine ja ?_ _))) (w.heap.size + 1) (by simp only [World.size_alloc]))
 generalize (w.alloc (.cells #[.int .i64 Ak, .bool wh, .slice ry (List.length rq) c0a, .int .i64 Br, .bool xw, .slice uh (List.length ug) c0b, .int .i64 Ju, .bool Jw, .slice Kq (List.length Ka) Kj, .int .i64 Jt, .bool Jv, .slice Ko (List.length Jz) Ki] 108)).alloc (.cells #[.int .i64 0, .bool false, .slice none 0 0, .int .i64 0, .bool false, .slice none 0 0, .int .i64 0, .bool false, .slice none 0 0, .int .i64 0, .bool false, .slice none 0 0] 108) = W0 at *
 have HO := hide hO
 clear hO
 go_upto_region 1 with fail
 refine Rg.fw 6 30 (Rg.pick [Rg.bf (.int .i64 g), ai [.q (Rat.divInt g 1)], Rg.bf (.int .i64 g), ai [.z g], tu 74 zQ W0.heap.size, tu 72 zZ W0.heap.size]) (ay w [(w.heap.size + 1, 108, zE), (w.heap.size, 108, [.q x, .q y])] W0) ik [4, 5] kr rfl (Rg.gm.pick ⟨Rg.ag _, au _, Rg.ag _, au _, uq _ _ _, uq _ _ _, trivial⟩) (ay.begin (aa HO))
  (ae (ig rfl (Rg.cz kr rfl))
  (ae (jf Tryz.func77 kr rfl ay.step (Rg.ax 0 kr) (fun W v0 hG h0 => by cases h0; exact adf g (by have := (aa HR).g1; omega) (by have := (aa HR).g2; omega) W))
  (ae (ig rfl (Rg.cz kr rfl))
  (ae (jf Tryz.func124 kr rfl ay.step (Rg.ax 2 kr) (fun W v0 hG h0 => by cases h0; exact arb g (by have := (aa HR).g1; omega) (by have := (aa HR).g2; omega) W))
  (ae (xc aff rfl ay.step ay.size rfl (ym (by intro j hj; simp at hj; (repeat' (first | (rcases hj with rfl | hj))) <;> first | (subst hj; exact ⟨_, _, _, rfl⟩) | exact ⟨_, _, _, rfl⟩)))
  (ae (xc Oi rfl ay.step ay.size rfl (ym (by intro j hj; simp at hj; (repeat' (first | (rcases hj with rfl | hj))) <;> first | (subst hj; exact ⟨_, _, _, rfl⟩) | exact ⟨_, _, _, rfl⟩)))
  Rg.cu)))))) ?_
 intro v1 V1 hG1 hv1 hne1
 simp only [Rg.puts, jr, jq, jo, jm, Act.put, jl, jk, ji]
 obtain ⟨Gw, e4, hge4, Wj⟩ := (show tu 74 zQ W0.heap.size V1 (v1 4) from hv1 4 (by decide))
 obtain ⟨Dz, e5, Lc, Rb⟩ := (show tu 72 zZ W0.heap.size V1 (v1 5) from hv1 5 (by decide))
 simp only [e4, e5]
 have hO := hG1.1
 have hnn : Dz ≠ Gw := fun h => hne1 5 4 rfl rfl (by decide) (by decide) (by decide) rfl rfl (by rw [e4, e5, h])
 replace hO := Own.Xb (aa HO) hG1.2 hge4 Wj Lc Rb hnn
 clear hnn hge4 Wj Lc Rb
 refine ky hO 1 [] zQ [.q (Rat.divInt g 1)] [] rfl Bq rfl (show ai [.q (Rat.divInt g 1)] V1 (v1 1) from hv1 1 (by decide)) rfl rfl rfl ?_
 intro uy iy hk0
 replace hO := iy
 clear iy
 refine ky hO 0 [] zZ [.z g] [] rfl Dv rfl (hk0 _ _ (show ai [.z g] V1 (v1 3) from hv1 3 (by decide))) rfl rfl rfl ?_
 intro avv hO1 hk1
 replace hO := hO1
 clear hO1
 clear HO
 have HO := hide hO
 clear hO hG1 hv1 hne1 hk0 hk1
 try clear e4 e5
 go_upto_region 2 with fail
 refine Rg.region 8 30 (Rg.pick [Rg.bf (.pointer (some ⟨w.heap.size, 0, none⟩)), ai [.q x], ai [.q (Rat.divInt g 1)], ai [.q (x * Rat.divInt g 1)], ai [.z ((x * Rat.divInt g 1).num / ((x * Rat.divInt g 1).den : Int))], ai [.z g], ai [.q (wz x g)], Rg.bf (.pointer (some ⟨w.heap.size, 0, none⟩))]) (ay w [(Dz, 72, [.z g]), (Gw, 74, [.q (Rat.divInt g 1)]), (w.heap.size + 1, 108, zE), (w.heap.size, 108, [.q x, .q y])] avv) ik [] kr kr rfl (Rg.gm.pick ⟨Rg.ag _, au _, au _, au _, au _, au _, au _, Rg.ag _, trivial⟩) (ay.start (aa HO))
  (ae (Aj (b := w.heap.size) (off := 0) rfl (Rg.cz kr rfl) rfl rfl)
  (ae (fo nz Iq (Rg.ax 0 kr) [] [.q x] [.q y])
  (ae (fo nz nu (Rg.cz kr rfl) [] [.q (Rat.divInt g 1)] [])
  (ae (iw Tryz.func111 kr rfl ay.step (Rg.ax 1 kr) (Rg.ax 2 kr) (fun W v0 v1 hG h0 h1 => Re ((aa HT).below hG.bel) (aa HR).sx (aa HR).sg h0 h1))
  (ae (jf Tryz.func154 kr rfl ay.step (Rg.ax 3 kr) (fun W v0 hG h0 => Yh (aa HR).sxg W _ h0))
  (ae (fo qi me0 (Rg.cz kr rfl) [] [.z g] [])
  (ae (iw Tryz.func123 kr rfl ay.step (Rg.ax 4 kr) (Rg.ax 5 kr) (fun W v0 v1 hG h0 h1 => ara ((aa HT).below hG.bel) (aa HR).g0 (aa HR).zx (aa HR).zg (aa HR).hK h0 h1))
  (ae (Aj (b := w.heap.size) (off := 0) rfl (Rg.cz kr rfl) rfl rfl)
  Rg.cu)))))))) ?_
 intro v2 V2 hG2 hv2 hne2
 simp only [Rg.puts, jr, jq, jo, jm, Act.put, jl, jk, ji]
 have e7 : v2 7 = .pointer (some ⟨w.heap.size, 0, none⟩) := hv2 7 (by decide)
 simp only [e7]
 have hO := hG2.1
 refine ky hO 3 [] [.q x] [.q (wz x g)] [.q y] rfl Bq rfl (show ai [.q (wz x g)] V2 (v2 6) from hv2 6 (by decide)) rfl rfl rfl ?_
 intro Dl iy hk0
 replace hO := iy
 clear iy
 clear HO
 have HO := hide hO
 clear hO hG2 hv2 hne2 hk0
 try clear e7
 go_upto_region 3 with fail
 refine Rg.region 10 30 (Rg.pick [Rg.bf (.pointer (some ⟨w.heap.size, 6, none⟩)), ai [.q y], ai [.q (Rat.divInt g 1)], ai [.q (y * Rat.divInt g 1)], ai [.q (-(y * Rat.divInt g 1))], ai [.z ((-(y * Rat.divInt g 1)).num / ((-(y * Rat.divInt g 1)).den : Int))], ai [.z (-((-(y * Rat.divInt g 1)).num / ((-(y * Rat.divInt g 1)).den : Int)))], ai [.z g], ai [.q (Cj y g)], Rg.bf (.pointer (some ⟨w.heap.size, 6, none⟩))]) (ay w [(Dz, 72, [.z g]), (Gw, 74, [.q (Rat.divInt g 1)]), (w.heap.size + 1, 108, zE), (w.heap.size, 108, [.q (wz x g), .q y])] Dl) ik [] kr kr rfl (Rg.gm.pick ⟨Rg.ag _, au _, au _, au _, au _, au _, au _, au _, au _, Rg.ag _, trivial⟩) (ay.start (aa HO))
  (ae (Bf (b := w.heap.size) (off := 0) rfl (Rg.cz kr rfl) rfl rfl)
  (ae (fo nz Iq (Rg.ax 0 kr) [.q (wz x g)] [.q y] [])
  (ae (fo nz nu (Rg.cz kr rfl) [] [.q (Rat.divInt g 1)] [])
  (ae (iw Tryz.func111 kr rfl ay.step (Rg.ax 1 kr) (Rg.ax 2 kr) (fun W v0 v1 hG h0 h1 => Re ((aa HT).below hG.bel) (aa HR).sy (aa HR).sg h0 h1))
  (ae (jf Tryz.func134 kr rfl ay.step (Rg.ax 3 kr) (fun W v0 hG h0 => axe h0))
  (ae (jf Tryz.func154 kr rfl ay.step (Rg.ax 4 kr) (fun W v0 hG h0 => Yh (aa HR).syg W _ h0))
  (ae (jf Tryz.func147 kr rfl ay.step (Rg.ax 5 kr) (fun W v0 hG h0 => ard h0))
  (ae (fo qi me0 (Rg.cz kr rfl) [] [.z g] [])
  (ae (iw Tryz.func123 kr rfl ay.step (Rg.ax 6 kr) (Rg.ax 7 kr) (fun W v0 v1 hG h0 h1 => ara ((aa HT).below hG.bel) (aa HR).g0 (aa HR).zy (aa HR).zg (aa HR).hK h0 h1))
  (ae (Bf (b := w.heap.size) (off := 0) rfl (Rg.cz kr rfl) rfl rfl)
  Rg.cu)))))))))) ?_
 intro v3 V3 hG3 hv3 qh
 simp only [Rg.puts, jr, jq, jo, jm, Act.put, jl, jk, ji]
 have e9 : v3 9 = .pointer (some ⟨w.heap.size, 6, none⟩) := hv3 9 (by decide)
 simp only [e9]
 have hO := hG3.1
 refine ky hO 3 [.q (wz x g)] [.q y] [.q (Cj y g)] [] rfl Bq rfl (show ai [.q (Cj y g)] V3 (v3 8) from hv3 8 (by decide)) rfl rfl rfl ?_
 intro Ea iy hk0
 replace hO := iy
 clear iy
 clear HO
 have HO := hide hO
 clear hO hG3 hv3 qh hk0
 try clear e9
 go_upto_region 4 with fail
 refine Rg.fw 1 30 (Rg.pick [ai [.q (wz x g), .q (Cj y g)]]) (ay w [(Dz, 72, [.z g]), (Gw, 74, [.q (Rat.divInt g 1)]), (w.heap.size + 1, 108, zE), (w.heap.size, 108, [.q (wz x g), .q (Cj y g)])] Ea) ik [] kr rfl (Rg.gm.pick ⟨au _, trivial⟩) (ay.begin (aa HO))
  (ae (fo apr Iq (Rg.cz kr rfl) [] [.q (wz x g), .q (Cj y g)] [])
  Rg.cu) ?_
 intro v4 V4 hG4 hv4 yg
 simp only [Rg.puts, jr, jq, jo, jm, Act.put, jl, jk, ji]
 have hO := hG4.1
 refine ky hO 2 [] zE [.q (wz x g), .q (Cj y g)] [] rfl Lp rfl (show ai [.q (wz x g), .q (Cj y g)] V4 (v4 0) from hv4 0 (by decide)) rfl rfl rfl ?_
 intro Vb iy hk0
 replace hO := iy
 clear iy
 clear HO
 have HO := hide hO
 clear hO hG4 hv4 yg hk0
 go_wp2_with fail
 exact zh Tryz.results96 Mf rfl (aa HO) qo rfl rfl
end Sb

end Go.Proofs.YtjdnmdlnaoedoaaGreatDoor
namespace Go.Proofs.YtjdnmdlnaoedoaaGreatDoor
open Go.RowKit

set_option maxHeartbeats 2000000 in
theorem axy (n d : Int) (w : World) (b1 : -9223372036854775808 ≤ n) (b2 : n ≤ 9223372036854775807) (b3 : -9223372036854775808 ≤ d) (b4 : d ≤ 9223372036854775807) (hd : d ≠ 0) :
  Calls Tryz.prog 48 #[.agg #[.int .i64 n, .int .i64 d]] w fun e w' => QR w (Rat.divInt n d) e w' := by
 have Xh := hide (fun W => (Tv n W b1 b2).mono (fun e w' h => h.1))
 have HO2 := hide (fun W => (Tv d W b3 b4).mono (fun e w' h => h.1))
 have k1 : n.natAbs < dm ^ 2 := by rw [gp]; omega
 have k2 : d.natAbs < dm ^ 2 := by rw [gp]; omega
 obtain ⟨q, hq⟩ : ∃ q, q = Rat.divInt n d := ⟨_, rfl⟩
 have HR := hide (fun (A1 : Option Addr) (c1 : Nat) (l1 : List Nat) (m1 : Bool) (A2 : Option Addr) (c2 : Nat) (l2 : List Nat) (m2 : Bool) (W : World) (f1 : je W A1 c1 l1 m1 n) (f2 : je W A2 c2 l2 m2 d) => aat A1 c1 l1 m1 n A2 c2 l2 m2 d 2 W f1 f2 hd k1 k2 om)
 rw [← hq] at HR ⊢
 clear b1 b2 b3 b4 hd k1 k2 hq
 go_enter Tryz.func48, Tryz.ntmps48
 go_wp2_with fail
 obtain ⟨nx, n0, hsz, hw0⟩ := wy w (.cells #[.int .i64 n, .int .i64 d] 23) (.cells #[.slice none 0 0, .bool false, .slice none 0 0, .bool false] 63)
 generalize ((w.alloc (.cells #[.int .i64 n, .int .i64 d] 23)).alloc (.cells #[.slice none 0 0, .bool false, .slice none 0 0, .bool false] 63)) = W0 at *
 have x0 : W0.cell? ⟨w.heap.size, 0, none⟩ = some (.int .i64 n) := ah nx 0
 have x1 : W0.cell? ⟨w.heap.size, 1, none⟩ = some (.int .i64 d) := ah nx 1
 have qx := lt_of_block nx
 clear nx
 have p0 : W0.cell? ⟨w.heap.size + 1, 0, none⟩ = some (.slice none 0 0) := ah n0 0
 have p1 : W0.cell? ⟨w.heap.size + 1, 1, none⟩ = some (.bool false) := ah n0 1
 have p2 : W0.cell? ⟨w.heap.size + 1, 2, none⟩ = some (.slice none 0 0) := ah n0 2
 have p3 : W0.cell? ⟨w.heap.size + 1, 3, none⟩ = some (.bool false) := ah n0 3
 have v0 := az n0 0; have v1 := az n0 1; have v2 := az n0 2; have v3 := az n0 3
 have q0 := lt_of_block n0
 have NR := Lib.hid n0
 clear n0 hsz
 go_region_with (first | (go_at_call_of 116 (Value.int .i64 n); refine ((aa Xh) _).mono ?_; rintro e w' ⟨A1, c1, l1, m1, rfl, f1n, hb⟩; (try (first | replace f2 := je.below f2 hb | replace f2 := (je.below f2 (Below.drew (Below.refl _ _))).below hb)); have f1 := f1n; clear f1n; have hbw := df (w := W0) (by (first | with_reducible assumption | (repeat (first | with_reducible exact Below.refl _ _ | with_reducible assumption | refine Below.drew ?_ | (refine Below.alloc ?_ (by simp <;> omega) _))))) hb; obtain ⟨hc, hf⟩ := dz hbw) | (go_at_call_of 116 (Value.int .i64 d); refine ((aa HO2) _).mono ?_; rintro e w' ⟨A2, c2, l2, m2, rfl, f2n, hb⟩; (try (first | replace f1 := je.below f1 hb | replace f1 := (je.below f1 (Below.drew (Below.refl _ _))).below hb)); have f2 := f2n; clear f2n; have hbw := df (w := W0) (by (first | with_reducible assumption | (repeat (first | with_reducible exact Below.refl _ _ | with_reducible assumption | refine Below.drew ?_ | (refine Below.alloc ?_ (by simp <;> omega) _))))) hb; obtain ⟨hc, hf⟩ := dz hbw) | (go_at_call 115; refine ((aa HR) A1 c1 l1 m1 A2 c2 l2 m2 _ (by first | exact f1 | exact je.below f1 (Below.drew (Below.refl _ _))) (by first | exact f2 | exact je.below f2 (Below.drew (Below.refl _ _)))).mono ?_; rintro e w' ⟨A3, c3, l3, m3, A4, c4, l4, m4, rfl, f3, f4, hb⟩; have hbw := df (w := W0) (by (first | with_reducible assumption | (repeat (first | with_reducible exact Below.refl _ _ | with_reducible assumption | refine Below.drew ?_ | (refine Below.alloc ?_ (by simp <;> omega) _))))) hb; obtain ⟨hc, hf⟩ := dz hbw))
 all_goals
  have hblk := (hbw.block _ q0).trans NR.out
  have ku := bz hw0 hbw
  have mr := Lib.hid hblk; have F3 := hide f3; have F4 := hide f4; have Tg := hide ku
  clear f3 f4 hblk ku
  go_wp2_with fail
  exact bodyPost_ret (v := .agg #[.slice A3 l3.length c3, .bool m3, .slice A4 l4.length c4, .bool m4]) (by simp [results, Tryz.results48, go_sem, hc, p0, p1, p2, p3, q0]) rfl
   ⟨A3, c3, l3, m3, A4, c4, l4, m4, rfl, (aa F3).upto mr.out (Bt _ _ _ _ _ _ _ _) (qg _ _ _ _ _ _), (aa F4).upto mr.out (Bt _ _ _ _ _ _ _ _) (qg _ _ _ _ _ _), (aa Tg).grown (qg _ _ _ _ _ _) (aa Tg).size (fun k hk => by injection hk with hk; omega)⟩
end Go.Proofs.YtjdnmdlnaoedoaaGreatDoor
namespace Go.Proofs.YtjdnmdlnaoedoaaGreatDoor
open Go.RowKit

end Go.Proofs.YtjdnmdlnaoedoaaGreatDoor
namespace Go.Proofs.YtjdnmdlnaoedoaaGreatDoor
open Go.RowKit

def aih (n1 d1 n2 d2 : Int) : Int := if Wd.xz n1 d1 ∧ Wd.xz n2 d2 then jw (n1 * d2 - n2 * d1) else 0
def awe (w : World) (n1 d1 n2 d2 : Int) (e : Ending) (w' : World) : Prop := e = .returned (.tuple #[.int .i64 (aih n1 d1 n2 d2), .int .i64 (Rm n1 d1 n2 d2)]) ∧ Below w.heap.size w w'

end Go.Proofs.YtjdnmdlnaoedoaaGreatDoor
namespace Go.Proofs.YtjdnmdlnaoedoaaGreatDoor
open Go.RowKit

set_option maxHeartbeats 8000000 in
theorem avj (n1 d1 n2 d2 : Int) (w : World) (hT : rz w) :
  Calls Tryz.prog 98 #[.agg #[.int .i64 n1, .int .i64 d1], .agg #[.int .i64 n2, .int .i64 d2]] w fun e w' => awe w n1 d1 n2 d2 e w' := by
 have HA := hide (fun g W (hW : rz W) => aqk n1 d1 n2 d2 g W hW)
 have HT := hide hT
 clear hT
 by_cases ok : Wd.xz n1 d1 ∧ Wd.xz n2 d2
 ·
  have e1 : Rm n1 d1 n2 d2 = 0 := if_pos ok
  have e2 : aih n1 d1 n2 d2 = jw (n1 * d2 - n2 * d1) := if_pos ok
  unfold awe
  rw [e1] at HA ⊢
  rw [e2]
  obtain ⟨a1, a2⟩ := Wd.Oh ok.1
  obtain ⟨a3, a4⟩ := Wd.Oh ok.2
  obtain ⟨⟨r1, r2, r3, r4, rg1⟩, ⟨r5, r6, r7, r8, rg2⟩⟩ := ok
  have hz1 := agi (n := n1) (d := d1) ⟨r1, r2, r3, r4, rg1⟩
  have hz2 := agi (n := n2) (d := d2) ⟨r5, r6, r7, r8, rg2⟩
  have O1 := hide (fun W => acp n1 d1 W om om om om)
  have O2 := hide (fun W => acp n2 d2 W om om om om)
  have hq := fun (s1 : Int) (dh : Bool) (A1 : Option Addr) (c1 : Nat) (l1 : List Nat) (s2 : Int) (di : Bool) (A2 : Option Addr) (c2 : Nat) (l2 : List Nat) (s3 : Int) (Dy : Bool) (A3 : Option Addr) (c3 : Nat) (l3 : List Nat) (s4 : Int) (Ee : Bool) (A4 : Option Addr) (c4 : Nat) (l4 : List Nat) (W : World) => ajw W (Wd.qR n1 d1) (Wd.qR n2 d2) hz1 hz2 (by decide) s1 dh A1 c1 l1 s2 di A2 c2 l2 s3 Dy A3 c3 l3 s4 Ee A4 c4 l4 W (Below.refl _ _)
  obtain ⟨g, hg⟩ : ∃ g, g = jw (n1 * d2 - n2 * d1) := ⟨_, rfl⟩
  simp only [a1, a2, a3, a4, ← hg] at hq
  rw [← hg]
  have HQ := hide hq
  clear hq hg a1 a2 a3 a4 r1 r2 r3 r4 r5 r6 r7 r8 e1 e2 hz1 hz2 rg1 rg2
  go_enter Tryz.func98, Tryz.ntmps98
  go_wp2_with fail
  obtain ⟨n0, Mw, Sc, hsz, hw0⟩ := pz w (.cells #[.int .i64 n1, .int .i64 d1] 23) (.cells #[.int .i64 n2, .int .i64 d2] 23) (.cells #[.int .i64 n1, .int .i64 d1, .int .i64 n2, .int .i64 d2] 23)
  generalize (((w.alloc (.cells #[.int .i64 n1, .int .i64 d1] 23)).alloc (.cells #[.int .i64 n2, .int .i64 d2] 23)).alloc (.cells #[.int .i64 n1, .int .i64 d1, .int .i64 n2, .int .i64 d2] 23)) = Wa at *
  refine ((aa HA) (w.heap.size + 1 + 1) Wa ((aa HT).below hw0) (lt_of_block Sc) (ah Sc 0) (ah Sc 1) (ah Sc 2) (ah Sc 3)).mono ?_
  rintro e W0 ⟨rfl, hb0⟩
  replace n0 := (hb0.block _ (lt_of_block n0)).trans n0
  replace Mw := (hb0.block _ (lt_of_block Mw)).trans Mw
  replace hw0 := bz hw0 hb0
  have q0 := lt_of_block n0; have q1 := lt_of_block Mw
  have KEEP : ∀ X, Below W0.heap.size W0 X → (fun w' => w'.cell? ⟨w.heap.size, 0, none⟩ = some (.int .i64 n1) ∧ w'.cell? ⟨w.heap.size, 1, none⟩ = some (.int .i64 d1) ∧ w'.cell? ⟨w.heap.size + 1, 0, none⟩ = some (.int .i64 n2) ∧ w'.cell? ⟨w.heap.size + 1, 1, none⟩ = some (.int .i64 d2)) X := fun X hX => ⟨(hX.cell (p := ⟨w.heap.size, 0, none⟩) q0).trans (ah n0 0), (hX.cell (p := ⟨w.heap.size, 1, none⟩) q0).trans (ah n0 1), (hX.cell (p := ⟨w.heap.size + 1, 0, none⟩) q1).trans (ah Mw 0), (hX.cell (p := ⟨w.heap.size + 1, 1, none⟩) q1).trans (ah Mw 1)⟩
  have HKE := hide KEEP; have HW0 := hide hw0
  clear KEEP n0 Mw Sc hsz hb0 hw0 HA
  go_wp2_with fail
  go_region_held3 (fun w' => w'.cell? ⟨w.heap.size, 0, none⟩ = some (.int .i64 n1) ∧ w'.cell? ⟨w.heap.size, 1, none⟩ = some (.int .i64 d1) ∧ w'.cell? ⟨w.heap.size + 1, 0, none⟩ = some (.int .i64 n2) ∧ w'.cell? ⟨w.heap.size + 1, 1, none⟩ = some (.int .i64 d2)) (exact (aa HKE) _ (by (first | with_reducible assumption | (repeat (first | with_reducible exact Below.refl _ _ | with_reducible assumption | refine Below.drew ?_ | (refine Below.alloc ?_ (by simp <;> omega) _)))))) (first | (go_at_call_of 57 (Value.agg #[.int .i64 n1, .int .i64 d1]); refine ((aa O1) _).mono ?_; rintro e w' ⟨s1, dh, A1, c1, l1, s2, di, A2, c2, l2, rfl, f1n, f2n, hb⟩; (try (first | replace f3 := jc.below f3 hb | replace f3 := (jc.below f3 (Below.drew (Below.refl _ _))).below hb)); (try (first | replace f4 := jc.below f4 hb | replace f4 := (jc.below f4 (Below.drew (Below.refl _ _))).below hb)); have f1 := f1n; have f2 := f2n; clear f1n f2n; have hbw := df (w := W0) (by (first | with_reducible assumption | (repeat (first | with_reducible exact Below.refl _ _ | with_reducible assumption | refine Below.drew ?_ | (refine Below.alloc ?_ (by simp <;> omega) _))))) hb; obtain ⟨hc, hf⟩ := dz hbw) | (go_at_call_of 57 (Value.agg #[.int .i64 n2, .int .i64 d2]); refine ((aa O2) _).mono ?_; rintro e w' ⟨s3, Dy, A3, c3, l3, s4, Ee, A4, c4, l4, rfl, f3n, f4n, hb⟩; (try (first | replace f1 := jc.below f1 hb | replace f1 := (jc.below f1 (Below.drew (Below.refl _ _))).below hb)); (try (first | replace f2 := jc.below f2 hb | replace f2 := (jc.below f2 (Below.drew (Below.refl _ _))).below hb)); have f3 := f3n; have f4 := f4n; clear f3n f4n; have hbw := df (w := W0) (by (first | with_reducible assumption | (repeat (first | with_reducible exact Below.refl _ _ | with_reducible assumption | refine Below.drew ?_ | (refine Below.alloc ?_ (by simp <;> omega) _))))) hb; obtain ⟨hc, hf⟩ := dz hbw) | (go_at_call 69; refine ((aa HQ) s1 dh A1 c1 l1 s2 di A2 c2 l2 s3 Dy A3 c3 l3 s4 Ee A4 c4 l4 _ (by first | exact f1 | exact jc.below f1 (Below.drew (Below.refl _ _))) (by first | exact f2 | exact jc.below f2 (Below.drew (Below.refl _ _))) (by first | exact f3 | exact jc.below f3 (Below.drew (Below.refl _ _))) (by first | exact f4 | exact jc.below f4 (Below.drew (Below.refl _ _)))).mono ?_; rintro e w' ⟨rfl, hb⟩; have hbw := df (w := W0) (by (first | with_reducible assumption | (repeat (first | with_reducible exact Below.refl _ _ | with_reducible assumption | refine Below.drew ?_ | (refine Below.alloc ?_ (by simp <;> omega) _))))) hb))
  all_goals
   have ku := bz (aa HW0) hbw
   have Tg := hide ku
   clear ku hbw
   go_wp2_with fail
   go_ret2
   exact ⟨rfl, aa Tg⟩
 ·
  have e1 : Rm n1 d1 n2 d2 = 1 := if_neg ok
  have e2 : aih n1 d1 n2 d2 = 0 := if_neg ok
  unfold awe
  rw [e1] at HA ⊢
  rw [e2]
  clear e1 e2 ok
  go_enter Tryz.func98, Tryz.ntmps98
  go_wp2_with fail
  obtain ⟨n0, Mw, Sc, hsz, hw0⟩ := pz w (.cells #[.int .i64 n1, .int .i64 d1] 23) (.cells #[.int .i64 n2, .int .i64 d2] 23) (.cells #[.int .i64 n1, .int .i64 d1, .int .i64 n2, .int .i64 d2] 23)
  generalize (((w.alloc (.cells #[.int .i64 n1, .int .i64 d1] 23)).alloc (.cells #[.int .i64 n2, .int .i64 d2] 23)).alloc (.cells #[.int .i64 n1, .int .i64 d1, .int .i64 n2, .int .i64 d2] 23)) = Wa at *
  refine ((aa HA) (w.heap.size + 1 + 1) Wa ((aa HT).below hw0) (lt_of_block Sc) (ah Sc 0) (ah Sc 1) (ah Sc 2) (ah Sc 3)).mono ?_
  rintro e W0 ⟨rfl, hb0⟩
  replace hw0 := bz hw0 hb0
  clear n0 Mw Sc hsz hb0
  go_wp2_with fail
  go_ret2
  exact ⟨rfl, hw0⟩
end Go.Proofs.YtjdnmdlnaoedoaaGreatDoor
namespace Go.Proofs.YtjdnmdlnaoedoaaGreatDoor
open Go.RowKit

namespace Sb
def wu (e g : Int) : Int := if e = 0 ∧ (g < 1 ∨ 1000000 < g) then 1 else e
set_option maxHeartbeats 16000000 in
theorem ari (e g : Int) (w : World) : Calls Tryz.prog 94 #[.int .i64 e, .int .i64 g] w (jh (Rg.bf (.int .i64 (wu e g))) w) := by
 obtain ⟨rr, hrr⟩ : ∃ rr, rr = wu e g := ⟨_, rfl⟩
 rw [← hrr]
 unfold wu at hrr
 have HR := hide hrr
 clear hrr
 go_enter Tryz.func94, Tryz.ntmps94
 go_upto_region 1 with fail
 have hO := (Own.nil w)
 have HO := hide hO
 clear hO
 by_cases h0 : e = 0
 ·
  by_cases h1 : g < 1
  ·
   have d1 : (e == 0) = true := beq_iff_eq.2 h0
   have d2 : decide (g < 1) = true := decide_eq_true h1
   go_upto_region 1 with fail
   refine Rg.fw 10 16 (Rg.pick [Rg.bf (.int .i64 e), Rg.bf (.bool true), Rg.bf (.bool true), Rg.bf (.int .i64 g), Rg.bf (.bool true), Rg.bf (.bool true), Rg.bf undef, Rg.bf undef, Rg.bf (.bool true), Rg.bf (.bool true)]) (ay w [] w) ik [] kr rfl (Rg.gm.pick ⟨Rg.ag _, Rg.ag _, Rg.ag _, Rg.ag _, Rg.ag _, Rg.ag _, Rg.ag _, Rg.ag _, Rg.ag _, Rg.ag _, trivial⟩) (ay.begin (aa HO))
    (ae (ig rfl (Rg.cz kr rfl))
    (ae (Mr rfl (Rg.ax 0 kr) (Rg.mh _) rfl d1)
    (ae (ig rfl (Rg.ax 1 kr))
    (Rg.bg (Rg.il (d := 7) rfl kr rfl (ig rfl (Rg.cz kr rfl)))
    (Rg.bg (Rg.il (d := 7) rfl kr rfl (Ie rfl (Rg.ax 3 kr) (Rg.mh _) rfl d2))
    (Rg.bg (Rg.il (d := 7) rfl kr rfl (ig rfl (Rg.ax 4 kr)))
    (Rg.bg (Rg.mg (d := 10) rfl kr rfl rfl lh rfl rfl)
    (Rg.bg (Rg.mg (d := 10) rfl kr rfl rfl lh rfl rfl)
    (Rg.bg (Rg.il (d := 7) rfl kr rfl (vv rfl (Rg.ax 5 kr) (Rg.mh _)))
    (ae (vv rfl (Rg.ax 2 kr) (Rg.ax 8 kr))
    Rg.cu)))))))))) ?_
   intro v1 V1 hG1 hv1 hne1
   simp only [Rg.puts, jr, jq, jo, jm, Act.put, jl, jk, ji]
   have e9 : v1 9 = .bool true := hv1 9 (by decide)
   simp only [e9]
   have hO := hG1.1
   clear HO
   have HO := hide hO
   clear hO hG1 hv1 hne1
   try clear e9
   have hr : rr = 1 := by rw [aa HR, if_pos om]
   subst hr
   go_upto_region 2 with fail
   refine Rg.fw 1 16 (Rg.pick [Rg.bf (.int .i64 1)]) (ay w [] V1) ik [] kr rfl (Rg.gm.pick ⟨Rg.ag _, trivial⟩) (ay.begin (aa HO))
    (ae (og rfl (Rg.mh _))
    Rg.cu) ?_
   intro v2 V2 hG2 hv2 hne2
   simp only [Rg.puts, jr, jq, jo, jm, Act.put, jl, jk, ji]
   have e0 : v2 0 = .int .i64 1 := hv2 0 (by decide)
   simp only [e0]
   have hO := hG2.1
   clear HO
   have HO := hide hO
   clear hO hG2 hv2 hne2
   try clear e0
   go_wp2_with fail
   exact Co Tryz.results94 rfl (aa HO).bel rfl
  ·
   by_cases h2 : 1000000 < g
   ·
    have d1 : (e == 0) = true := beq_iff_eq.2 h0
    have d2 : decide (g < 1) = false := decide_eq_false h1
    have d3 : decide (1000000 < g) = true := decide_eq_true h2
    go_upto_region 1 with fail
    refine Rg.fw 10 16 (Rg.pick [Rg.bf (.int .i64 e), Rg.bf (.bool true), Rg.bf (.bool true), Rg.bf (.int .i64 g), Rg.bf (.bool false), Rg.bf (.bool false), Rg.bf (.int .i64 g), Rg.bf (.bool true), Rg.bf (.bool true), Rg.bf (.bool true)]) (ay w [] w) ik [] kr rfl (Rg.gm.pick ⟨Rg.ag _, Rg.ag _, Rg.ag _, Rg.ag _, Rg.ag _, Rg.ag _, Rg.ag _, Rg.ag _, Rg.ag _, Rg.ag _, trivial⟩) (ay.begin (aa HO))
     (ae (ig rfl (Rg.cz kr rfl))
     (ae (Mr rfl (Rg.ax 0 kr) (Rg.mh _) rfl d1)
     (ae (ig rfl (Rg.ax 1 kr))
     (Rg.bg (Rg.il (d := 7) rfl kr rfl (ig rfl (Rg.cz kr rfl)))
     (Rg.bg (Rg.il (d := 7) rfl kr rfl (Ie rfl (Rg.ax 3 kr) (Rg.mh _) rfl d2))
     (Rg.bg (Rg.il (d := 7) rfl kr rfl (ig rfl (Rg.ax 4 kr)))
     (Rg.bg (Rg.il (d := 10) rfl kr rfl (ig rfl (Rg.cz kr rfl)))
     (Rg.bg (Rg.il (d := 10) rfl kr rfl (Gx rfl (Rg.ax 6 kr) (Rg.mh _) rfl d3))
     (Rg.bg (Rg.il (d := 7) rfl kr rfl (zf rfl (Rg.ax 5 kr) (Rg.ax 7 kr)))
     (ae (vv rfl (Rg.ax 2 kr) (Rg.ax 8 kr))
     Rg.cu)))))))))) ?_
    intro v1 V1 hG1 hv1 hne1
    simp only [Rg.puts, jr, jq, jo, jm, Act.put, jl, jk, ji]
    have e9 : v1 9 = .bool true := hv1 9 (by decide)
    simp only [e9]
    have hO := hG1.1
    clear HO
    have HO := hide hO
    clear hO hG1 hv1 hne1
    try clear e9
    have hr : rr = 1 := by rw [aa HR, if_pos om]
    subst hr
    go_upto_region 2 with fail
    refine Rg.fw 1 16 (Rg.pick [Rg.bf (.int .i64 1)]) (ay w [] V1) ik [] kr rfl (Rg.gm.pick ⟨Rg.ag _, trivial⟩) (ay.begin (aa HO))
     (ae (og rfl (Rg.mh _))
     Rg.cu) ?_
    intro v2 V2 hG2 hv2 hne2
    simp only [Rg.puts, jr, jq, jo, jm, Act.put, jl, jk, ji]
    have e0 : v2 0 = .int .i64 1 := hv2 0 (by decide)
    simp only [e0]
    have hO := hG2.1
    clear HO
    have HO := hide hO
    clear hO hG2 hv2 hne2
    try clear e0
    go_wp2_with fail
    exact Co Tryz.results94 rfl (aa HO).bel rfl
   ·
    have d1 : (e == 0) = true := beq_iff_eq.2 h0
    have d2 : decide (g < 1) = false := decide_eq_false h1
    have d3 : decide (1000000 < g) = false := decide_eq_false h2
    go_upto_region 1 with fail
    refine Rg.fw 10 16 (Rg.pick [Rg.bf (.int .i64 e), Rg.bf (.bool true), Rg.bf (.bool true), Rg.bf (.int .i64 g), Rg.bf (.bool false), Rg.bf (.bool false), Rg.bf (.int .i64 g), Rg.bf (.bool false), Rg.bf (.bool false), Rg.bf (.bool false)]) (ay w [] w) ik [] kr rfl (Rg.gm.pick ⟨Rg.ag _, Rg.ag _, Rg.ag _, Rg.ag _, Rg.ag _, Rg.ag _, Rg.ag _, Rg.ag _, Rg.ag _, Rg.ag _, trivial⟩) (ay.begin (aa HO))
     (ae (ig rfl (Rg.cz kr rfl))
     (ae (Mr rfl (Rg.ax 0 kr) (Rg.mh _) rfl d1)
     (ae (ig rfl (Rg.ax 1 kr))
     (Rg.bg (Rg.il (d := 7) rfl kr rfl (ig rfl (Rg.cz kr rfl)))
     (Rg.bg (Rg.il (d := 7) rfl kr rfl (Ie rfl (Rg.ax 3 kr) (Rg.mh _) rfl d2))
     (Rg.bg (Rg.il (d := 7) rfl kr rfl (ig rfl (Rg.ax 4 kr)))
     (Rg.bg (Rg.il (d := 10) rfl kr rfl (ig rfl (Rg.cz kr rfl)))
     (Rg.bg (Rg.il (d := 10) rfl kr rfl (Gx rfl (Rg.ax 6 kr) (Rg.mh _) rfl d3))
     (Rg.bg (Rg.il (d := 7) rfl kr rfl (zf rfl (Rg.ax 5 kr) (Rg.ax 7 kr)))
     (ae (vv rfl (Rg.ax 2 kr) (Rg.ax 8 kr))
     Rg.cu)))))))))) ?_
    intro v1 V1 hG1 hv1 hne1
    simp only [Rg.puts, jr, jq, jo, jm, Act.put, jl, jk, ji]
    have e9 : v1 9 = .bool false := hv1 9 (by decide)
    simp only [e9]
    have hO := hG1.1
    clear HO
    have HO := hide hO
    clear hO hG1 hv1 hne1
    try clear e9
    have hr : e = rr := by rw [aa HR, if_neg om]
    subst hr
    go_upto_region 3 with fail
    refine Rg.fw 2 16 (Rg.pick [Rg.bf (.int .i64 e), Rg.bf (.int .i64 e)]) (ay w [] V1) ik [] kr rfl (Rg.gm.pick ⟨Rg.ag _, Rg.ag _, trivial⟩) (ay.begin (aa HO))
     (ae (ig rfl (Rg.cz kr rfl))
     (ae (og rfl (Rg.ax 0 kr))
     Rg.cu)) ?_
    intro v2 V2 hG2 hv2 hne2
    simp only [Rg.puts, jr, jq, jo, jm, Act.put, jl, jk, ji]
    have e0 : v2 0 = .int .i64 e := hv2 0 (by decide)
    have e1 : v2 1 = .int .i64 e := hv2 1 (by decide)
    simp only [e0, e1]
    have hO := hG2.1
    clear HO
    have HO := hide hO
    clear hO hG2 hv2 hne2
    try clear e0 e1
    go_wp2_with fail
    exact Co Tryz.results94 rfl (aa HO).bel rfl
 ·
  have d1 : (e == 0) = false := beq_eq_false_iff_ne.2 h0
  go_upto_region 1 with fail
  refine Rg.fw 10 16 (Rg.pick [Rg.bf (.int .i64 e), Rg.bf (.bool false), Rg.bf (.bool false), Rg.bf undef, Rg.bf undef, Rg.bf undef, Rg.bf undef, Rg.bf undef, Rg.bf undef, Rg.bf (.bool false)]) (ay w [] w) ik [] kr rfl (Rg.gm.pick ⟨Rg.ag _, Rg.ag _, Rg.ag _, Rg.ag _, Rg.ag _, Rg.ag _, Rg.ag _, Rg.ag _, Rg.ag _, Rg.ag _, trivial⟩) (ay.begin (aa HO))
   (ae (ig rfl (Rg.cz kr rfl))
   (ae (Mr rfl (Rg.ax 0 kr) (Rg.mh _) rfl d1)
   (ae (ig rfl (Rg.ax 1 kr))
   (Rg.bg (Rg.mg (d := 7) rfl kr rfl rfl lh rfl rfl)
   (Rg.bg (Rg.mg (d := 7) rfl kr rfl rfl lh rfl rfl)
   (Rg.bg (Rg.mg (d := 7) rfl kr rfl rfl lh rfl rfl)
   (Rg.bg (ahr (d := 10) rfl kr rfl lh rfl rfl)
   (Rg.bg (ahr (d := 10) rfl kr rfl lh rfl rfl)
   (Rg.bg (Rg.mg (d := 7) rfl kr rfl rfl lh rfl rfl)
   (ae (zf rfl (Rg.ax 2 kr) (Rg.mh _))
   Rg.cu)))))))))) ?_
  intro v1 V1 hG1 hv1 hne1
  simp only [Rg.puts, jr, jq, jo, jm, Act.put, jl, jk, ji]
  have e9 : v1 9 = .bool false := hv1 9 (by decide)
  simp only [e9]
  have hO := hG1.1
  clear HO
  have HO := hide hO
  clear hO hG1 hv1 hne1
  try clear e9
  have hr : e = rr := by rw [aa HR, if_neg om]
  subst hr
  go_upto_region 3 with fail
  refine Rg.fw 2 16 (Rg.pick [Rg.bf (.int .i64 e), Rg.bf (.int .i64 e)]) (ay w [] V1) ik [] kr rfl (Rg.gm.pick ⟨Rg.ag _, Rg.ag _, trivial⟩) (ay.begin (aa HO))
   (ae (ig rfl (Rg.cz kr rfl))
   (ae (og rfl (Rg.ax 0 kr))
   Rg.cu)) ?_
  intro v2 V2 hG2 hv2 hne2
  simp only [Rg.puts, jr, jq, jo, jm, Act.put, jl, jk, ji]
  have e0 : v2 0 = .int .i64 e := hv2 0 (by decide)
  have e1 : v2 1 = .int .i64 e := hv2 1 (by decide)
  simp only [e0, e1]
  have hO := hG2.1
  clear HO
  have HO := hide hO
  clear hO hG2 hv2 hne2
  try clear e0 e1
  go_wp2_with fail
  exact Co Tryz.results94 rfl (aa HO).bel rfl
def Ae (a b c d : Int) : Prop := Wd.xz a b ∧ Wd.xz c d ∧ a * d - c * b ≤ 0
instance (a b c d : Int) : Decidable (Ae a b c d) := by unfold Ae; infer_instance
def Vn (a b c d : Int) : Int := if Ae a b c d then 0 else 1
set_option maxHeartbeats 16000000 in
theorem ase {fe eu fu fq : Int} (o e r : Int) (w : World) (hT : rz w) (u0 : Value) (h0 : ai [iv fe, iv eu, iv fu, iv fq] w u0)
  (hc : ∀ (W : World) (v0 v1 : Value), rz W → ai [.v (.int .i64 fe), .v (.int .i64 eu)] W v0 → ai [.v (.int .i64 fu), .v (.int .i64 fq)] W v1 → Calls Tryz.prog 98 #[v0, v1] W (jh (tq [Rg.bf (.int .i64 o), Rg.bf (.int .i64 e)]) W))
  (hr : (e = 0 → 0 < o → r = 1) ∧ (¬ (e = 0 ∧ 0 < o) → e = r)) : Calls Tryz.prog 31 #[u0] w (jh (Rg.bf (.int .i64 r)) w) := by
 have HC := hide hc
 have HR := hide hr
 have HT := hide hT
 clear hc hr hT
 have hu0 := Af h0
 subst hu0
 go_enter Tryz.func31, Tryz.ntmps31
 go_upto_region 1 with fail
 have hO := (Own.push (T := 41) (ls := [iv fe, iv eu, iv fu, iv fq]) (cs := [.int .i64 fe, .int .i64 eu, .int .i64 fu, .int .i64 fq]) (Own.nil w) (ek.v (kg _) (ek.v (kg _) (ek.v (kg _) (ek.v (kg _) rfl)))) (w.heap.size) rfl)
 generalize w.alloc (.cells #[.int .i64 fe, .int .i64 eu, .int .i64 fu, .int .i64 fq] 41) = W0 at *
 have HO := hide hO
 clear hO
 go_upto_region 1 with fail
 refine Rg.fw 10 20 (Rg.pick [Rg.bf (.pointer (some ⟨w.heap.size, 0, none⟩)), ai [iv fe, iv eu], Rg.bf (.pointer (some ⟨w.heap.size, 2, none⟩)), ai [iv fu, iv fq], tq [Rg.bf (.int .i64 o), Rg.bf (.int .i64 e)], tq [Rg.bf (.int .i64 o), Rg.bf (.int .i64 e)], Rg.bf (.int .i64 o), Rg.bf (.int .i64 e), Rg.bf (.int .i64 o), Rg.bf (.int .i64 e)]) (ay w [(w.heap.size, 41, [iv fe, iv eu, iv fu, iv fq])] W0) ik [] kr rfl (Rg.gm.pick ⟨Rg.ag _, au _, Rg.ag _, au _, oz ⟨(Rg.ag _), (Rg.ag _), trivial⟩, oz ⟨(Rg.ag _), (Rg.ag _), trivial⟩, Rg.ag _, Rg.ag _, Rg.ag _, Rg.ag _, trivial⟩) (ay.begin (aa HO))
  (ae (Ep (b := w.heap.size) (off := 0) rfl (Rg.cz kr rfl) rfl rfl)
  (ae (fo Bi me0 (Rg.ax 0 kr) [] [iv fe, iv eu] [iv fu, iv fq])
  (ae (Fu (b := w.heap.size) (off := 0) rfl (Rg.cz kr rfl) rfl rfl)
  (ae (fo Bi me0 (Rg.ax 2 kr) [iv fe, iv eu] [iv fu, iv fq] [])
  (ae (iw Tryz.func98 kr rfl ay.step (Rg.ax 1 kr) (Rg.ax 3 kr) (fun W v0 v1 hG h0 h1 => aa HC W v0 v1 ((aa HT).below hG.bel) h0 h1))
  (ae (ig rfl (Rg.ax 4 kr))
  (ae (oo (ts := [Rg.bf (.int .i64 o), Rg.bf (.int .i64 e)]) rfl (Rg.ax 5 kr) (of_decide_eq_true rfl) rfl)
  (ae (oo (ts := [Rg.bf (.int .i64 o), Rg.bf (.int .i64 e)]) rfl (Rg.ax 5 kr) (of_decide_eq_true rfl) rfl)
  (ae (og rfl (Rg.ax 6 kr))
  (ae (og rfl (Rg.ax 7 kr))
  Rg.cu)))))))))) ?_
 intro v1 V1 hG1 hv1 hne1
 simp only [Rg.puts, jr, jq, jo, jm, Act.put, jl, jk, ji]
 have e6 : v1 6 = .int .i64 o := hv1 6 (by decide)
 have e7 : v1 7 = .int .i64 e := hv1 7 (by decide)
 have e8 : v1 8 = .int .i64 o := hv1 8 (by decide)
 have e9 : v1 9 = .int .i64 e := hv1 9 (by decide)
 simp only [e6, e7, e8, e9]
 have hO := hG1.1
 clear HO
 have HO := hide hO
 clear hO hG1 hv1 hne1
 try clear e6 e7 e8 e9
 by_cases g0 : e = 0
 ·
  by_cases g1 : 0 < o
  ·
   have d1 : (e == 0) = true := beq_iff_eq.2 g0
   have d2 : decide (0 < o) = true := decide_eq_true g1
   go_upto_region 2 with fail
   refine Rg.fw 6 20 (Rg.pick [Rg.bf (.int .i64 e), Rg.bf (.bool true), Rg.bf (.bool true), Rg.bf (.int .i64 o), Rg.bf (.bool true), Rg.bf (.bool true)]) (ay w [(w.heap.size, 41, [iv fe, iv eu, iv fu, iv fq])] V1) ik [] kr rfl (Rg.gm.pick ⟨Rg.ag _, Rg.ag _, Rg.ag _, Rg.ag _, Rg.ag _, Rg.ag _, trivial⟩) (ay.begin (aa HO))
    (ae (ig rfl (Rg.cz kr rfl))
    (ae (Mr rfl (Rg.ax 0 kr) (Rg.mh _) rfl d1)
    (ae (ig rfl (Rg.ax 1 kr))
    (Rg.bg (Rg.il (d := 15) rfl kr rfl (ig rfl (Rg.cz kr rfl)))
    (Rg.bg (Rg.il (d := 15) rfl kr rfl (Gx rfl (Rg.ax 3 kr) (Rg.mh _) rfl d2))
    (ae (vv rfl (Rg.ax 2 kr) (Rg.ax 4 kr))
    Rg.cu)))))) ?_
   intro v2 V2 hG2 hv2 hne2
   simp only [Rg.puts, jr, jq, jo, jm, Act.put, jl, jk, ji]
   have e5 : v2 5 = .bool true := hv2 5 (by decide)
   simp only [e5]
   have hO := hG2.1
   clear HO
   have HO := hide hO
   clear hO hG2 hv2 hne2
   try clear e5
   have hr : r = 1 := (aa HR).1 g0 g1
   subst hr
   go_upto_region 3 with fail
   refine Rg.fw 1 20 (Rg.pick [Rg.bf (.int .i64 1)]) (ay w [(w.heap.size, 41, [iv fe, iv eu, iv fu, iv fq])] V2) ik [] kr rfl (Rg.gm.pick ⟨Rg.ag _, trivial⟩) (ay.begin (aa HO))
    (ae (og rfl (Rg.mh _))
    Rg.cu) ?_
   intro v3 V3 hG3 hv3 qh
   simp only [Rg.puts, jr, jq, jo, jm, Act.put, jl, jk, ji]
   have e0 : v3 0 = .int .i64 1 := hv3 0 (by decide)
   simp only [e0]
   have hO := hG3.1
   clear HO
   have HO := hide hO
   clear hO hG3 hv3 qh
   try clear e0
   go_wp2_with fail
   exact Co Tryz.results31 rfl (aa HO).bel rfl
  ·
   have d1 : (e == 0) = true := beq_iff_eq.2 g0
   have d2 : decide (0 < o) = false := decide_eq_false g1
   go_upto_region 2 with fail
   refine Rg.fw 6 20 (Rg.pick [Rg.bf (.int .i64 e), Rg.bf (.bool true), Rg.bf (.bool true), Rg.bf (.int .i64 o), Rg.bf (.bool false), Rg.bf (.bool false)]) (ay w [(w.heap.size, 41, [iv fe, iv eu, iv fu, iv fq])] V1) ik [] kr rfl (Rg.gm.pick ⟨Rg.ag _, Rg.ag _, Rg.ag _, Rg.ag _, Rg.ag _, Rg.ag _, trivial⟩) (ay.begin (aa HO))
    (ae (ig rfl (Rg.cz kr rfl))
    (ae (Mr rfl (Rg.ax 0 kr) (Rg.mh _) rfl d1)
    (ae (ig rfl (Rg.ax 1 kr))
    (Rg.bg (Rg.il (d := 15) rfl kr rfl (ig rfl (Rg.cz kr rfl)))
    (Rg.bg (Rg.il (d := 15) rfl kr rfl (Gx rfl (Rg.ax 3 kr) (Rg.mh _) rfl d2))
    (ae (vv rfl (Rg.ax 2 kr) (Rg.ax 4 kr))
    Rg.cu)))))) ?_
   intro v2 V2 hG2 hv2 hne2
   simp only [Rg.puts, jr, jq, jo, jm, Act.put, jl, jk, ji]
   have e5 : v2 5 = .bool false := hv2 5 (by decide)
   simp only [e5]
   have hO := hG2.1
   clear HO
   have HO := hide hO
   clear hO hG2 hv2 hne2
   try clear e5
   have hr : e = r := (aa HR).2 om
   subst hr
   go_upto_region 4 with fail
   refine Rg.fw 2 20 (Rg.pick [Rg.bf (.int .i64 e), Rg.bf (.int .i64 e)]) (ay w [(w.heap.size, 41, [iv fe, iv eu, iv fu, iv fq])] V2) ik [] kr rfl (Rg.gm.pick ⟨Rg.ag _, Rg.ag _, trivial⟩) (ay.begin (aa HO))
    (ae (ig rfl (Rg.cz kr rfl))
    (ae (og rfl (Rg.ax 0 kr))
    Rg.cu)) ?_
   intro v3 V3 hG3 hv3 qh
   simp only [Rg.puts, jr, jq, jo, jm, Act.put, jl, jk, ji]
   have e0 : v3 0 = .int .i64 e := hv3 0 (by decide)
   have e1 : v3 1 = .int .i64 e := hv3 1 (by decide)
   simp only [e0, e1]
   have hO := hG3.1
   clear HO
   have HO := hide hO
   clear hO hG3 hv3 qh
   try clear e0 e1
   go_wp2_with fail
   exact Co Tryz.results31 rfl (aa HO).bel rfl
 ·
  have d1 : (e == 0) = false := beq_eq_false_iff_ne.2 g0
  go_upto_region 2 with fail
  refine Rg.fw 6 20 (Rg.pick [Rg.bf (.int .i64 e), Rg.bf (.bool false), Rg.bf (.bool false), Rg.bf undef, Rg.bf undef, Rg.bf (.bool false)]) (ay w [(w.heap.size, 41, [iv fe, iv eu, iv fu, iv fq])] V1) ik [] kr rfl (Rg.gm.pick ⟨Rg.ag _, Rg.ag _, Rg.ag _, Rg.ag _, Rg.ag _, Rg.ag _, trivial⟩) (ay.begin (aa HO))
   (ae (ig rfl (Rg.cz kr rfl))
   (ae (Mr rfl (Rg.ax 0 kr) (Rg.mh _) rfl d1)
   (ae (ig rfl (Rg.ax 1 kr))
   (Rg.bg (Rg.mg (d := 15) rfl kr rfl rfl lh rfl rfl)
   (Rg.bg (Rg.mg (d := 15) rfl kr rfl rfl lh rfl rfl)
   (ae (zf rfl (Rg.ax 2 kr) (Rg.mh _))
   Rg.cu)))))) ?_
  intro v2 V2 hG2 hv2 hne2
  simp only [Rg.puts, jr, jq, jo, jm, Act.put, jl, jk, ji]
  have e5 : v2 5 = .bool false := hv2 5 (by decide)
  simp only [e5]
  have hO := hG2.1
  clear HO
  have HO := hide hO
  clear hO hG2 hv2 hne2
  try clear e5
  have hr : e = r := (aa HR).2 om
  subst hr
  go_upto_region 4 with fail
  refine Rg.fw 2 20 (Rg.pick [Rg.bf (.int .i64 e), Rg.bf (.int .i64 e)]) (ay w [(w.heap.size, 41, [iv fe, iv eu, iv fu, iv fq])] V2) ik [] kr rfl (Rg.gm.pick ⟨Rg.ag _, Rg.ag _, trivial⟩) (ay.begin (aa HO))
   (ae (ig rfl (Rg.cz kr rfl))
   (ae (og rfl (Rg.ax 0 kr))
   Rg.cu)) ?_
  intro v3 V3 hG3 hv3 qh
  simp only [Rg.puts, jr, jq, jo, jm, Act.put, jl, jk, ji]
  have e0 : v3 0 = .int .i64 e := hv3 0 (by decide)
  have e1 : v3 1 = .int .i64 e := hv3 1 (by decide)
  simp only [e0, e1]
  have hO := hG3.1
  clear HO
  have HO := hide hO
  clear hO hG3 hv3 qh
  try clear e0 e1
  go_wp2_with fail
  exact Co Tryz.results31 rfl (aa HO).bel rfl
theorem bde {fe eu fu fq : Int} (w : World) (hT : rz w) (u0 : Value) (h0 : ai [iv fe, iv eu, iv fu, iv fq] w u0) : Calls Tryz.prog 31 #[u0] w (jh (Rg.bf (.int .i64 (Vn fe eu fu fq))) w) := by
 refine ase (aih fe eu fu fq) (Rm fe eu fu fq) _ w hT u0 h0 (fun W v0 v1 hT g0 g1 => ?_) ?_
 ·
  rw [Xa g0, Xa g1]
  exact (avj fe eu fu fq W hT).mono fun e w' ⟨h1, h2⟩ => ⟨_, h1, h2, [_, _], rfl, _, _, rfl, rfl, _, _, rfl, rfl, rfl⟩
 ·
  unfold aih Rm Vn
  by_cases ok : Wd.xz fe eu ∧ Wd.xz fu fq
  ·
   rw [if_pos ok, if_pos ok]
   have hs : 0 < jw (fe * fq - fu * eu) ↔ 0 < fe * fq - fu * eu := by unfold jw; (repeat' split) <;> omega
   refine ⟨fun _ h => if_neg (fun hk => ?_), fun h => (if_pos ⟨ok.1, ok.2, ?_⟩).symm⟩
   ·
    have := hk.2.2; have := hs.1 h; omega
   ·
    have h1 : ¬ 0 < jw (fe * fq - fu * eu) := fun h2 => h ⟨rfl, h2⟩
    rw [hs] at h1; omega
  ·
   rw [if_neg ok, if_neg ok, if_neg (fun hk => ok ⟨hk.1, hk.2.1⟩)]
   exact ⟨fun h => by omega, fun _ => rfl⟩
structure Sp where
 a : Int
 b : Int
 c : Int
 d : Int
def lv4 (s : Sp) : List Leaf := [.v (.int .i64 s.a), .v (.int .i64 s.b), .v (.int .i64 s.c), .v (.int .i64 s.d)]
def Vz (ss : List Sp) : List Leaf := (ss.map lv4).flatten
theorem ayy (q1 : List Sp) (y : Sp) (q2 : List Sp) : Vz (q1 ++ y :: q2) = Vz q1 ++ (lv4 y ++ Vz q2) := by simp [Vz]
theorem aed : ∀ (a b : List Leaf), lsize (a ++ b) = lsize a + lsize b
 | [], b => by simp [lsize]
 | l :: a, b => by rw [List.cons_append, lsize, lsize, aed a b]; omega
theorem aec : ∀ (l : List Sp), lsize (Vz l) = 4 * l.length
 | [] => rfl
 | x :: l => by
  have h : Vz (x :: l) = lv4 x ++ Vz l := by simp [Vz]
  rw [h, aed, aec l, List.length_cons, show lsize (lv4 x) = 4 from rfl]; omega
def Vu (s : Sp) : Prop := Ae s.a s.b s.c s.d
instance (s : Sp) : Decidable (Vu s) := by unfold Vu; infer_instance
def ui (ss : List Sp) : Int := if ∀ s ∈ ss, Vu s then 0 else 1
set_option maxHeartbeats 16000000 in
theorem arc {ss : List Sp} (hm : ss.length ≤ 1000000) (w : World) (hT : rz w) (u0 : Value) (h0 : Zh 41 ss.length (Vz ss) w u0) :
  Calls Tryz.prog 104 #[u0] w (jh (Rg.bf (.int .i64 (ui ss))) w) := by
 obtain ⟨b0, rfl, hbx⟩ := h0
 obtain ⟨rr, hrr⟩ : ∃ rr, rr = ui ss := ⟨_, rfl⟩
 rw [← hrr]
 unfold ui at hrr
 have HR := hide hrr
 have HT := hide hT
 have HLEN := hide hm
 have HBX := hide hbx
 clear hT hbx hm hrr
 go_enter Tryz.func104, Tryz.ntmps104
 go_upto_region 1 with fail
 have hO := (Own.nil w)
 have HO := hide hO
 clear hO
 go_wp2_with fail
 go_loopw [8] (fun iv wr => ∃ q1 q2 : List Sp, ss = q1 ++ q2 ∧ iv = .int .i64 ((q1.length : Nat) : Int) ∧ (∀ s ∈ q1, Vu s) ∧ Hid (Own w [] wr)) (fun iv _ => ss.length - (intOf iv).toNat)
 case atStart => exact ⟨[], ss, rfl, rfl, (by intro s h; cases h), HO⟩
 case round =>
  obtain ⟨q1, q2, Ec, rfl, hok, HO⟩ := hrel
  have Kl := hide hok
  clear hok
  rcases q2 with _ | ⟨y, q2⟩
  ·
   have d1 : decide ((q1.length : Int) < (ss.length : Int)) = false := decide_eq_false (by rw [Ec]; simp)
   rw [List.append_nil] at Ec
   obtain rfl : q1 = ss := Ec.symm
   have hr : rr = 0 := by rw [aa HR]; exact if_pos (aa Kl)
   subst hr
   go_upto_region 2 with fail
   refine Rg.fw 1 18 (Rg.pick [Rg.bf (.bool false)]) (ay w [] wr) ik [] kr rfl (Rg.gm.pick ⟨Rg.ag _, trivial⟩) (ay.begin (aa HO))
    (ae (Ie rfl (Rg.cz kr rfl) (Rg.cz kr rfl) rfl d1)
    Rg.cu) ?_
   intro v1 V1 hG1 hv1 hne1
   simp only [Rg.puts, jr, jq, jo, jm, Act.put, jl, jk, ji]
   have e0 : v1 0 = .bool false := hv1 0 (by decide)
   simp only [e0]
   have hO := hG1.1
   clear HO
   have HO := hide hO
   clear hO hG1 hv1 hne1
   try clear e0
   go_upto_region 8 with fail
   refine Rg.fw 1 18 (Rg.pick [Rg.bf (.int .i64 0)]) (ay w [] V1) ik [] kr rfl (Rg.gm.pick ⟨Rg.ag _, trivial⟩) (ay.begin (aa HO))
    (ae (og rfl (Rg.mh _))
    Rg.cu) ?_
   intro v2 V2 hG2 hv2 hne2
   simp only [Rg.puts, jr, jq, jo, jm, Act.put, jl, jk, ji]
   have e0 : v2 0 = .int .i64 0 := hv2 0 (by decide)
   simp only [e0]
   have hO := hG2.1
   clear HO
   have HO := hide hO
   clear hO hG2 hv2 hne2
   try clear e0
   go_wp2_with fail
   exact Co Tryz.results104 rfl (aa HO).bel rfl
  ·
   have d1 : decide ((q1.length : Int) < (ss.length : Int)) = true := decide_eq_true (by rw [Ec]; simp; omega)
   have yc := hide (show q1.length < ss.length by rw [Ec]; simp)
   have Je := hide Ec
   have hB := (aa HBX)
   rw [Ec, ayy] at hB
   have HB := hide hB
   clear hB Ec
   go_upto_region 2 with fail
   refine Rg.fw 1 18 (Rg.pick [Rg.bf (.bool true)]) (ay w [] wr) ik [] kr rfl (Rg.gm.pick ⟨Rg.ag _, trivial⟩) (ay.begin (aa HO))
    (ae (Ie rfl (Rg.cz kr rfl) (Rg.cz kr rfl) rfl d1)
    Rg.cu) ?_
   intro v1 V1 hG1 hv1 hne1
   simp only [Rg.puts, jr, jq, jo, jm, Act.put, jl, jk, ji]
   have e0 : v1 0 = .bool true := hv1 0 (by decide)
   simp only [e0]
   have hO := hG1.1
   clear HO
   have HO := hide hO
   clear hO hG1 hv1 hne1
   try clear e0
   clear d1
   go_upto_region 3 with fail
   refine Rg.fw 3 18 (Rg.pick [Rg.bf (.pointer (some ⟨b0, 4 * q1.length, none⟩)), ai [iv y.a, iv y.b, iv y.c, iv y.d], tu 41 zS V1.heap.size]) (ay w [] V1) ik [2] kr rfl (Rg.gm.pick ⟨Rg.ag _, au _, uq _ _ _, trivial⟩) (ay.begin (aa HO))
    (ae (bal (i := q1.length) (m := ss.length) rfl (Rg.cz kr rfl) (Rg.cz kr rfl) (aa yc) rfl)
    (ae (Bd (b := b0) (off := 4 * q1.length) (TB := 41) (pre := Vz q1) (mid := lv4 y) (post := Vz q2) qp rfl (Rg.ax 0 kr) (fun W h => (aa HB).below h.1.bel) (aec q1) rfl rfl)
    (ae (xc aba rfl ay.step ay.size rfl (ym (by intro j hj; simp at hj; (repeat' (first | (rcases hj with rfl | hj))) <;> first | (subst hj; exact ⟨_, _, _, rfl⟩) | exact ⟨_, _, _, rfl⟩)))
    Rg.cu))) ?_
   intro v2 V2 hG2 hv2 hne2
   simp only [Rg.puts, jr, jq, jo, jm, Act.put, jl, jk, ji]
   obtain ⟨amy, e2, Wt, hz2⟩ := (show tu 41 zS V1.heap.size V2 (v2 2) from hv2 2 (by decide))
   simp only [e2]
   have hO := hG2.1
   replace hO := Own.add (aa HO) hG2.2 Wt hz2
   clear Wt hz2
   refine ky hO 0 [] zS [iv y.a, iv y.b, iv y.c, iv y.d] [] rfl uj rfl (show ai [iv y.a, iv y.b, iv y.c, iv y.d] V2 (v2 1) from hv2 1 (by decide)) rfl rfl rfl ?_
   intro Dl iy hk0
   replace hO := iy
   clear iy
   clear HO
   have HO := hide hO
   clear hO hG2 hv2 hne2 hk0
   try clear e2
   go_upto_region 4 with fail
   refine Rg.fw 3 18 (Rg.pick [ai [iv y.a, iv y.b, iv y.c, iv y.d], Rg.bf (.int .i64 (Vn y.a y.b y.c y.d)), Rg.bf (.int .i64 (Vn y.a y.b y.c y.d))]) (ay w [(amy, 41, [iv y.a, iv y.b, iv y.c, iv y.d])] Dl) ik [] kr rfl (Rg.gm.pick ⟨au _, Rg.ag _, Rg.ag _, trivial⟩) (ay.begin (aa HO))
    (ae (fo qp me0 (Rg.cz kr rfl) [] [iv y.a, iv y.b, iv y.c, iv y.d] [])
    (ae (jf Tryz.func31 kr rfl ay.step (Rg.ax 0 kr) (fun W v0 hG h0 => bde W ((aa HT).below hG.bel) _ h0))
    (ae (og rfl (Rg.ax 1 kr))
    Rg.cu))) ?_
   intro v3 V3 hG3 hv3 qh
   simp only [Rg.puts, jr, jq, jo, jm, Act.put, jl, jk, ji]
   have e1 : v3 1 = .int .i64 (Vn y.a y.b y.c y.d) := hv3 1 (by decide)
   have e2 : v3 2 = .int .i64 (Vn y.a y.b y.c y.d) := hv3 2 (by decide)
   simp only [e1, e2]
   have hO := hG3.1
   clear HO
   have HO := hide hO
   clear hO hG3 hv3 qh
   try clear e1 e2
   by_cases g0 : Ae y.a y.b y.c y.d
   ·
    have hv : Vn y.a y.b y.c y.d = 0 := if_pos g0
    rw [hv]
    have HG := hide g0
    clear g0 hv
    go_upto_region 5 with fail
    refine Rg.fw 2 18 (Rg.pick [Rg.bf (.int .i64 0), Rg.bf (.bool false)]) (ay w [(amy, 41, [iv y.a, iv y.b, iv y.c, iv y.d])] V3) ik [] kr rfl (Rg.gm.pick ⟨Rg.ag _, Rg.ag _, trivial⟩) (ay.begin (aa HO))
     (ae (ig rfl (Rg.cz kr rfl))
     (ae (Hg rfl (Rg.ax 0 kr) (Rg.mh _) rfl rfl)
     Rg.cu)) ?_
    intro v4 V4 hG4 hv4 yg
    simp only [Rg.puts, jr, jq, jo, jm, Act.put, jl, jk, ji]
    have e1 : v4 1 = .bool false := hv4 1 (by decide)
    simp only [e1]
    have hO := hG4.1
    clear HO
    have HO := hide hO
    clear hO hG4 hv4 yg
    try clear e1
    go_wp2_with fail
    go_roundw
    case rel =>
     have h1 := aa yc; have h2 := aa HLEN
     refine ⟨q1 ++ [y], q2, by rw [aa Je]; simp, by rw [List.length_append, List.length_singleton]; exact Xj h1 h2, fun s hs => ?_, hide (aa HO).drop⟩
     rcases List.mem_append.1 hs with hs | hs
     ·
      exact (aa Kl) s hs
     ·
      rw [List.mem_singleton.1 hs]; exact aa HG
    case measure =>
     have h1 := aa yc; have h2 := aa HLEN
     clear HO Je HB
     rw [Tq h1 h2]
     exact measS h1
   ·
    have hv : Vn y.a y.b y.c y.d = 1 := if_neg g0
    rw [hv]
    have hr : rr = 1 := by rw [aa HR]; exact if_neg (fun h => g0 (h y (by rw [aa Je]; simp)))
    subst hr
    clear g0
    go_upto_region 5 with fail
    refine Rg.fw 2 18 (Rg.pick [Rg.bf (.int .i64 1), Rg.bf (.bool true)]) (ay w [(amy, 41, [iv y.a, iv y.b, iv y.c, iv y.d])] V3) ik [] kr rfl (Rg.gm.pick ⟨Rg.ag _, Rg.ag _, trivial⟩) (ay.begin (aa HO))
     (ae (ig rfl (Rg.cz kr rfl))
     (ae (Hg rfl (Rg.ax 0 kr) (Rg.mh _) rfl rfl)
     Rg.cu)) ?_
    intro v4 V4 hG4 hv4 yg
    simp only [Rg.puts, jr, jq, jo, jm, Act.put, jl, jk, ji]
    have e1 : v4 1 = .bool true := hv4 1 (by decide)
    simp only [e1]
    have hO := hG4.1
    clear HO
    have HO := hide hO
    clear hO hG4 hv4 yg
    try clear e1
    go_upto_region 6 with fail
    refine Rg.fw 2 18 (Rg.pick [Rg.bf (.int .i64 1), Rg.bf (.int .i64 1)]) (ay w [(amy, 41, [iv y.a, iv y.b, iv y.c, iv y.d])] V4) ik [] kr rfl (Rg.gm.pick ⟨Rg.ag _, Rg.ag _, trivial⟩) (ay.begin (aa HO))
     (ae (ig rfl (Rg.cz kr rfl))
     (ae (og rfl (Rg.ax 0 kr))
     Rg.cu)) ?_
    intro v5 V5 Ap hv5 hne5
    simp only [Rg.puts, jr, jq, jo, jm, Act.put, jl, jk, ji]
    have e0 : v5 0 = .int .i64 1 := hv5 0 (by decide)
    have e1 : v5 1 = .int .i64 1 := hv5 1 (by decide)
    simp only [e0, e1]
    have hO := Ap.1
    clear HO
    have HO := hide hO
    clear hO Ap hv5 hne5
    try clear e0 e1
    go_wp2_with fail
    exact Co Tryz.results104 rfl (aa HO).bel rfl
end Sb

end Go.Proofs.YtjdnmdlnaoedoaaGreatDoor
