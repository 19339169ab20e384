/- Texts beneath a law of layer 1. -/
import Derived.Test.YtjdnmdlnaoedoaaGreatDoorCu11
import Derived.BigRegion
set_option maxRecDepth 100000
set_option maxHeartbeats 16000000
namespace Go.Proofs.YtjdnmdlnaoedoaaGreatDoor
open Go.RowKit

namespace Sb
theorem bbd {Q : Exit → Act → World → Prop} {l : List Oper} {n : Nat} {T : Nat → World → Value → Prop} {G : World → Prop} {al : List Nat} {a0 : Act} {k d : Nat} {ty : TypeId} {pos : String} {af : Array Edge} {gd : Option (Nat × Bool)} {b i m : Nat} {x y : Operand} (hal : al.contains k = false) (hx : Rg.ji l n T a0 k x (Rg.ax (.slice (some ⟨b, 0, none⟩) m m))) (hy : Rg.ji l n T a0 k y (Rg.ax (.int .i64 (i : Int)))) (hi : i < m) (hT : T k = Rg.ax (.pointer (some ⟨b, 6 * i, none⟩))) :
  Rg.Step Tryz.prog Q l n T G gm al a0 k { dst := some d, op := .indexAddr 153 x y, type := ty, pos := pos, after := af, guard := gd } := by
 intro a w hG hO hN
 have h1 := hx a w hO hN
 have h2 := hy a w hO hN
 have hr : (execOp a.eval { dst := some d, op := .indexAddr 153 x y, type := ty, pos := pos, after := af, guard := gd }).run Tryz.prog w = .ok (.value (.pointer (some ⟨b, 6 * i, none⟩))) w := by
  have h1' : a.eval x = .slice (some ⟨b, 0, none⟩) m m := h1
  have h2' : a.eval y = .int .i64 (i : Int) := h2
  simp only [execOp, h1', h2']
  simp [go_sem, hi, Nat.mul_comm]
 exact pz (P := Tryz.prog) hr ⟨_, rfl, hG, Below.refl _ _, by rw [hT]; rfl, fun h => by rw [hal] at h; cases h⟩
theorem bbc {Q : Exit → Act → World → Prop} {l : List Oper} {n : Nat} {T : Nat → World → Value → Prop} {G : World → Prop} {al : List Nat} {a0 : Act} {k d : Nat} {ty : TypeId} {pos : String} {af : Array Edge} {gd : Option (Nat × Bool)} {b i m : Nat} {x y : Operand} (hal : al.contains k = false) (hx : Rg.ji l n T a0 k x (Rg.ax (.slice (some ⟨b, 0, none⟩) m m))) (hy : Rg.ji l n T a0 k y (Rg.ax (.int .i64 (i : Int)))) (hi : i < m) (hT : T k = Rg.ax (.pointer (some ⟨b, 4 * i, none⟩))) :
  Rg.Step Tryz.prog Q l n T G gm al a0 k { dst := some d, op := .indexAddr 150 x y, type := ty, pos := pos, after := af, guard := gd } := by
 intro a w hG hO hN
 have h1 := hx a w hO hN
 have h2 := hy a w hO hN
 have hr : (execOp a.eval { dst := some d, op := .indexAddr 150 x y, type := ty, pos := pos, after := af, guard := gd }).run Tryz.prog w = .ok (.value (.pointer (some ⟨b, 4 * i, none⟩))) w := by
  have h1' : a.eval x = .slice (some ⟨b, 0, none⟩) m m := h1
  have h2' : a.eval y = .int .i64 (i : Int) := h2
  simp only [execOp, h1', h2']
  simp [go_sem, hi, Nat.mul_comm]
 exact pz (P := Tryz.prog) hr ⟨_, rfl, hG, Below.refl _ _, by rw [hT]; rfl, fun h => by rw [hal] at h; cases h⟩

theorem Qd {n m : Nat} (h1 : n < m) (h2 : m ≤ 1000000) : wrap64 ((n : Int) + 1) = ((n + 1 : Nat) : Int) := (IntWalk.wrap64_in _ om).trans om
theorem Sk {n m : Nat} (h1 : n < m) (h2 : m ≤ 1000000) : Value.int .i64 (wrap64 ((n : Int) + 1)) = Value.int .i64 ((n + 1 : Nat) : Int) := by rw [Qd h1 h2]
theorem measS {n m : Nat} (h1 : n < m) : m - (intOf (Value.int .i64 ((n + 1 : Nat) : Int))).toNat < m - (intOf (Value.int .i64 (n : Int))).toNat := by
 simp only [intOf]; omega
def ku (x : Rat) (l : List Rat) : Rat := l.foldl (fun a y => if iw (y.num * a.den - a.num * y.den) < 0 then y else a) x
def jg (x : Rat) (l : List Rat) : Rat := l.foldl (fun a y => if 0 < iw (y.num * a.den - a.num * y.den) then y else a) x
theorem Qm (x : Rat) (l : List Rat) (y : Rat) : ku x (l ++ [y]) = if iw (y.num * (ku x l).den - (ku x l).num * y.den) < 0 then y else ku x l := by
 unfold ku; rw [List.foldl_append]; rfl
theorem Fe (x : Rat) (l : List Rat) (y : Rat) : jg x (l ++ [y]) = if 0 < iw (y.num * (jg x l).den - (jg x l).num * y.den) then y else jg x l := by
 unfold jg; rw [List.foldl_append]; rfl
theorem Ol {K : Nat} : ∀ {l : List Rat} {x : Rat}, Sm K x → (∀ y ∈ l, Sm K y) → Sm K (ku x l)
 | [], _, h, _ => h
 | y :: l, x, h, hl => by
  refine Ol (l := l) ?_ (fun z hz => hl z (List.mem_cons_of_mem _ hz))
  show Sm K (if iw (y.num * x.den - x.num * y.den) < 0 then y else x)
  split
  ·
   exact hl y List.mem_cons_self
  ·
   exact h
theorem Jm {K : Nat} : ∀ {l : List Rat} {x : Rat}, Sm K x → (∀ y ∈ l, Sm K y) → Sm K (jg x l)
 | [], _, h, _ => h
 | y :: l, x, h, hl => by
  refine Jm (l := l) ?_ (fun z hz => hl z (List.mem_cons_of_mem _ hz))
  show Sm K (if 0 < iw (y.num * x.den - x.num * y.den) then y else x)
  split
  ·
   exact hl y List.mem_cons_self
  ·
   exact h
theorem ajw : ∀ (l : List Rat), lsize (l.map .q) = 6 * l.length
 | [] => rfl
 | x :: l => by rw [List.map_cons, lsize, ajw l, List.length_cons]; simp [Leaf.size]; omega
theorem Own.drop {w W : World} {e : za} {bs : List za} (h : Own w (e :: bs) W) : Own w bs W :=
 ⟨h.bel, (List.nodup_cons.1 h.nd).2, fun b T ls hm => h.box b T ls (List.mem_cons_of_mem _ hm)⟩
theorem ard {x : Rat} {qs : List Rat} {K : Nat} (sx : Sm K x) (sq : ∀ y ∈ qs, Sm K y) (hm : qs.length ≤ 1000000) (w : World) (u0 u1 : Value) (h0 : ai [.q x] w u0) (h1 : Qw 74 qs.length (qs.map .q) w u1) :
  Calls Tryz.prog 155 #[u0, u1] w (il (qa [ai [.q (ku x qs)], ai [.q (jg x qs)]]) w) := by
 obtain ⟨b0, rfl, hbx⟩ := h1
 have Pz := hide sx
 have HSQ := hide sq
 have HLEN := hide hm
 have HBX := hide hbx
 clear sx sq hbx hm
 obtain ⟨zz, uy, ru, c0a, rq, Bv, ym, vg, c0b, ve, rfl, f0a, Aw⟩ := Hu h0
 go_enter Tryz.func155, Tryz.ntmps155
 go_upto_region 1 with fail
 have hO := (Own.push (T := 74) (ls := zQ) (cs := [.int .i64 0, .bool false, .slice none 0 0, .int .i64 0, .bool false, .slice none 0 0]) (Own.push (T := 74) (ls := zQ) (cs := [.int .i64 0, .bool false, .slice none 0 0, .int .i64 0, .bool false, .slice none 0 0]) (Own.push (T := 74) (ls := [.q x]) (cs := [.int .i64 zz, .bool uy, .slice ru (List.length rq) c0a, .int .i64 Bv, .bool ym, .slice vg (List.length ve) c0b]) (Own.nil w) (gu.q f0a Aw rfl) (w.heap.size) rfl) (((gu.vs w [.int .i64 0, .bool false, .slice none 0 0, .int .i64 0, .bool false, .slice none 0 0] rfl) : gu w zQ [.int .i64 0, .bool false, .slice none 0 0, .int .i64 0, .bool false, .slice none 0 0]).below (by repeat (first | exact Below.refl _ _ | refine jc ?_ _))) (w.heap.size + 1) (by simp only [World.size_alloc])) (((gu.vs w [.int .i64 0, .bool false, .slice none 0 0, .int .i64 0, .bool false, .slice none 0 0] rfl) : gu w zQ [.int .i64 0, .bool false, .slice none 0 0, .int .i64 0, .bool false, .slice none 0 0]).below (by repeat (first | exact Below.refl _ _ | refine jc ?_ _))) (w.heap.size + 2) (by simp only [World.size_alloc]))
 generalize ((w.alloc (.cells #[.int .i64 zz, .bool uy, .slice ru (List.length rq) c0a, .int .i64 Bv, .bool ym, .slice vg (List.length ve) c0b] 74)).alloc (.cells #[.int .i64 0, .bool false, .slice none 0 0, .int .i64 0, .bool false, .slice none 0 0] 74)).alloc (.cells #[.int .i64 0, .bool false, .slice none 0 0, .int .i64 0, .bool false, .slice none 0 0] 74) = W0 at *
 have HO := hide hO
 clear hO
 go_upto_region 1 with fail
 refine Rg.region 4 31 (Rg.pick [ai [.q x], ai [.q x], Wo (w.heap.size + 1, 74, [.q x]), Wo (w.heap.size + 2, 74, [.q x])]) (GS w [(w.heap.size + 2, 74, zQ), (w.heap.size + 1, 74, zQ), (w.heap.size, 74, [.q x])] (w.heap.size + 1, 74, [.q x]) (w.heap.size + 2, 74, [.q x])) (ES (w.heap.size + 1, 74, [.q x]) (w.heap.size + 2, 74, [.q x])) [] kr kr rfl (Rg.fq.pick ⟨(tq _), (tq _), (Fq (.inl (by show (w.heap.size + 1 : Nat) ≠ w.heap.size + 2; omega)) (.inl rfl)), (Fq (.inl (by show (w.heap.size + 1 : Nat) ≠ w.heap.size + 2; omega)) (.inr rfl)), trivial⟩) (GS.start (aa HO))
  (Rg.ay (Rg.plain rfl (mq (xk (b := w.heap.size) (off := 0) (TB := 74) (pre := []) (mid := [.q x]) (post := []) lu rfl aF (fun W h => GS.get rf (fun h => absurd (show (w.heap.size + 1 : Nat) = w.heap.size from h) (by first | omega | (intro h; exact _root_.trivial h))) (fun h => absurd (show (w.heap.size + 2 : Nat) = w.heap.size from h) (by first | omega | (intro h; exact _root_.trivial h))) h) rfl rfl rfl)))
   (Rg.ay (Rg.plain rfl (mq (xk (b := w.heap.size) (off := 0) (TB := 74) (pre := []) (mid := [.q x]) (post := []) lu rfl aF (fun W h => GS.get rf (fun h => absurd (show (w.heap.size + 1 : Nat) = w.heap.size from h) (by first | omega | (intro h; exact _root_.trivial h))) (fun h => absurd (show (w.heap.size + 2 : Nat) = w.heap.size from h) (by first | omega | (intro h; exact _root_.trivial h))) h) rfl rfl rfl)))
   (Rg.ay (Rg.plain rfl (Fs (b := w.heap.size + 1) (old := zQ) (new := [.q x]) zb rfl aF (aT 0) ky (aa HO).nd (.inl rfl) (.inl (by show (w.heap.size + 1 : Nat) ≠ w.heap.size + 2; omega)) rfl rfl rfl))
   (Rg.ay (Rg.plain rfl (Fs (b := w.heap.size + 2) (old := zQ) (new := [.q x]) zb rfl aF (aT 1) me0 (aa HO).nd (.inr rfl) (.inl (by show (w.heap.size + 1 : Nat) ≠ w.heap.size + 2; omega)) rfl rfl rfl))
   Rg.bg)))) ?_
 intro v1 V1 hG1 hv1 hne1
 simp only [Rg.puts, Act.put, tA]
 have hO : Own w [(w.heap.size + 2, 74, [.q x]), (w.heap.size + 1, 74, [.q x]), (w.heap.size, 74, [.q x])] V1 := by
  refine ⟨hG1.bel, (aa HO).nd, fun b T ls hm => ?_⟩
  rcases List.mem_cons.1 hm with e | hm
  ·
   cases e; exact ⟨(hG1.box _ _ _ me0).1, hv1 3 (by decide)⟩
  rcases List.mem_cons.1 hm with e | hm
  ·
   cases e; exact ⟨(hG1.box _ _ _ ky).1, hv1 2 (by decide)⟩
  rcases List.mem_cons.1 hm with e | hm
  ·
   cases e; exact ⟨(hG1.box _ _ _ rf).1, GS.get rf (fun h => absurd (show (w.heap.size + 1 : Nat) = w.heap.size from h) (by first | omega | (intro h; exact _root_.trivial h))) (fun h => absurd (show (w.heap.size + 2 : Nat) = w.heap.size from h) (by first | omega | (intro h; exact _root_.trivial h))) hG1⟩
  cases hm
 clear HO
 have HO := hide hO
 clear hO hG1 hv1 hne1
 go_wp2_with fail
 go_loopw [12] (fun iv wr => ∃ q1 q2 : List Rat, qs = q1 ++ q2 ∧ iv = .int .i64 ((q1.length : Nat) : Int) ∧ Hid (Own w [(w.heap.size + 2, 74, [.q (jg x q1)]), (w.heap.size + 1, 74, [.q (ku x q1)]), (w.heap.size, 74, [.q x])] wr)) (fun iv _ => qs.length - (intOf iv).toNat)
 case atStart => exact ⟨[], qs, rfl, rfl, HO⟩
 case round =>
  obtain ⟨q1, q2, Dq, rfl, HO⟩ := hrel
  rcases q2 with _ | ⟨y, q2⟩
  ·
   have d1 : decide ((q1.length : Int) < (qs.length : Int)) = false := decide_eq_false (by rw [Dq]; simp)
   rw [List.append_nil] at Dq
   obtain rfl : q1 = qs := Dq.symm
   go_upto_region 3 with fail
   refine Rg.dz 1 31 (Rg.pick [Rg.ax (.bool false)]) (az w _ wr) gm [] kr rfl (Rg.fq.pick ⟨Rg.ae _, trivial⟩) (az.begin (aa HO))
    (ag (Aq rfl aF aF rfl d1)
    Rg.bg) ?_
   intro v2 V2 hG2 hv2 hne2
   simp only [Rg.puts, Act.put, tA]
   have e0 : v2 0 = .bool false := hv2 0 (by decide)
   simp only [e0]
   have hO := hG2.1
   clear HO
   have HO := hide hO
   clear hO hG2 hv2 hne2
   try clear e0
   go_upto_region 10 with fail
   refine Rg.region 4 31 (Rg.pick [ai [.q (ku x q1)], ai [.q (jg x q1)], Wo (w.heap.size + 1, 74, [.q (ku x q1)]), Wo (w.heap.size + 2, 74, [.q (jg x q1)])]) (GS w [(w.heap.size + 2, 74, [.q (jg x q1)]), (w.heap.size + 1, 74, [.q (ku x q1)]), (w.heap.size, 74, [.q x])] (w.heap.size + 1, 74, [.q (ku x q1)]) (w.heap.size + 2, 74, [.q (jg x q1)])) (ES (w.heap.size + 1, 74, [.q (ku x q1)]) (w.heap.size + 2, 74, [.q (jg x q1)])) [] kr kr rfl (Rg.fq.pick ⟨(tq _), (tq _), (Fq (.inl (by show (w.heap.size + 1 : Nat) ≠ w.heap.size + 2; omega)) (.inl rfl)), (Fq (.inl (by show (w.heap.size + 1 : Nat) ≠ w.heap.size + 2; omega)) (.inr rfl)), trivial⟩) (GS.start (aa HO))
    (Rg.ay (Rg.plain rfl (mq (xk (b := w.heap.size + 1) (off := 0) (TB := 74) (pre := []) (mid := [.q (ku x q1)]) (post := []) lu rfl aF (fun W h => GS.get ky (fun _ => rfl) (fun h => absurd (show (w.heap.size + 2 : Nat) = w.heap.size + 1 from h) (by first | omega | (intro h; exact _root_.trivial h))) h) rfl rfl rfl)))
     (Rg.ay (Rg.plain rfl (mq (xk (b := w.heap.size + 2) (off := 0) (TB := 74) (pre := []) (mid := [.q (jg x q1)]) (post := []) lu rfl aF (fun W h => GS.get me0 (fun h => absurd (show (w.heap.size + 1 : Nat) = w.heap.size + 2 from h) (by first | omega | (intro h; exact _root_.trivial h))) (fun _ => rfl) h) rfl rfl rfl)))
     (Rg.ay (Rg.plain rfl (Fs (b := w.heap.size + 1) (old := [.q (ku x q1)]) (new := [.q (ku x q1)]) zb rfl aF (aT 0) ky (aa HO).nd (.inl rfl) (.inl (by show (w.heap.size + 1 : Nat) ≠ w.heap.size + 2; omega)) rfl rfl rfl))
     (Rg.ay (Rg.plain rfl (Fs (b := w.heap.size + 2) (old := [.q (jg x q1)]) (new := [.q (jg x q1)]) zb rfl aF (aT 1) me0 (aa HO).nd (.inr rfl) (.inl (by show (w.heap.size + 1 : Nat) ≠ w.heap.size + 2; omega)) rfl rfl rfl))
     Rg.bg)))) ?_
   intro v3 V3 hG3 hv3 mf
   simp only [Rg.puts, Act.put, tA]
   have hO : Own w [(w.heap.size + 2, 74, [.q (jg x q1)]), (w.heap.size + 1, 74, [.q (ku x q1)]), (w.heap.size, 74, [.q x])] V3 := by
    refine ⟨hG3.bel, (aa HO).nd, fun b T ls hm => ?_⟩
    rcases List.mem_cons.1 hm with e | hm
    ·
     cases e; exact ⟨(hG3.box _ _ _ me0).1, hv3 3 (by decide)⟩
    rcases List.mem_cons.1 hm with e | hm
    ·
     cases e; exact ⟨(hG3.box _ _ _ ky).1, hv3 2 (by decide)⟩
    rcases List.mem_cons.1 hm with e | hm
    ·
     cases e; exact ⟨(hG3.box _ _ _ rf).1, GS.get rf (fun h => absurd (show (w.heap.size + 1 : Nat) = w.heap.size from h) (by first | omega | (intro h; exact _root_.trivial h))) (fun h => absurd (show (w.heap.size + 2 : Nat) = w.heap.size from h) (by first | omega | (intro h; exact _root_.trivial h))) hG3⟩
    cases hm
   clear HO
   have HO := hide hO
   clear hO hG3 hv3 mf
   go_wp2_with fail
   exact bdt Tryz.results155 Kw Kw rfl rfl (aa HO) ky me0 rfl rfl rfl
  ·
   have d1 : decide ((q1.length : Int) < (qs.length : Int)) = true := decide_eq_true (by rw [Dq]; simp; omega)
   have vo := hide (show q1.length < qs.length by rw [Dq]; simp)
   have Ip := hide Dq
   have HY := hide ((aa HSQ) y (by rw [Dq]; simp))
   have Lf := hide (fun z (hz : z ∈ q1) => (aa HSQ) z (by rw [Dq]; exact List.mem_append_left _ hz))
   have hB := (aa HBX)
   rw [Dq, List.map_append, List.map_cons] at hB
   have HB := hide hB
   clear hB Dq
   go_upto_region 3 with fail
   refine Rg.dz 1 31 (Rg.pick [Rg.ax (.bool true)]) (az w _ wr) gm [] kr rfl (Rg.fq.pick ⟨Rg.ae _, trivial⟩) (az.begin (aa HO))
    (ag (Aq rfl aF aF rfl d1)
    Rg.bg) ?_
   intro v2 V2 hG2 hv2 hne2
   simp only [Rg.puts, Act.put, tA]
   have e0 : v2 0 = .bool true := hv2 0 (by decide)
   simp only [e0]
   have hO := hG2.1
   clear HO
   have HO := hide hO
   clear hO hG2 hv2 hne2
   try clear e0
   clear d1
   go_upto_region 4 with fail
   refine Rg.dz 3 31 (Rg.pick [Rg.ax (.pointer (some ⟨b0, 6 * q1.length, none⟩)), ai [.q y], qf 74 zQ V2.heap.size]) (az w _ V2) gm [2] kr rfl (Rg.fq.pick ⟨Rg.ae _, au _, qh _ _ _, trivial⟩) (az.begin (aa HO))
    (ag (bbd (i := q1.length) (m := qs.length) rfl aF aF (aa vo) rfl)
    (ag (xk (b := b0) (off := 6 * q1.length) (TB := 74) (pre := q1.map .q) (mid := [.q y]) (post := q2.map .q) lu rfl (aT 0) (fun W h => (aa HB).below h.1.bel) (ajw q1) rfl rfl)
    (ag (si Tg rfl az.step az.size rfl (uw (by intro j hj; simp at hj; (repeat' (first | (rcases hj with rfl | hj))) <;> first | (subst hj; exact ⟨_, _, _, rfl⟩) | exact ⟨_, _, _, rfl⟩)))
    Rg.bg))) ?_
   intro v3 V3 hG3 hv3 mf
   simp only [Rg.puts, Act.put, tA]
   obtain ⟨bqs, e2, Vu, hz2⟩ := (show qf 74 zQ V2.heap.size V3 (v3 2) from hv3 2 (by decide))
   simp only [e2]
   have hO := hG3.1
   replace hO := Own.add (aa HO) hG3.2 Vu hz2
   clear Vu hz2
   refine jd hO 0 [] zQ [.q y] [] rfl zb rfl (show ai [.q y] V3 (v3 1) from hv3 1 (by decide)) rfl rfl rfl ?_
   intro Da gy hk0
   replace hO := gy
   clear gy
   clear HO
   have HO := hide hO
   clear hO hG3 hv3 mf hk0
   try clear e2
   by_cases g1 : iw (y.num * (ku x q1).den - (ku x q1).num * y.den) < 0
   ·
    have d2 : decide (iw (y.num * (ku x q1).den - (ku x q1).num * y.den) < 0) = true := decide_eq_true g1
    have hm : ku x (q1 ++ [y]) = y := by rw [Qm, if_pos g1]
    have HM := hide hm
    clear g1 hm
    go_upto_region 5 with fail
    refine Rg.dz 5 31 (Rg.pick [ai [.q y], IfT 74 [.q y], ai [.q (ku x q1)], Rg.ax (.int .i64 (iw (y.num * (ku x q1).den - (ku x q1).num * y.den))), Rg.ax (.bool true)]) (az w _ Da) gm [] kr rfl (Rg.fq.pick ⟨au _, Og _ _, au _, Rg.ae _, Rg.ae _, trivial⟩) (az.begin (aa HO))
     (ag (fw lu me0 aF [] [.q y] [])
     (ag (Oh rfl (aT 0) rfl)
     (ag (fw lu rf aF [] [.q (ku x q1)] [])
     (ag (Kq rfl az.step (aT 1) (aT 2) (fun W v0 v1 hG h0 h1 => Hr (aa HY) (Ol (aa Pz) (aa Lf)) h0 h1))
     (ag (Aq rfl (aT 3) (Rg.je _) rfl d2)
     Rg.bg))))) ?_
    intro v4 V4 hG4 hv4 ry
    simp only [Rg.puts, Act.put, tA]
    have e4 : v4 4 = .bool true := hv4 4 (by decide)
    simp only [e4]
    have hO := hG4.1
    clear HO
    have HO := hide hO
    clear hO hG4 hv4 ry
    try clear e4
    clear d2
    go_upto_region 6 with fail
    refine Rg.dz 1 31 (Rg.pick [ai [.q y]]) (az w _ V4) gm [] kr rfl (Rg.fq.pick ⟨au _, trivial⟩) (az.begin (aa HO))
     (ag (fw lu me0 aF [] [.q y] [])
     Rg.bg) ?_
    intro v5 V5 xq hv5 hne5
    simp only [Rg.puts, Act.put, tA]
    have hO := xq.1
    refine jd hO 2 [] [.q (ku x q1)] [.q y] [] rfl zb rfl (show ai [.q y] V5 (v5 0) from hv5 0 (by decide)) rfl rfl rfl ?_
    intro Ld gy hk0
    replace hO := gy
    clear gy
    clear HO
    have HO := hide hO
    clear hO xq hv5 hne5 hk0
    by_cases g3 : 0 < iw (y.num * (jg x q1).den - (jg x q1).num * y.den)
    ·
     have d3 : decide (0 < iw (y.num * (jg x q1).den - (jg x q1).num * y.den)) = true := decide_eq_true g3
     have hx : jg x (q1 ++ [y]) = y := by rw [Fe, if_pos g3]
     have HX := hide hx
     clear g3 hx
     go_upto_region 7 with fail
     refine Rg.dz 5 31 (Rg.pick [ai [.q y], IfT 74 [.q y], ai [.q (jg x q1)], Rg.ax (.int .i64 (iw (y.num * (jg x q1).den - (jg x q1).num * y.den))), Rg.ax (.bool true)]) (az w _ Ld) gm [] kr rfl (Rg.fq.pick ⟨au _, Og _ _, au _, Rg.ae _, Rg.ae _, trivial⟩) (az.begin (aa HO))
      (ag (fw lu me0 aF [] [.q y] [])
      (ag (Oh rfl (aT 0) rfl)
      (ag (fw lu ky aF [] [.q (jg x q1)] [])
      (ag (Kq rfl az.step (aT 1) (aT 2) (fun W v0 v1 hG h0 h1 => Hr (aa HY) (Jm (aa Pz) (aa Lf)) h0 h1))
      (ag (Bj rfl (aT 3) (Rg.je _) rfl d3)
      Rg.bg))))) ?_
     intro v6 V6 Fh hv6 Gv
     simp only [Rg.puts, Act.put, tA]
     have e4 : v6 4 = .bool true := hv6 4 (by decide)
     simp only [e4]
     have hO := Fh.1
     clear HO
     have HO := hide hO
     clear hO Fh hv6 Gv
     try clear e4
     clear d3
     go_upto_region 8 with fail
     refine Rg.dz 1 31 (Rg.pick [ai [.q y]]) (az w _ V6) gm [] kr rfl (Rg.fq.pick ⟨au _, trivial⟩) (az.begin (aa HO))
      (ag (fw lu me0 aF [] [.q y] [])
      Rg.bg) ?_
     intro v7 V7 hG7 hv7 ags
     simp only [Rg.puts, Act.put, tA]
     have hO := hG7.1
     refine jd hO 1 [] [.q (jg x q1)] [.q y] [] rfl zb rfl (show ai [.q y] V7 (v7 0) from hv7 0 (by decide)) rfl rfl rfl ?_
     intro beu gy hk0
     replace hO := gy
     clear gy
     clear HO
     have HO := hide hO
     clear hO hG7 hv7 ags hk0
     go_wp2_with fail
     go_roundw
     case rel =>
      refine ⟨q1 ++ [y], q2, by rw [aa Ip]; simp, by have h1 := aa vo; have h2 := aa HLEN; rw [List.length_append, List.length_singleton]; exact Sk h1 h2, hide ?_⟩
      rw [aa HM, aa HX]
      exact (aa HO).drop
     case measure =>
      have h1 := aa vo; have h2 := aa HLEN
      clear HO Ip HB
      rw [Qd h1 h2]
      exact measS h1
    ·
     have d3 : decide (0 < iw (y.num * (jg x q1).den - (jg x q1).num * y.den)) = false := decide_eq_false g3
     have hx : jg x (q1 ++ [y]) = jg x q1 := by rw [Fe, if_neg g3]
     have HX := hide hx
     clear g3 hx
     go_upto_region 7 with fail
     refine Rg.dz 5 31 (Rg.pick [ai [.q y], IfT 74 [.q y], ai [.q (jg x q1)], Rg.ax (.int .i64 (iw (y.num * (jg x q1).den - (jg x q1).num * y.den))), Rg.ax (.bool false)]) (az w _ Ld) gm [] kr rfl (Rg.fq.pick ⟨au _, Og _ _, au _, Rg.ae _, Rg.ae _, trivial⟩) (az.begin (aa HO))
      (ag (fw lu me0 aF [] [.q y] [])
      (ag (Oh rfl (aT 0) rfl)
      (ag (fw lu ky aF [] [.q (jg x q1)] [])
      (ag (Kq rfl az.step (aT 1) (aT 2) (fun W v0 v1 hG h0 h1 => Hr (aa HY) (Jm (aa Pz) (aa Lf)) h0 h1))
      (ag (Bj rfl (aT 3) (Rg.je _) rfl d3)
      Rg.bg))))) ?_
     intro v6 V6 Fh hv6 Gv
     simp only [Rg.puts, Act.put, tA]
     have e4 : v6 4 = .bool false := hv6 4 (by decide)
     simp only [e4]
     have hO := Fh.1
     clear HO
     have HO := hide hO
     clear hO Fh hv6 Gv
     try clear e4
     clear d3
     go_wp2_with fail
     go_roundw
     case rel =>
      refine ⟨q1 ++ [y], q2, by rw [aa Ip]; simp, by have h1 := aa vo; have h2 := aa HLEN; rw [List.length_append, List.length_singleton]; exact Sk h1 h2, hide ?_⟩
      rw [aa HM, aa HX]
      exact (aa HO).drop
     case measure =>
      have h1 := aa vo; have h2 := aa HLEN
      clear HO Ip HB
      rw [Qd h1 h2]
      exact measS h1
   ·
    have d2 : decide (iw (y.num * (ku x q1).den - (ku x q1).num * y.den) < 0) = false := decide_eq_false g1
    have hm : ku x (q1 ++ [y]) = ku x q1 := by rw [Qm, if_neg g1]
    have HM := hide hm
    clear g1 hm
    go_upto_region 5 with fail
    refine Rg.dz 5 31 (Rg.pick [ai [.q y], IfT 74 [.q y], ai [.q (ku x q1)], Rg.ax (.int .i64 (iw (y.num * (ku x q1).den - (ku x q1).num * y.den))), Rg.ax (.bool false)]) (az w _ Da) gm [] kr rfl (Rg.fq.pick ⟨au _, Og _ _, au _, Rg.ae _, Rg.ae _, trivial⟩) (az.begin (aa HO))
     (ag (fw lu me0 aF [] [.q y] [])
     (ag (Oh rfl (aT 0) rfl)
     (ag (fw lu rf aF [] [.q (ku x q1)] [])
     (ag (Kq rfl az.step (aT 1) (aT 2) (fun W v0 v1 hG h0 h1 => Hr (aa HY) (Ol (aa Pz) (aa Lf)) h0 h1))
     (ag (Aq rfl (aT 3) (Rg.je _) rfl d2)
     Rg.bg))))) ?_
    intro v4 V4 hG4 hv4 ry
    simp only [Rg.puts, Act.put, tA]
    have e4 : v4 4 = .bool false := hv4 4 (by decide)
    simp only [e4]
    have hO := hG4.1
    clear HO
    have HO := hide hO
    clear hO hG4 hv4 ry
    try clear e4
    clear d2
    by_cases g3 : 0 < iw (y.num * (jg x q1).den - (jg x q1).num * y.den)
    ·
     have d3 : decide (0 < iw (y.num * (jg x q1).den - (jg x q1).num * y.den)) = true := decide_eq_true g3
     have hx : jg x (q1 ++ [y]) = y := by rw [Fe, if_pos g3]
     have HX := hide hx
     clear g3 hx
     go_upto_region 7 with fail
     refine Rg.dz 5 31 (Rg.pick [ai [.q y], IfT 74 [.q y], ai [.q (jg x q1)], Rg.ax (.int .i64 (iw (y.num * (jg x q1).den - (jg x q1).num * y.den))), Rg.ax (.bool true)]) (az w _ V4) gm [] kr rfl (Rg.fq.pick ⟨au _, Og _ _, au _, Rg.ae _, Rg.ae _, trivial⟩) (az.begin (aa HO))
      (ag (fw lu me0 aF [] [.q y] [])
      (ag (Oh rfl (aT 0) rfl)
      (ag (fw lu ky aF [] [.q (jg x q1)] [])
      (ag (Kq rfl az.step (aT 1) (aT 2) (fun W v0 v1 hG h0 h1 => Hr (aa HY) (Jm (aa Pz) (aa Lf)) h0 h1))
      (ag (Bj rfl (aT 3) (Rg.je _) rfl d3)
      Rg.bg))))) ?_
     intro v5 V5 xq hv5 hne5
     simp only [Rg.puts, Act.put, tA]
     have e4 : v5 4 = .bool true := hv5 4 (by decide)
     simp only [e4]
     have hO := xq.1
     clear HO
     have HO := hide hO
     clear hO xq hv5 hne5
     try clear e4
     clear d3
     go_upto_region 8 with fail
     refine Rg.dz 1 31 (Rg.pick [ai [.q y]]) (az w _ V5) gm [] kr rfl (Rg.fq.pick ⟨au _, trivial⟩) (az.begin (aa HO))
      (ag (fw lu me0 aF [] [.q y] [])
      Rg.bg) ?_
     intro v6 V6 Fh hv6 Gv
     simp only [Rg.puts, Act.put, tA]
     have hO := Fh.1
     refine jd hO 1 [] [.q (jg x q1)] [.q y] [] rfl zb rfl (show ai [.q y] V6 (v6 0) from hv6 0 (by decide)) rfl rfl rfl ?_
     intro avz gy hk0
     replace hO := gy
     clear gy
     clear HO
     have HO := hide hO
     clear hO Fh hv6 Gv hk0
     go_wp2_with fail
     go_roundw
     case rel =>
      refine ⟨q1 ++ [y], q2, by rw [aa Ip]; simp, by have h1 := aa vo; have h2 := aa HLEN; rw [List.length_append, List.length_singleton]; exact Sk h1 h2, hide ?_⟩
      rw [aa HM, aa HX]
      exact (aa HO).drop
     case measure =>
      have h1 := aa vo; have h2 := aa HLEN
      clear HO Ip HB
      rw [Qd h1 h2]
      exact measS h1
    ·
     have d3 : decide (0 < iw (y.num * (jg x q1).den - (jg x q1).num * y.den)) = false := decide_eq_false g3
     have hx : jg x (q1 ++ [y]) = jg x q1 := by rw [Fe, if_neg g3]
     have HX := hide hx
     clear g3 hx
     go_upto_region 7 with fail
     refine Rg.dz 5 31 (Rg.pick [ai [.q y], IfT 74 [.q y], ai [.q (jg x q1)], Rg.ax (.int .i64 (iw (y.num * (jg x q1).den - (jg x q1).num * y.den))), Rg.ax (.bool false)]) (az w _ V4) gm [] kr rfl (Rg.fq.pick ⟨au _, Og _ _, au _, Rg.ae _, Rg.ae _, trivial⟩) (az.begin (aa HO))
      (ag (fw lu me0 aF [] [.q y] [])
      (ag (Oh rfl (aT 0) rfl)
      (ag (fw lu ky aF [] [.q (jg x q1)] [])
      (ag (Kq rfl az.step (aT 1) (aT 2) (fun W v0 v1 hG h0 h1 => Hr (aa HY) (Jm (aa Pz) (aa Lf)) h0 h1))
      (ag (Bj rfl (aT 3) (Rg.je _) rfl d3)
      Rg.bg))))) ?_
     intro v5 V5 xq hv5 hne5
     simp only [Rg.puts, Act.put, tA]
     have e4 : v5 4 = .bool false := hv5 4 (by decide)
     simp only [e4]
     have hO := xq.1
     clear HO
     have HO := hide hO
     clear hO xq hv5 hne5
     try clear e4
     clear d3
     go_wp2_with fail
     go_roundw
     case rel =>
      refine ⟨q1 ++ [y], q2, by rw [aa Ip]; simp, by have h1 := aa vo; have h2 := aa HLEN; rw [List.length_append, List.length_singleton]; exact Sk h1 h2, hide ?_⟩
      rw [aa HM, aa HX]
      exact (aa HO).drop
     case measure =>
      have h1 := aa vo; have h2 := aa HLEN
      clear HO Ip HB
      rw [Qd h1 h2]
      exact measS h1
end Sb

end Go.Proofs.YtjdnmdlnaoedoaaGreatDoor
namespace Go.Proofs.YtjdnmdlnaoedoaaGreatDoor
open Go.RowKit

namespace Sb
theorem own_ne {w W : World} {bs : List za} (h : Own w bs W) (i j : Nat) {a b : Nat} (hi : (bs.map Prod.fst)[i]? = some a) (hj : (bs.map Prod.fst)[j]? = some b) (hij : i < j) : a ≠ b := fun e => by
 obtain ⟨hi', ei⟩ := List.getElem?_eq_some_iff.1 hi
 obtain ⟨hj', ej⟩ := List.getElem?_eq_some_iff.1 hj
 have := (List.nodup_iff_pairwise_ne.1 h.nd)
 exact (List.pairwise_iff_getElem.1 this i j hi' hj' hij) (by rw [ei, ej, e])
theorem Zi {x : Rat} {qs : List Rat} {K : Nat} (sx : Sm K x) (sq : ∀ y ∈ qs, Sm K y) (hm : qs.length ≤ 1000000) (w : World) (u0 u1 : Value) (h0 : ai [.q x] w u0) (h1 : Qw 74 qs.length (qs.map .q) w u1) :
  Calls Tryz.prog 107 #[u0, u1] w (il (ai [.q (ku x qs), .q (jg x qs)]) w) := by
 obtain ⟨b0, rfl, hbx⟩ := h1
 have Pz := hide sx
 have HSQ := hide sq
 have HLEN := hide hm
 have HBX := hide hbx
 clear sx sq hbx hm
 obtain ⟨zz, uy, ru, c0a, rq, Bv, ym, vg, c0b, ve, rfl, f0a, Aw⟩ := Hu h0
 go_enter Tryz.func107, Tryz.ntmps107
 go_upto_region 1 with fail
 have hO := (Own.push (T := 108) (ls := zE) (cs := [.int .i64 0, .bool false, .slice none 0 0, .int .i64 0, .bool false, .slice none 0 0, .int .i64 0, .bool false, .slice none 0 0, .int .i64 0, .bool false, .slice none 0 0]) (Own.push (T := 74) (ls := [.q x]) (cs := [.int .i64 zz, .bool uy, .slice ru (List.length rq) c0a, .int .i64 Bv, .bool ym, .slice vg (List.length ve) c0b]) (Own.nil w) (gu.q f0a Aw rfl) (w.heap.size) rfl) (((gu.vs w [.int .i64 0, .bool false, .slice none 0 0, .int .i64 0, .bool false, .slice none 0 0, .int .i64 0, .bool false, .slice none 0 0, .int .i64 0, .bool false, .slice none 0 0] rfl) : gu w zE [.int .i64 0, .bool false, .slice none 0 0, .int .i64 0, .bool false, .slice none 0 0, .int .i64 0, .bool false, .slice none 0 0, .int .i64 0, .bool false, .slice none 0 0]).below (by repeat (first | exact Below.refl _ _ | refine jc ?_ _))) (w.heap.size + 1) (by simp only [World.size_alloc]))
 generalize (w.alloc (.cells #[.int .i64 zz, .bool uy, .slice ru (List.length rq) c0a, .int .i64 Bv, .bool ym, .slice vg (List.length ve) c0b] 74)).alloc (.cells #[.int .i64 0, .bool false, .slice none 0 0, .int .i64 0, .bool false, .slice none 0 0, .int .i64 0, .bool false, .slice none 0 0, .int .i64 0, .bool false, .slice none 0 0] 108) = W0 at *
 have HO := hide hO
 clear hO
 go_upto_region 1 with fail
 refine Rg.dz 8 16 (Rg.pick [ai [.q x], Rg.ax (.slice (some ⟨b0, 0, none⟩) qs.length qs.length), qa [ai [.q (ku x qs)], ai [.q (jg x qs)]], qa [ai [.q (ku x qs)], ai [.q (jg x qs)]], ai [.q (ku x qs)], ai [.q (jg x qs)], qf 74 zQ W0.heap.size, qf 74 zQ W0.heap.size]) (az w _ W0) gm [6, 7] kr rfl (Rg.fq.pick ⟨au _, Rg.ae _, ko ⟨(au _), (au _), trivial⟩, ko ⟨(au _), (au _), trivial⟩, au _, au _, qh _ _ _, qh _ _ _, trivial⟩) (az.begin (aa HO))
  (ag (fw lu ky aF [] [.q x] [])
  (ag (dm rfl aF)
  (ag (sc2 Tryz.func155 (aT 0) (aT 1) (fun W v0 v1 hG h0 h1 => ard (aa Pz) (aa HSQ) (aa HLEN) W _ _ h0 (by cases h1; exact ⟨b0, rfl, (aa HBX).below hG.1.bel⟩)))
  (ag (dm rfl (aT 2))
  (ag (ma (ts := [ai [.q (ku x qs)], ai [.q (jg x qs)]]) rfl (aT 3) (of_decide_eq_true rfl) rfl)
  (ag (ma (ts := [ai [.q (ku x qs)], ai [.q (jg x qs)]]) rfl (aT 3) (of_decide_eq_true rfl) rfl)
  (ag (si Tg rfl az.step az.size rfl (uw (by intro j hj; simp at hj; (repeat' (first | (rcases hj with rfl | hj))) <;> first | (subst hj; exact ⟨_, _, _, rfl⟩) | exact ⟨_, _, _, rfl⟩)))
  (ag (si Tg rfl az.step az.size rfl (uw (by intro j hj; simp at hj; (repeat' (first | (rcases hj with rfl | hj))) <;> first | (subst hj; exact ⟨_, _, _, rfl⟩) | exact ⟨_, _, _, rfl⟩)))
  Rg.bg)))))))) ?_
 intro v1 V1 hG1 hv1 hne1
 simp only [Rg.puts, Act.put, tA]
 obtain ⟨Zj, e6, xg, Ar⟩ := (show qf 74 zQ W0.heap.size V1 (v1 6) from hv1 6 (by decide))
 obtain ⟨Cz, e7, Kc, Qo⟩ := (show qf 74 zQ W0.heap.size V1 (v1 7) from hv1 7 (by decide))
 simp only [e6, e7]
 have hO := hG1.1
 have hnn : Cz ≠ Zj := fun h => hne1 7 6 rfl rfl (by decide) (by decide) (by decide) rfl rfl (by rw [e6, e7, h])
 replace hO := Own.Wn (aa HO) hG1.2 xg Ar Kc Qo hnn
 clear hnn xg Ar Kc Qo
 refine jd hO 1 [] zQ [.q (ku x qs)] [] rfl zb rfl (show ai [.q (ku x qs)] V1 (v1 4) from hv1 4 (by decide)) rfl rfl rfl ?_
 intro uo gy hk0
 replace hO := gy
 clear gy
 refine jd hO 0 [] zQ [.q (jg x qs)] [] rfl zb rfl (hk0 _ _ (show ai [.q (jg x qs)] V1 (v1 5) from hv1 5 (by decide))) rfl rfl rfl ?_
 intro awc Gw hk1
 replace hO := Gw
 clear Gw
 clear HO
 have HO := hide hO
 clear hO hG1 hv1 hne1 hk0 hk1
 try clear e6 e7
 go_upto_region 2 with fail
 refine Rg.dz 3 16 (Rg.pick [ai [.q (ku x qs)], ai [.q (jg x qs)], ai [.q (ku x qs), .q (jg x qs)]]) (az w _ awc) gm [] kr rfl (Rg.fq.pick ⟨au _, au _, au _, trivial⟩) (az.begin (aa HO))
  (ag (fw lu ky aF [] [.q (ku x qs)] [])
  (ag (fw lu me0 aF [] [.q (jg x qs)] [])
  (ag (xx akf rfl (aT 0) (aT 1) rfl rfl rfl)
  Rg.bg))) ?_
 intro v2 V2 hG2 hv2 hne2
 simp only [Rg.puts, Act.put, tA]
 have hO := hG2.1
 refine jd hO 2 [] zE [.q (ku x qs), .q (jg x qs)] [] rfl Oe rfl (show ai [.q (ku x qs), .q (jg x qs)] V2 (v2 2) from hv2 2 (by decide)) rfl rfl rfl ?_
 intro yg gy hk0
 replace hO := gy
 clear gy
 clear HO
 have HO := hide hO
 clear hO hG2 hv2 hne2 hk0
 go_wp2_with fail
 exact xu Tryz.results107 Om rfl (aa HO) rf rfl rfl
theorem aev {x y a b : Rat} {K : Nat} (sx : Sm K x) (sy : Sm K y) (sa : Sm K a) (sb : Sm K b) (hK : K + K ≤ 1000000) (w : World) (hT : qy w) : Sm (K + K) (x * a) ∧ ∀ z ∈ [x * b, y * a, y * b], Sm (K + K) z := by
 refine ⟨sx.mul sa hK w hT, fun z hz => ?_⟩
 simp only [List.mem_cons, List.not_mem_nil, or_false] at hz
 rcases hz with rfl | rfl | rfl
 ·
  exact sx.mul sb hK w hT
 ·
  exact sy.mul sa hK w hT
 ·
  exact sy.mul sb hK w hT
theorem azu {x y a b : Rat} {K : Nat} (sx : Sm K x) (sy : Sm K y) (sa : Sm K a) (sb : Sm K b) (hK : K + K ≤ 1000000) (w : World) (hT : qy w) (u0 : Value) (h0 : ai [.q x, .q y] w u0) (u1 : Value) (h1 : ai [.q a, .q b] w u1) :
  Calls Tryz.prog 151 #[u0, u1] w (il (ai [.q (ku (x * a) [x * b, y * a, y * b]), .q (jg (x * a) [x * b, y * a, y * b])]) w) := by
 have HS := hide (And.intro sx (And.intro sy (And.intro sa (And.intro sb hK))))
 have HP := hide (aev sx sy sa sb hK w hT)
 have HT := hide hT
 clear sx sy sa sb hK hT
 obtain ⟨zz, uy, ru, c0a, rq, Bv, ym, vg, c0b, ve, Lp, Lv, Nb, Mq, Me, Lm, Lu, Na, Mo, Md, rfl, f0a, Aw, Vz, Vy⟩ := Px h0
 obtain ⟨Cq, Dn, wu, c1a, wm, Eu, n1b, zt, zq, zo, s1c, n1c, A1c, c1c, l1c, s1d, n1d, A1d, c1d, l1d, rfl, f1a, Ps, f1c, f1d⟩ := Px h1
 go_enter Tryz.func151, Tryz.ntmps151
 go_upto_region 1 with fail
 have hO := (Own.push (T := 108) (ls := zE) (cs := [.int .i64 0, .bool false, .slice none 0 0, .int .i64 0, .bool false, .slice none 0 0, .int .i64 0, .bool false, .slice none 0 0, .int .i64 0, .bool false, .slice none 0 0]) (Own.push (T := 108) (ls := [.q a, .q b]) (cs := [.int .i64 Cq, .bool Dn, .slice wu (List.length wm) c1a, .int .i64 Eu, .bool n1b, .slice zt (List.length zo) zq, .int .i64 s1c, .bool n1c, .slice A1c (List.length l1c) c1c, .int .i64 s1d, .bool n1d, .slice A1d (List.length l1d) c1d]) (Own.push (T := 108) (ls := [.q x, .q y]) (cs := [.int .i64 zz, .bool uy, .slice ru (List.length rq) c0a, .int .i64 Bv, .bool ym, .slice vg (List.length ve) c0b, .int .i64 Lp, .bool Lv, .slice Nb (List.length Me) Mq, .int .i64 Lm, .bool Lu, .slice Na (List.length Md) Mo]) (Own.nil w) (gu.q f0a Aw (gu.q Vz Vy rfl)) (w.heap.size) rfl) (((gu.q f1a Ps (gu.q f1c f1d rfl)) : gu w [.q a, .q b] [.int .i64 Cq, .bool Dn, .slice wu (List.length wm) c1a, .int .i64 Eu, .bool n1b, .slice zt (List.length zo) zq, .int .i64 s1c, .bool n1c, .slice A1c (List.length l1c) c1c, .int .i64 s1d, .bool n1d, .slice A1d (List.length l1d) c1d]).below (by repeat (first | exact Below.refl _ _ | refine jc ?_ _))) (w.heap.size + 1) (by simp only [World.size_alloc])) (((gu.vs w [.int .i64 0, .bool false, .slice none 0 0, .int .i64 0, .bool false, .slice none 0 0, .int .i64 0, .bool false, .slice none 0 0, .int .i64 0, .bool false, .slice none 0 0] rfl) : gu w zE [.int .i64 0, .bool false, .slice none 0 0, .int .i64 0, .bool false, .slice none 0 0, .int .i64 0, .bool false, .slice none 0 0, .int .i64 0, .bool false, .slice none 0 0]).below (by repeat (first | exact Below.refl _ _ | refine jc ?_ _))) (w.heap.size + 2) (by simp only [World.size_alloc]))
 generalize ((w.alloc (.cells #[.int .i64 zz, .bool uy, .slice ru (List.length rq) c0a, .int .i64 Bv, .bool ym, .slice vg (List.length ve) c0b, .int .i64 Lp, .bool Lv, .slice Nb (List.length Me) Mq, .int .i64 Lm, .bool Lu, .slice Na (List.length Md) Mo] 108)).alloc (.cells #[.int .i64 Cq, .bool Dn, .slice wu (List.length wm) c1a, .int .i64 Eu, .bool n1b, .slice zt (List.length zo) zq, .int .i64 s1c, .bool n1c, .slice A1c (List.length l1c) c1c, .int .i64 s1d, .bool n1d, .slice A1d (List.length l1d) c1d] 108)).alloc (.cells #[.int .i64 0, .bool false, .slice none 0 0, .int .i64 0, .bool false, .slice none 0 0, .int .i64 0, .bool false, .slice none 0 0, .int .i64 0, .bool false, .slice none 0 0] 108) = W0 at *
 have HO := hide hO
 clear hO
 go_upto_region 1 with fail
 refine Rg.region 22 27 (Rg.pick [Rg.ax (.pointer (some ⟨w.heap.size, 0, none⟩)), ai [.q x], Rg.ax (.pointer (some ⟨w.heap.size + 1, 0, none⟩)), ai [.q a], ai [.q (x * a)], Rg.ax (.pointer (some ⟨w.heap.size, 0, none⟩)), ai [.q x], Rg.ax (.pointer (some ⟨w.heap.size + 1, 6, none⟩)), ai [.q b], ai [.q (x * b)], Rg.ax (.pointer (some ⟨w.heap.size, 6, none⟩)), ai [.q y], Rg.ax (.pointer (some ⟨w.heap.size + 1, 0, none⟩)), ai [.q a], ai [.q (y * a)], Rg.ax (.pointer (some ⟨w.heap.size, 6, none⟩)), ai [.q y], Rg.ax (.pointer (some ⟨w.heap.size + 1, 6, none⟩)), ai [.q b], ai [.q (y * b)], Qw 74 3 [.q (x * b), .q (y * a), .q (y * b)], ai [.q (ku (x * a) [x * b, y * a, y * b]), .q (jg (x * a) [x * b, y * a, y * b])]]) (az w _ W0) gm [] kr kr rfl (Rg.fq.pick ⟨Rg.ae _, au _, Rg.ae _, au _, au _, Rg.ae _, au _, Rg.ae _, au _, au _, Rg.ae _, au _, Rg.ae _, au _, au _, Rg.ae _, au _, Rg.ae _, au _, au _, Jj _ _ _, au _, trivial⟩) (az.start (aa HO))
  (ag (Bu (b := w.heap.size) (off := 0) rfl aF rfl rfl)
  (ag (fw lu rf (aT 0) [] [.q x] [.q y])
  (ag (Bu (b := w.heap.size + 1) (off := 0) rfl aF rfl rfl)
  (ag (fw lu ky (aT 2) [] [.q a] [.q b])
  (ag (sc2 Tryz.func111 (aT 1) (aT 3) (fun W v0 v1 hG h0 h1 => Qs ((aa HT).below hG.bel) (aa HS).1 (aa HS).2.2.1 h0 h1))
  (ag (Bu (b := w.heap.size) (off := 0) rfl aF rfl rfl)
  (ag (fw lu rf (aT 5) [] [.q x] [.q y])
  (ag (Co (b := w.heap.size + 1) (off := 0) rfl aF rfl rfl)
  (ag (fw lu ky (aT 7) [.q a] [.q b] [])
  (ag (sc2 Tryz.func111 (aT 6) (aT 8) (fun W v0 v1 hG h0 h1 => Qs ((aa HT).below hG.bel) (aa HS).1 (aa HS).2.2.2.1 h0 h1))
  (ag (Co (b := w.heap.size) (off := 0) rfl aF rfl rfl)
  (ag (fw lu rf (aT 10) [.q x] [.q y] [])
  (ag (Bu (b := w.heap.size + 1) (off := 0) rfl aF rfl rfl)
  (ag (fw lu ky (aT 12) [] [.q a] [.q b])
  (ag (sc2 Tryz.func111 (aT 11) (aT 13) (fun W v0 v1 hG h0 h1 => Qs ((aa HT).below hG.bel) (aa HS).2.1 (aa HS).2.2.1 h0 h1))
  (ag (Co (b := w.heap.size) (off := 0) rfl aF rfl rfl)
  (ag (fw lu rf (aT 15) [.q x] [.q y] [])
  (ag (Co (b := w.heap.size + 1) (off := 0) rfl aF rfl rfl)
  (ag (fw lu ky (aT 17) [.q a] [.q b] [])
  (ag (sc2 Tryz.func111 (aT 16) (aT 18) (fun W v0 v1 hG h0 h1 => Qs ((aa HT).below hG.bel) (aa HS).2.1 (aa HS).2.2.2.1 h0 h1))
  (ag (Ey (ps := [(0, .tmp 14), (1, .tmp 19), (2, .tmp 24)]) (gs := [[.q (x * b)], [.q (y * a)], [.q (y * b)]]) amy rfl az.step rfl (uq.cons (aT 9) rfl (uq.cons (aT 14) rfl (uq.cons (aT 19) rfl uq.nil))) rfl)
  (ag (sc2 Tryz.func107 (aT 4) (aT 20) (fun W v0 v1 hG h0 h1 => Zi (qs := [x * b, y * a, y * b]) (aa HP).1 (aa HP).2 (by simp) W _ _ h0 h1))
  Rg.bg)))))))))))))))))))))) ?_
 intro v1 V1 hG1 hv1 hne1
 simp only [Rg.puts, Act.put, tA]
 have hO := hG1.1
 refine jd hO 0 [] zE [.q (ku (x * a) [x * b, y * a, y * b]), .q (jg (x * a) [x * b, y * a, y * b])] [] rfl Oe rfl (show ai [.q (ku (x * a) [x * b, y * a, y * b]), .q (jg (x * a) [x * b, y * a, y * b])] V1 (v1 21) from hv1 21 (by decide)) rfl rfl rfl ?_
 intro uo gy hk0
 replace hO := gy
 clear gy
 clear HO
 have HO := hide hO
 clear hO hG1 hv1 hne1 hk0
 go_wp2_with fail
 exact xu Tryz.results151 Om rfl (aa HO) me0 rfl rfl
def xw (x : Rat) (g : Int) : Rat := Rat.divInt ((x * Rat.divInt g 1).num / ((x * Rat.divInt g 1).den : Int)) g
def Dj (y : Rat) (g : Int) : Rat := Rat.divInt (-((-(y * Rat.divInt g 1)).num / ((-(y * Rat.divInt g 1)).den : Int))) g
structure bls (x y : Rat) (g : Int) (K : Nat) : Prop where
 g1 : 1 ≤ g
 g2 : g ≤ 1000000
 g0 : g ≠ 0
 sx : Sm (K + 1) x
 sy : Sm (K + 1) y
 sg : Sm (K + 1) (Rat.divInt g 1)
 sxg : Sm (K + 1 + K + 1) (x * Rat.divInt g 1)
 syg : Sm (K + 1 + K + 1) (-(y * Rat.divInt g 1))
 zx : Wd.Sz fo (K + 1 + (K + 1)) ((x * Rat.divInt g 1).num / ((x * Rat.divInt g 1).den : Int))
 zy : Wd.Sz fo (K + 1 + (K + 1)) (-((-(y * Rat.divInt g 1)).num / ((-(y * Rat.divInt g 1)).den : Int)))
 zg : Wd.Sz fo (K + 1 + (K + 1)) g
 hK : K + 1 + (K + 1) ≤ 1000000
theorem ajj {K : Nat} {a : Int} (h : Wd.Sz fo K a) (b : Int) : Wd.Sz fo K (a / b) := h.le (Int.natAbs_ediv_le_natAbs a b)
theorem Rh {g : Int} (g1 : -1000000000000 ≤ g) (g2 : g ≤ 1000000000000) : Sm 1 (Rat.divInt g 1) := ⟨⟨by rw [(Wd.Bw g).1]; exact Wd.Sz.of_le (by rw [ic]; omega) qj (Nat.le_refl _), by rw [(Wd.Bw g).2]; exact Wd.Sz.of_le (by rw [ic]; omega) qj (Nat.le_refl _)⟩, by omega⟩
theorem bju {x y : Rat} {g : Int} {K : Nat} (sx : Sm (K + 1) x) (sy : Sm (K + 1) y) (g1 : 1 ≤ g) (g2 : g ≤ 1000000) (hK : K + 1 + (K + 1) ≤ 1000000) (w : World) (hT : qy w) : bls x y g K := by
 have sg : Sm (K + 1) (Rat.divInt g 1) := (Rh om om).mono om om
 have s1 := sx.mul sg hK w hT
 have s2 := (sy.mul sg hK w hT).neg
 exact ⟨g1, g2, by omega, sx, sy, sg, s1, s2, ajj s1.1.1 _, (ajj s2.1.1 _).neg, (Wd.Sz.of_le (by rw [ic]; omega) qj om), hK⟩
theorem Wj {x y : Rat} {g : Int} {K : Nat} (sx : Sm (K + 1) x) (sy : Sm (K + 1) y) (g1 : 1 ≤ g) (g2 : g ≤ 1000000) (hK : K + 1 + (K + 1) ≤ 1000000) (w : World) (hT : qy w) (u0 : Value) (h0 : ai [.q x, .q y] w u0) :
  Calls Tryz.prog 96 #[u0, .int .i64 g] w (il (ai [.q (xw x g), .q (Dj y g)]) w) := by
 have HR := hide (bju sx sy g1 g2 hK w hT)
 have HT := hide hT
 clear sx sy g1 g2 hK hT
 obtain ⟨zz, uy, ru, c0a, rq, Bv, ym, vg, c0b, ve, Lp, Lv, Nb, Mq, Me, Lm, Lu, Na, Mo, Md, rfl, f0a, Aw, Vz, Vy⟩ := Px h0
 go_enter Tryz.func96, Tryz.ntmps96
 go_upto_region 1 with fail
 have hO := (Own.push (T := 108) (ls := zE) (cs := [.int .i64 0, .bool false, .slice none 0 0, .int .i64 0, .bool false, .slice none 0 0, .int .i64 0, .bool false, .slice none 0 0, .int .i64 0, .bool false, .slice none 0 0]) (Own.push (T := 108) (ls := [.q x, .q y]) (cs := [.int .i64 zz, .bool uy, .slice ru (List.length rq) c0a, .int .i64 Bv, .bool ym, .slice vg (List.length ve) c0b, .int .i64 Lp, .bool Lv, .slice Nb (List.length Me) Mq, .int .i64 Lm, .bool Lu, .slice Na (List.length Md) Mo]) (Own.nil w) (gu.q f0a Aw (gu.q Vz Vy rfl)) (w.heap.size) rfl) (((gu.vs w [.int .i64 0, .bool false, .slice none 0 0, .int .i64 0, .bool false, .slice none 0 0, .int .i64 0, .bool false, .slice none 0 0, .int .i64 0, .bool false, .slice none 0 0] rfl) : gu w zE [.int .i64 0, .bool false, .slice none 0 0, .int .i64 0, .bool false, .slice none 0 0, .int .i64 0, .bool false, .slice none 0 0, .int .i64 0, .bool false, .slice none 0 0]).below (by repeat (first | exact Below.refl _ _ | refine jc ?_ _))) (w.heap.size + 1) (by simp only [World.size_alloc]))
 generalize (w.alloc (.cells #[.int .i64 zz, .bool uy, .slice ru (List.length rq) c0a, .int .i64 Bv, .bool ym, .slice vg (List.length ve) c0b, .int .i64 Lp, .bool Lv, .slice Nb (List.length Me) Mq, .int .i64 Lm, .bool Lu, .slice Na (List.length Md) Mo] 108)).alloc (.cells #[.int .i64 0, .bool false, .slice none 0 0, .int .i64 0, .bool false, .slice none 0 0, .int .i64 0, .bool false, .slice none 0 0, .int .i64 0, .bool false, .slice none 0 0] 108) = W0 at *
 have HO := hide hO
 clear hO
 go_upto_region 1 with fail
 refine Rg.dz 6 30 (Rg.pick [Rg.ax (.int .i64 g), ai [.q (Rat.divInt g 1)], Rg.ax (.int .i64 g), ai [.z g], qf 74 zQ W0.heap.size, qf 72 zZ W0.heap.size]) (az w _ W0) gm [4, 5] kr rfl (Rg.fq.pick ⟨Rg.ae _, au _, Rg.ae _, au _, qh _ _ _, qh _ _ _, trivial⟩) (az.begin (aa HO))
  (ag (dm rfl aF)
  (ag (sc1 Tryz.func77 (aT 0) (fun W v0 hG h0 => by cases h0; exact acg g (by have := (aa HR).g1; omega) (by have := (aa HR).g2; omega) W))
  (ag (dm rfl aF)
  (ag (sc1 Tryz.func124 (aT 2) (fun W v0 hG h0 => by cases h0; exact aht g (by have := (aa HR).g1; omega) (by have := (aa HR).g2; omega) W))
  (ag (si Tg rfl az.step az.size rfl (uw (by intro j hj; simp at hj; (repeat' (first | (rcases hj with rfl | hj))) <;> first | (subst hj; exact ⟨_, _, _, rfl⟩) | exact ⟨_, _, _, rfl⟩)))
  (ag (si Ll rfl az.step az.size rfl (uw (by intro j hj; simp at hj; (repeat' (first | (rcases hj with rfl | hj))) <;> first | (subst hj; exact ⟨_, _, _, rfl⟩) | exact ⟨_, _, _, rfl⟩)))
  Rg.bg)))))) ?_
 intro v1 V1 hG1 hv1 hne1
 simp only [Rg.puts, Act.put, tA]
 obtain ⟨avw, e4, hge4, hz4⟩ := (show qf 74 zQ W0.heap.size V1 (v1 4) from hv1 4 (by decide))
 obtain ⟨ahw, e5, Pp, Vm⟩ := (show qf 72 zZ W0.heap.size V1 (v1 5) from hv1 5 (by decide))
 simp only [e4, e5]
 have hO := hG1.1
 have hnn : ahw ≠ avw := fun h => hne1 5 4 rfl rfl (by decide) (by decide) (by decide) rfl rfl (by rw [e4, e5, h])
 replace hO := Own.Wn (aa HO) hG1.2 hge4 hz4 Pp Vm hnn
 clear hnn hge4 hz4 Pp Vm
 refine jd hO 1 [] zQ [.q (Rat.divInt g 1)] [] rfl zb rfl (show ai [.q (Rat.divInt g 1)] V1 (v1 1) from hv1 1 (by decide)) rfl rfl rfl ?_
 intro uo gy hk0
 replace hO := gy
 clear gy
 refine jd hO 0 [] zZ [.z g] [] rfl Bo rfl (hk0 _ _ (show ai [.z g] V1 (v1 3) from hv1 3 (by decide))) rfl rfl rfl ?_
 intro awc Gw hk1
 replace hO := Gw
 clear Gw
 clear HO
 have HO := hide hO
 clear hO hG1 hv1 hne1 hk0 hk1
 try clear e4 e5
 go_upto_region 2 with fail
 refine Rg.region 8 30 (Rg.pick [Rg.ax (.pointer (some ⟨w.heap.size, 0, none⟩)), ai [.q x], ai [.q (Rat.divInt g 1)], ai [.q (x * Rat.divInt g 1)], ai [.z ((x * Rat.divInt g 1).num / ((x * Rat.divInt g 1).den : Int))], ai [.z g], ai [.q (xw x g)], Rg.ax (.pointer (some ⟨w.heap.size, 0, none⟩))]) (az w _ awc) gm [] kr kr rfl (Rg.fq.pick ⟨Rg.ae _, au _, au _, au _, au _, au _, au _, Rg.ae _, trivial⟩) (az.start (aa HO))
  (ag (Bu (b := w.heap.size) (off := 0) rfl aF rfl rfl)
  (ag (fw lu Ed (aT 0) [] [.q x] [.q y])
  (ag (fw lu ky aF [] [.q (Rat.divInt g 1)] [])
  (ag (sc2 Tryz.func111 (aT 1) (aT 2) (fun W v0 v1 hG h0 h1 => Qs ((aa HT).below hG.bel) (aa HR).sx (aa HR).sg h0 h1))
  (ag (sc1 Tryz.func154 (aT 3) (fun W v0 hG h0 => Xo (aa HR).sxg W _ h0))
  (ag (fw ny me0 aF [] [.z g] [])
  (ag (sc2 Tryz.func123 (aT 4) (aT 5) (fun W v0 v1 hG h0 h1 => arf ((aa HT).below hG.bel) (aa HR).g0 (aa HR).zx (aa HR).zg (aa HR).hK h0 h1))
  (ag (Bu (b := w.heap.size) (off := 0) rfl aF rfl rfl)
  Rg.bg)))))))) ?_
 intro v2 V2 hG2 hv2 hne2
 simp only [Rg.puts, Act.put, tA]
 have e7 : v2 7 = .pointer (some ⟨w.heap.size, 0, none⟩) := hv2 7 (by decide)
 simp only [e7]
 have hO := hG2.1
 refine jd hO 3 [] [.q x] [.q (xw x g)] [.q y] rfl zb rfl (show ai [.q (xw x g)] V2 (v2 6) from hv2 6 (by decide)) rfl rfl rfl ?_
 intro yg gy hk0
 replace hO := gy
 clear gy
 clear HO
 have HO := hide hO
 clear hO hG2 hv2 hne2 hk0
 try clear e7
 go_upto_region 3 with fail
 refine Rg.region 10 30 (Rg.pick [Rg.ax (.pointer (some ⟨w.heap.size, 6, none⟩)), ai [.q y], ai [.q (Rat.divInt g 1)], ai [.q (y * Rat.divInt g 1)], ai [.q (-(y * Rat.divInt g 1))], ai [.z ((-(y * Rat.divInt g 1)).num / ((-(y * Rat.divInt g 1)).den : Int))], ai [.z (-((-(y * Rat.divInt g 1)).num / ((-(y * Rat.divInt g 1)).den : Int)))], ai [.z g], ai [.q (Dj y g)], Rg.ax (.pointer (some ⟨w.heap.size, 6, none⟩))]) (az w _ yg) gm [] kr kr rfl (Rg.fq.pick ⟨Rg.ae _, au _, au _, au _, au _, au _, au _, au _, au _, Rg.ae _, trivial⟩) (az.start (aa HO))
  (ag (Co (b := w.heap.size) (off := 0) rfl aF rfl rfl)
  (ag (fw lu Ed (aT 0) [.q (xw x g)] [.q y] [])
  (ag (fw lu ky aF [] [.q (Rat.divInt g 1)] [])
  (ag (sc2 Tryz.func111 (aT 1) (aT 2) (fun W v0 v1 hG h0 h1 => Qs ((aa HT).below hG.bel) (aa HR).sy (aa HR).sg h0 h1))
  (ag (sc1 Tryz.func134 (aT 3) (fun W v0 hG h0 => axn h0))
  (ag (sc1 Tryz.func154 (aT 4) (fun W v0 hG h0 => Xo (aa HR).syg W _ h0))
  (ag (sc1 Tryz.func147 (aT 5) (fun W v0 hG h0 => ari h0))
  (ag (fw ny me0 aF [] [.z g] [])
  (ag (sc2 Tryz.func123 (aT 6) (aT 7) (fun W v0 v1 hG h0 h1 => arf ((aa HT).below hG.bel) (aa HR).g0 (aa HR).zy (aa HR).zg (aa HR).hK h0 h1))
  (ag (Co (b := w.heap.size) (off := 0) rfl aF rfl rfl)
  Rg.bg)))))))))) ?_
 intro v3 V3 hG3 hv3 mf
 simp only [Rg.puts, Act.put, tA]
 have e9 : v3 9 = .pointer (some ⟨w.heap.size, 6, none⟩) := hv3 9 (by decide)
 simp only [e9]
 have hO := hG3.1
 refine jd hO 3 [.q (xw x g)] [.q y] [.q (Dj y g)] [] rfl zb rfl (show ai [.q (Dj y g)] V3 (v3 8) from hv3 8 (by decide)) rfl rfl rfl ?_
 intro Da gy hk0
 replace hO := gy
 clear gy
 clear HO
 have HO := hide hO
 clear hO hG3 hv3 mf hk0
 try clear e9
 go_upto_region 4 with fail
 refine Rg.dz 1 30 (Rg.pick [ai [.q (xw x g), .q (Dj y g)]]) (az w _ Da) gm [] kr rfl (Rg.fq.pick ⟨au _, trivial⟩) (az.begin (aa HO))
  (ag (fw afz Ed aF [] [.q (xw x g), .q (Dj y g)] [])
  Rg.bg) ?_
 intro v4 V4 hG4 hv4 ry
 simp only [Rg.puts, Act.put, tA]
 have hO := hG4.1
 refine jd hO 2 [] zE [.q (xw x g), .q (Dj y g)] [] rfl Oe rfl (show ai [.q (xw x g), .q (Dj y g)] V4 (v4 0) from hv4 0 (by decide)) rfl rfl rfl ?_
 intro Ig gy hk0
 replace hO := gy
 clear gy
 clear HO
 have HO := hide hO
 clear hO hG4 hv4 ry hk0
 go_wp2_with fail
 exact xu Tryz.results96 Om rfl (aa HO) rf rfl rfl
end Sb

end Go.Proofs.YtjdnmdlnaoedoaaGreatDoor
namespace Go.Proofs.YtjdnmdlnaoedoaaGreatDoor
open Go.RowKit

theorem ayi (n d : Int) (w : World) (b1 : -9223372036854775808 ≤ n) (b2 : n ≤ 9223372036854775807) (b3 : -9223372036854775808 ≤ d) (b4 : d ≤ 9223372036854775807) (hd : d ≠ 0) :
  Calls Tryz.prog 48 #[.agg #[.int .i64 n, .int .i64 d]] w fun e w' => QR w (Rat.divInt n d) e w' := by
 have Qa := hide (fun W => (Js n W b1 b2).mono (fun e w' h => h.1))
 have Sc := hide (fun W => (Js d W b3 b4).mono (fun e w' h => h.1))
 have k1 : n.natAbs < eu ^ 2 := by rw [gp]; omega
 have k2 : d.natAbs < eu ^ 2 := by rw [gp]; omega
 obtain ⟨q, hq⟩ : ∃ q, q = Rat.divInt n d := ⟨_, rfl⟩
 have HR := hide (fun (A1 : Option Addr) (c1 : Nat) (l1 : List Nat) (m1 : Bool) (A2 : Option Addr) (c2 : Nat) (l2 : List Nat) (m2 : Bool) (W : World) (f1 : ik W A1 c1 l1 m1 n) (f2 : ik W A2 c2 l2 m2 d) => Sn A1 c1 l1 m1 n A2 c2 l2 m2 d 2 W f1 f2 hd k1 k2 om)
 rw [← hq] at HR ⊢
 clear b1 b2 b3 b4 hd k1 k2 hq
 go_enter Tryz.func48, Tryz.ntmps48
 go_wp2_with fail
 obtain ⟨nx, n0, hsz, hw0⟩ := uu w (.cells #[.int .i64 n, .int .i64 d] 23) (.cells #[.slice none 0 0, .bool false, .slice none 0 0, .bool false] 63)
 generalize ((w.alloc (.cells #[.int .i64 n, .int .i64 d] 23)).alloc (.cells #[.slice none 0 0, .bool false, .slice none 0 0, .bool false] 63)) = W0 at *
 have x0 : W0.cell? ⟨w.heap.size, 0, none⟩ = some (.int .i64 n) := ah nx 0
 have x1 : W0.cell? ⟨w.heap.size, 1, none⟩ = some (.int .i64 d) := ah nx 1
 have qx := lt_of_block nx
 clear nx
 have p0 : W0.cell? ⟨w.heap.size + 1, 0, none⟩ = some (.slice none 0 0) := ah n0 0
 have p1 : W0.cell? ⟨w.heap.size + 1, 1, none⟩ = some (.bool false) := ah n0 1
 have p2 : W0.cell? ⟨w.heap.size + 1, 2, none⟩ = some (.slice none 0 0) := ah n0 2
 have p3 : W0.cell? ⟨w.heap.size + 1, 3, none⟩ = some (.bool false) := ah n0 3
 have v0 := bf n0 0; have v1 := bf n0 1; have v2 := bf n0 2; have v3 := bf n0 3
 have q0 := lt_of_block n0
 have NR := Lib.hid n0
 clear n0 hsz
 go_region_with (first | (go_at_call_of 116 (Value.int .i64 n); refine ((aa Qa) _).mono ?_; rintro e w' ⟨A1, c1, l1, m1, rfl, f1n, hb⟩; (try (first | replace f2 := ik.below f2 hb | replace f2 := (ik.below f2 (Below.drew (Below.refl _ _))).below hb)); have f1 := f1n; clear f1n; have hbw := cu (w := W0) (by (first | with_reducible assumption | (repeat (first | with_reducible exact Below.refl _ _ | with_reducible assumption | refine Below.drew ?_ | (refine Below.alloc ?_ (by simp <;> omega) _))))) hb; obtain ⟨hc, hf⟩ := fu hbw) | (go_at_call_of 116 (Value.int .i64 d); refine ((aa Sc) _).mono ?_; rintro e w' ⟨A2, c2, l2, m2, rfl, f2n, hb⟩; (try (first | replace f1 := ik.below f1 hb | replace f1 := (ik.below f1 (Below.drew (Below.refl _ _))).below hb)); have f2 := f2n; clear f2n; have hbw := cu (w := W0) (by (first | with_reducible assumption | (repeat (first | with_reducible exact Below.refl _ _ | with_reducible assumption | refine Below.drew ?_ | (refine Below.alloc ?_ (by simp <;> omega) _))))) hb; obtain ⟨hc, hf⟩ := fu hbw) | (go_at_call 115; refine ((aa HR) A1 c1 l1 m1 A2 c2 l2 m2 _ (by first | exact f1 | exact ik.below f1 (Below.drew (Below.refl _ _))) (by first | exact f2 | exact ik.below f2 (Below.drew (Below.refl _ _)))).mono ?_; rintro e w' ⟨A3, c3, l3, m3, A4, c4, l4, m4, rfl, f3, f4, hb⟩; have hbw := cu (w := W0) (by (first | with_reducible assumption | (repeat (first | with_reducible exact Below.refl _ _ | with_reducible assumption | refine Below.drew ?_ | (refine Below.alloc ?_ (by simp <;> omega) _))))) hb; obtain ⟨hc, hf⟩ := fu hbw))
 all_goals
  have hblk := (hbw.block _ q0).trans NR.out
  have jh := bz hw0 hbw
  have kg := Lib.hid hblk; have F3 := hide f3; have F4 := hide f4; have Np := hide jh
  clear f3 f4 hblk jh
  go_wp2_with fail
  exact bodyPost_ret (v := .agg #[.slice A3 l3.length c3, .bool m3, .slice A4 l4.length c4, .bool m4]) (by simp [results, Tryz.results48, go_sem, hc, p0, p1, p2, p3, q0]) rfl
   ⟨A3, c3, l3, m3, A4, c4, l4, m4, rfl, (aa F3).upto kg.out (Ao _ _ _ _ _ _ _ _) (mo _ _ _ _ _ _), (aa F4).upto kg.out (Ao _ _ _ _ _ _ _ _) (mo _ _ _ _ _ _), (aa Np).grown (mo _ _ _ _ _ _) (aa Np).size (fun k hk => by injection hk with hk; omega)⟩
end Go.Proofs.YtjdnmdlnaoedoaaGreatDoor
namespace Go.Proofs.YtjdnmdlnaoedoaaGreatDoor
open Go.RowKit

end Go.Proofs.YtjdnmdlnaoedoaaGreatDoor
namespace Go.Proofs.YtjdnmdlnaoedoaaGreatDoor
open Go.RowKit

def ahq (n1 d1 n2 d2 : Int) : Int := if Wd.xh n1 d1 ∧ Wd.xh n2 d2 then iw (n1 * d2 - n2 * d1) else 0
def awj (w : World) (n1 d1 n2 d2 : Int) (e : Ending) (w' : World) : Prop := e = .returned (.tuple #[.int .i64 (ahq n1 d1 n2 d2), .int .i64 (Ra n1 d1 n2 d2)]) ∧ Below w.heap.size w w'

end Go.Proofs.YtjdnmdlnaoedoaaGreatDoor
namespace Go.Proofs.YtjdnmdlnaoedoaaGreatDoor
open Go.RowKit

theorem avm (n1 d1 n2 d2 : Int) (w : World) (hT : qy w) :
  Calls Tryz.prog 98 #[.agg #[.int .i64 n1, .int .i64 d1], .agg #[.int .i64 n2, .int .i64 d2]] w fun e w' => awj w n1 d1 n2 d2 e w' := by
 have HA := hide (fun g W (hW : qy W) => aqo n1 d1 n2 d2 g W hW)
 have HT := hide hT
 clear hT
 by_cases ok : Wd.xh n1 d1 ∧ Wd.xh n2 d2
 ·
  have e1 : Ra n1 d1 n2 d2 = 0 := if_pos ok
  have e2 : ahq n1 d1 n2 d2 = iw (n1 * d2 - n2 * d1) := if_pos ok
  unfold awj
  rw [e1] at HA ⊢
  rw [e2]
  obtain ⟨a1, a2⟩ := Wd.Nt ok.1
  obtain ⟨a3, a4⟩ := Wd.Nt ok.2
  obtain ⟨⟨r1, r2, r3, r4, rg1⟩, ⟨r5, r6, r7, r8, rg2⟩⟩ := ok
  have hz1 := afr (n := n1) (d := d1) ⟨r1, r2, r3, r4, rg1⟩
  have hz2 := afr (n := n2) (d := d2) ⟨r5, r6, r7, r8, rg2⟩
  have O1 := hide (fun W => abu n1 d1 W om om om om)
  have O2 := hide (fun W => abu n2 d2 W om om om om)
  have hq := fun (s1 : Int) (dw : Bool) (A1 : Option Addr) (c1 : Nat) (l1 : List Nat) (s2 : Int) (ek : Bool) (A2 : Option Addr) (c2 : Nat) (l2 : List Nat) (s3 : Int) (Dm : Bool) (A3 : Option Addr) (c3 : Nat) (l3 : List Nat) (s4 : Int) (Dt : Bool) (A4 : Option Addr) (c4 : Nat) (l4 : List Nat) (W : World) => ajs W (Wd.qR n1 d1) (Wd.qR n2 d2) hz1 hz2 (by decide) s1 dw A1 c1 l1 s2 ek A2 c2 l2 s3 Dm A3 c3 l3 s4 Dt A4 c4 l4 W (Below.refl _ _)
  obtain ⟨g, hg⟩ : ∃ g, g = iw (n1 * d2 - n2 * d1) := ⟨_, rfl⟩
  simp only [a1, a2, a3, a4, ← hg] at hq
  rw [← hg]
  have HQ := hide hq
  clear hq hg a1 a2 a3 a4 r1 r2 r3 r4 r5 r6 r7 r8 e1 e2 hz1 hz2 rg1 rg2
  go_enter Tryz.func98, Tryz.ntmps98
  go_wp2_with fail
  obtain ⟨n0, Lt, Ro, hsz, hw0⟩ := nu w (.cells #[.int .i64 n1, .int .i64 d1] 23) (.cells #[.int .i64 n2, .int .i64 d2] 23) (.cells #[.int .i64 n1, .int .i64 d1, .int .i64 n2, .int .i64 d2] 23)
  generalize (((w.alloc (.cells #[.int .i64 n1, .int .i64 d1] 23)).alloc (.cells #[.int .i64 n2, .int .i64 d2] 23)).alloc (.cells #[.int .i64 n1, .int .i64 d1, .int .i64 n2, .int .i64 d2] 23)) = Wa at *
  refine ((aa HA) (w.heap.size + 1 + 1) Wa ((aa HT).below hw0) (lt_of_block Ro) (ah Ro 0) (ah Ro 1) (ah Ro 2) (ah Ro 3)).mono ?_
  rintro e W0 ⟨rfl, hb0⟩
  replace n0 := (hb0.block _ (lt_of_block n0)).trans n0
  replace Lt := (hb0.block _ (lt_of_block Lt)).trans Lt
  replace hw0 := bz hw0 hb0
  have q0 := lt_of_block n0; have q1 := lt_of_block Lt
  have KEEP : ∀ X, Below W0.heap.size W0 X → (fun w' => w'.cell? ⟨w.heap.size, 0, none⟩ = some (.int .i64 n1) ∧ w'.cell? ⟨w.heap.size, 1, none⟩ = some (.int .i64 d1) ∧ w'.cell? ⟨w.heap.size + 1, 0, none⟩ = some (.int .i64 n2) ∧ w'.cell? ⟨w.heap.size + 1, 1, none⟩ = some (.int .i64 d2)) X := fun X hX => ⟨(hX.cell (p := ⟨w.heap.size, 0, none⟩) q0).trans (ah n0 0), (hX.cell (p := ⟨w.heap.size, 1, none⟩) q0).trans (ah n0 1), (hX.cell (p := ⟨w.heap.size + 1, 0, none⟩) q1).trans (ah Lt 0), (hX.cell (p := ⟨w.heap.size + 1, 1, none⟩) q1).trans (ah Lt 1)⟩
  have HKE := hide KEEP; have HW0 := hide hw0
  clear KEEP n0 Lt Ro hsz hb0 hw0 HA
  go_wp2_with fail
  go_region_held3 (fun w' => w'.cell? ⟨w.heap.size, 0, none⟩ = some (.int .i64 n1) ∧ w'.cell? ⟨w.heap.size, 1, none⟩ = some (.int .i64 d1) ∧ w'.cell? ⟨w.heap.size + 1, 0, none⟩ = some (.int .i64 n2) ∧ w'.cell? ⟨w.heap.size + 1, 1, none⟩ = some (.int .i64 d2)) (exact (aa HKE) _ (by (first | with_reducible assumption | (repeat (first | with_reducible exact Below.refl _ _ | with_reducible assumption | refine Below.drew ?_ | (refine Below.alloc ?_ (by simp <;> omega) _)))))) (first | (go_at_call_of 57 (Value.agg #[.int .i64 n1, .int .i64 d1]); refine ((aa O1) _).mono ?_; rintro e w' ⟨s1, dw, A1, c1, l1, s2, ek, A2, c2, l2, rfl, f1n, f2n, hb⟩; (try (first | replace f3 := ig.below f3 hb | replace f3 := (ig.below f3 (Below.drew (Below.refl _ _))).below hb)); (try (first | replace f4 := ig.below f4 hb | replace f4 := (ig.below f4 (Below.drew (Below.refl _ _))).below hb)); have f1 := f1n; have f2 := f2n; clear f1n f2n; have hbw := cu (w := W0) (by (first | with_reducible assumption | (repeat (first | with_reducible exact Below.refl _ _ | with_reducible assumption | refine Below.drew ?_ | (refine Below.alloc ?_ (by simp <;> omega) _))))) hb; obtain ⟨hc, hf⟩ := fu hbw) | (go_at_call_of 57 (Value.agg #[.int .i64 n2, .int .i64 d2]); refine ((aa O2) _).mono ?_; rintro e w' ⟨s3, Dm, A3, c3, l3, s4, Dt, A4, c4, l4, rfl, f3n, f4n, hb⟩; (try (first | replace f1 := ig.below f1 hb | replace f1 := (ig.below f1 (Below.drew (Below.refl _ _))).below hb)); (try (first | replace f2 := ig.below f2 hb | replace f2 := (ig.below f2 (Below.drew (Below.refl _ _))).below hb)); have f3 := f3n; have f4 := f4n; clear f3n f4n; have hbw := cu (w := W0) (by (first | with_reducible assumption | (repeat (first | with_reducible exact Below.refl _ _ | with_reducible assumption | refine Below.drew ?_ | (refine Below.alloc ?_ (by simp <;> omega) _))))) hb; obtain ⟨hc, hf⟩ := fu hbw) | (go_at_call 69; refine ((aa HQ) s1 dw A1 c1 l1 s2 ek A2 c2 l2 s3 Dm A3 c3 l3 s4 Dt A4 c4 l4 _ (by first | exact f1 | exact ig.below f1 (Below.drew (Below.refl _ _))) (by first | exact f2 | exact ig.below f2 (Below.drew (Below.refl _ _))) (by first | exact f3 | exact ig.below f3 (Below.drew (Below.refl _ _))) (by first | exact f4 | exact ig.below f4 (Below.drew (Below.refl _ _)))).mono ?_; rintro e w' ⟨rfl, hb⟩; have hbw := cu (w := W0) (by (first | with_reducible assumption | (repeat (first | with_reducible exact Below.refl _ _ | with_reducible assumption | refine Below.drew ?_ | (refine Below.alloc ?_ (by simp <;> omega) _))))) hb))
  all_goals
   have jh := bz (aa HW0) hbw
   have Np := hide jh
   clear jh hbw
   go_wp2_with fail
   go_ret2
   exact ⟨rfl, aa Np⟩
 ·
  have e1 : Ra n1 d1 n2 d2 = 1 := if_neg ok
  have e2 : ahq n1 d1 n2 d2 = 0 := if_neg ok
  unfold awj
  rw [e1] at HA ⊢
  rw [e2]
  clear e1 e2 ok
  go_enter Tryz.func98, Tryz.ntmps98
  go_wp2_with fail
  obtain ⟨n0, Lt, Ro, hsz, hw0⟩ := nu w (.cells #[.int .i64 n1, .int .i64 d1] 23) (.cells #[.int .i64 n2, .int .i64 d2] 23) (.cells #[.int .i64 n1, .int .i64 d1, .int .i64 n2, .int .i64 d2] 23)
  generalize (((w.alloc (.cells #[.int .i64 n1, .int .i64 d1] 23)).alloc (.cells #[.int .i64 n2, .int .i64 d2] 23)).alloc (.cells #[.int .i64 n1, .int .i64 d1, .int .i64 n2, .int .i64 d2] 23)) = Wa at *
  refine ((aa HA) (w.heap.size + 1 + 1) Wa ((aa HT).below hw0) (lt_of_block Ro) (ah Ro 0) (ah Ro 1) (ah Ro 2) (ah Ro 3)).mono ?_
  rintro e W0 ⟨rfl, hb0⟩
  replace hw0 := bz hw0 hb0
  clear n0 Lt Ro hsz hb0
  go_wp2_with fail
  go_ret2
  exact ⟨rfl, hw0⟩
end Go.Proofs.YtjdnmdlnaoedoaaGreatDoor
namespace Go.Proofs.YtjdnmdlnaoedoaaGreatDoor
open Go.RowKit

namespace Sb
def oq (e g : Int) : Int := if e = 0 ∧ (g < 1 ∨ 1000000 < g) then 1 else e
theorem ahu (e g : Int) (w : World) : Calls Tryz.prog 94 #[.int .i64 e, .int .i64 g] w (il (Rg.ax (.int .i64 (oq e g))) w) := by
 obtain ⟨rr, hrr⟩ : ∃ rr, rr = oq e g := ⟨_, rfl⟩
 rw [← hrr]
 unfold oq at hrr
 have HR := hide hrr
 clear hrr
 go_enter Tryz.func94, Tryz.ntmps94
 go_upto_region 1 with fail
 have hO := (Own.nil w)
 have HO := hide hO
 clear hO
 by_cases h0 : e = 0
 ·
  by_cases h1 : g < 1
  ·
   have d1 : (e == 0) = true := beq_iff_eq.2 h0
   have d2 : decide (g < 1) = true := decide_eq_true h1
   go_upto_region 1 with fail
   refine Rg.dz 10 16 (Rg.pick [Rg.ax (.int .i64 e), Rg.ax (.bool true), Rg.ax (.bool true), Rg.ax (.int .i64 g), Rg.ax (.bool true), Rg.ax (.bool true), Rg.ax undef, Rg.ax undef, Rg.ax (.bool true), Rg.ax (.bool true)]) (az w _ w) gm [] kr rfl (Rg.fq.pick ⟨Rg.ae _, Rg.ae _, Rg.ae _, Rg.ae _, Rg.ae _, Rg.ae _, Rg.ae _, Rg.ae _, Rg.ae _, Rg.ae _, trivial⟩) (az.begin (aa HO))
    (ag (dm rfl aF)
    (ag (Ju rfl (aT 0) (Rg.je _) rfl d1)
    (ag (dm rfl (aT 1))
    (Rg.ay (Rg.fe (d := 7) rfl kr rfl (dm rfl aF))
    (Rg.ay (Rg.fe (d := 7) rfl kr rfl (Aq rfl (aT 3) (Rg.je _) rfl d2))
    (Rg.ay (Rg.fe (d := 7) rfl kr rfl (dm rfl (aT 4)))
    (Rg.ay (Rg.jb (d := 10) rfl kr rfl rfl iy rfl rfl)
    (Rg.ay (Rg.jb (d := 10) rfl kr rfl rfl iy rfl rfl)
    (Rg.ay (Rg.fe (d := 7) rfl kr rfl (mr rfl (aT 5) (Rg.je _)))
    (ag (mr rfl (aT 2) (aT 8))
    Rg.bg)))))))))) ?_
   intro v1 V1 hG1 hv1 hne1
   simp only [Rg.puts, Act.put, tA]
   have e9 : v1 9 = .bool true := hv1 9 (by decide)
   simp only [e9]
   have hO := hG1.1
   clear HO
   have HO := hide hO
   clear hO hG1 hv1 hne1
   try clear e9
   have hr : rr = 1 := by rw [aa HR, if_pos om]
   subst hr
   go_upto_region 2 with fail
   refine Rg.dz 1 16 (Rg.pick [Rg.ax (.int .i64 1)]) (az w _ V1) gm [] kr rfl (Rg.fq.pick ⟨Rg.ae _, trivial⟩) (az.begin (aa HO))
    (ag (nz rfl (Rg.je _))
    Rg.bg) ?_
   intro v2 V2 hG2 hv2 hne2
   simp only [Rg.puts, Act.put, tA]
   have e0 : v2 0 = .int .i64 1 := hv2 0 (by decide)
   simp only [e0]
   have hO := hG2.1
   clear HO
   have HO := hide hO
   clear hO hG2 hv2 hne2
   try clear e0
   go_wp2_with fail
   exact Bn Tryz.results94 rfl (aa HO).bel rfl
  ·
   by_cases h2 : 1000000 < g
   ·
    have d1 : (e == 0) = true := beq_iff_eq.2 h0
    have d2 : decide (g < 1) = false := decide_eq_false h1
    have d3 : decide (1000000 < g) = true := decide_eq_true h2
    go_upto_region 1 with fail
    refine Rg.dz 10 16 (Rg.pick [Rg.ax (.int .i64 e), Rg.ax (.bool true), Rg.ax (.bool true), Rg.ax (.int .i64 g), Rg.ax (.bool false), Rg.ax (.bool false), Rg.ax (.int .i64 g), Rg.ax (.bool true), Rg.ax (.bool true), Rg.ax (.bool true)]) (az w _ w) gm [] kr rfl (Rg.fq.pick ⟨Rg.ae _, Rg.ae _, Rg.ae _, Rg.ae _, Rg.ae _, Rg.ae _, Rg.ae _, Rg.ae _, Rg.ae _, Rg.ae _, trivial⟩) (az.begin (aa HO))
     (ag (dm rfl aF)
     (ag (Ju rfl (aT 0) (Rg.je _) rfl d1)
     (ag (dm rfl (aT 1))
     (Rg.ay (Rg.fe (d := 7) rfl kr rfl (dm rfl aF))
     (Rg.ay (Rg.fe (d := 7) rfl kr rfl (Aq rfl (aT 3) (Rg.je _) rfl d2))
     (Rg.ay (Rg.fe (d := 7) rfl kr rfl (dm rfl (aT 4)))
     (Rg.ay (Rg.fe (d := 10) rfl kr rfl (dm rfl aF))
     (Rg.ay (Rg.fe (d := 10) rfl kr rfl (Bj rfl (aT 6) (Rg.je _) rfl d3))
     (Rg.ay (Rg.fe (d := 7) rfl kr rfl (qi rfl (aT 5) (aT 7)))
     (ag (mr rfl (aT 2) (aT 8))
     Rg.bg)))))))))) ?_
    intro v1 V1 hG1 hv1 hne1
    simp only [Rg.puts, Act.put, tA]
    have e9 : v1 9 = .bool true := hv1 9 (by decide)
    simp only [e9]
    have hO := hG1.1
    clear HO
    have HO := hide hO
    clear hO hG1 hv1 hne1
    try clear e9
    have hr : rr = 1 := by rw [aa HR, if_pos om]
    subst hr
    go_upto_region 2 with fail
    refine Rg.dz 1 16 (Rg.pick [Rg.ax (.int .i64 1)]) (az w _ V1) gm [] kr rfl (Rg.fq.pick ⟨Rg.ae _, trivial⟩) (az.begin (aa HO))
     (ag (nz rfl (Rg.je _))
     Rg.bg) ?_
    intro v2 V2 hG2 hv2 hne2
    simp only [Rg.puts, Act.put, tA]
    have e0 : v2 0 = .int .i64 1 := hv2 0 (by decide)
    simp only [e0]
    have hO := hG2.1
    clear HO
    have HO := hide hO
    clear hO hG2 hv2 hne2
    try clear e0
    go_wp2_with fail
    exact Bn Tryz.results94 rfl (aa HO).bel rfl
   ·
    have d1 : (e == 0) = true := beq_iff_eq.2 h0
    have d2 : decide (g < 1) = false := decide_eq_false h1
    have d3 : decide (1000000 < g) = false := decide_eq_false h2
    go_upto_region 1 with fail
    refine Rg.dz 10 16 (Rg.pick [Rg.ax (.int .i64 e), Rg.ax (.bool true), Rg.ax (.bool true), Rg.ax (.int .i64 g), Rg.ax (.bool false), Rg.ax (.bool false), Rg.ax (.int .i64 g), Rg.ax (.bool false), Rg.ax (.bool false), Rg.ax (.bool false)]) (az w _ w) gm [] kr rfl (Rg.fq.pick ⟨Rg.ae _, Rg.ae _, Rg.ae _, Rg.ae _, Rg.ae _, Rg.ae _, Rg.ae _, Rg.ae _, Rg.ae _, Rg.ae _, trivial⟩) (az.begin (aa HO))
     (ag (dm rfl aF)
     (ag (Ju rfl (aT 0) (Rg.je _) rfl d1)
     (ag (dm rfl (aT 1))
     (Rg.ay (Rg.fe (d := 7) rfl kr rfl (dm rfl aF))
     (Rg.ay (Rg.fe (d := 7) rfl kr rfl (Aq rfl (aT 3) (Rg.je _) rfl d2))
     (Rg.ay (Rg.fe (d := 7) rfl kr rfl (dm rfl (aT 4)))
     (Rg.ay (Rg.fe (d := 10) rfl kr rfl (dm rfl aF))
     (Rg.ay (Rg.fe (d := 10) rfl kr rfl (Bj rfl (aT 6) (Rg.je _) rfl d3))
     (Rg.ay (Rg.fe (d := 7) rfl kr rfl (qi rfl (aT 5) (aT 7)))
     (ag (mr rfl (aT 2) (aT 8))
     Rg.bg)))))))))) ?_
    intro v1 V1 hG1 hv1 hne1
    simp only [Rg.puts, Act.put, tA]
    have e9 : v1 9 = .bool false := hv1 9 (by decide)
    simp only [e9]
    have hO := hG1.1
    clear HO
    have HO := hide hO
    clear hO hG1 hv1 hne1
    try clear e9
    have hr : e = rr := by rw [aa HR, if_neg om]
    subst hr
    go_upto_region 3 with fail
    refine Rg.dz 2 16 (Rg.pick [Rg.ax (.int .i64 e), Rg.ax (.int .i64 e)]) (az w _ V1) gm [] kr rfl (Rg.fq.pick ⟨Rg.ae _, Rg.ae _, trivial⟩) (az.begin (aa HO))
     (ag (dm rfl aF)
     (ag (nz rfl (aT 0))
     Rg.bg)) ?_
    intro v2 V2 hG2 hv2 hne2
    simp only [Rg.puts, Act.put, tA]
    have e0 : v2 0 = .int .i64 e := hv2 0 (by decide)
    have e1 : v2 1 = .int .i64 e := hv2 1 (by decide)
    simp only [e0, e1]
    have hO := hG2.1
    clear HO
    have HO := hide hO
    clear hO hG2 hv2 hne2
    try clear e0 e1
    go_wp2_with fail
    exact Bn Tryz.results94 rfl (aa HO).bel rfl
 ·
  have d1 : (e == 0) = false := beq_eq_false_iff_ne.2 h0
  go_upto_region 1 with fail
  refine Rg.dz 10 16 (Rg.pick [Rg.ax (.int .i64 e), Rg.ax (.bool false), Rg.ax (.bool false), Rg.ax undef, Rg.ax undef, Rg.ax undef, Rg.ax undef, Rg.ax undef, Rg.ax undef, Rg.ax (.bool false)]) (az w _ w) gm [] kr rfl (Rg.fq.pick ⟨Rg.ae _, Rg.ae _, Rg.ae _, Rg.ae _, Rg.ae _, Rg.ae _, Rg.ae _, Rg.ae _, Rg.ae _, Rg.ae _, trivial⟩) (az.begin (aa HO))
   (ag (dm rfl aF)
   (ag (Ju rfl (aT 0) (Rg.je _) rfl d1)
   (ag (dm rfl (aT 1))
   (Rg.ay (Rg.jb (d := 7) rfl kr rfl rfl iy rfl rfl)
   (Rg.ay (Rg.jb (d := 7) rfl kr rfl rfl iy rfl rfl)
   (Rg.ay (Rg.jb (d := 7) rfl kr rfl rfl iy rfl rfl)
   (Rg.ay (ahc (d := 10) rfl kr rfl iy rfl rfl)
   (Rg.ay (ahc (d := 10) rfl kr rfl iy rfl rfl)
   (Rg.ay (Rg.jb (d := 7) rfl kr rfl rfl iy rfl rfl)
   (ag (qi rfl (aT 2) (Rg.je _))
   Rg.bg)))))))))) ?_
  intro v1 V1 hG1 hv1 hne1
  simp only [Rg.puts, Act.put, tA]
  have e9 : v1 9 = .bool false := hv1 9 (by decide)
  simp only [e9]
  have hO := hG1.1
  clear HO
  have HO := hide hO
  clear hO hG1 hv1 hne1
  try clear e9
  have hr : e = rr := by rw [aa HR, if_neg om]
  subst hr
  go_upto_region 3 with fail
  refine Rg.dz 2 16 (Rg.pick [Rg.ax (.int .i64 e), Rg.ax (.int .i64 e)]) (az w _ V1) gm [] kr rfl (Rg.fq.pick ⟨Rg.ae _, Rg.ae _, trivial⟩) (az.begin (aa HO))
   (ag (dm rfl aF)
   (ag (nz rfl (aT 0))
   Rg.bg)) ?_
  intro v2 V2 hG2 hv2 hne2
  simp only [Rg.puts, Act.put, tA]
  have e0 : v2 0 = .int .i64 e := hv2 0 (by decide)
  have e1 : v2 1 = .int .i64 e := hv2 1 (by decide)
  simp only [e0, e1]
  have hO := hG2.1
  clear HO
  have HO := hide hO
  clear hO hG2 hv2 hne2
  try clear e0 e1
  go_wp2_with fail
  exact Bn Tryz.results94 rfl (aa HO).bel rfl
def xy (a b c d : Int) : Prop := Wd.xh a b ∧ Wd.xh c d ∧ a * d - c * b ≤ 0
instance (a b c d : Int) : Decidable (xy a b c d) := by unfold xy; infer_instance
def nk (a b c d : Int) : Int := if xy a b c d then 0 else 1
theorem ase {df cz di dh : Int} (o e r : Int) (w : World) (hT : qy w) (u0 : Value) (h0 : ai [iv df, iv cz, iv di, iv dh] w u0)
  (hc : ∀ (W : World) (v0 v1 : Value), qy W → ai [.v (.int .i64 df), .v (.int .i64 cz)] W v0 → ai [.v (.int .i64 di), .v (.int .i64 dh)] W v1 → Calls Tryz.prog 98 #[v0, v1] W (il (qa [Rg.ax (.int .i64 o), Rg.ax (.int .i64 e)]) W))
  (hr : (e = 0 → 0 < o → r = 1) ∧ (¬ (e = 0 ∧ 0 < o) → e = r)) : Calls Tryz.prog 31 #[u0] w (il (Rg.ax (.int .i64 r)) w) := by
 have HC := hide hc
 have HR := hide hr
 have HT := hide hT
 clear hc hr hT
 have hu0 := Bg h0
 subst hu0
 go_enter Tryz.func31, Tryz.ntmps31
 go_upto_region 1 with fail
 have hO := (Own.push (T := 41) (ls := [iv df, iv cz, iv di, iv dh]) (cs := [.int .i64 df, .int .i64 cz, .int .i64 di, .int .i64 dh]) (Own.nil w) (gu.v (jm _) (gu.v (jm _) (gu.v (jm _) (gu.v (jm _) rfl)))) (w.heap.size) rfl)
 generalize w.alloc (.cells #[.int .i64 df, .int .i64 cz, .int .i64 di, .int .i64 dh] 41) = W0 at *
 have HO := hide hO
 clear hO
 go_upto_region 1 with fail
 refine Rg.dz 10 20 (Rg.pick [Rg.ax (.pointer (some ⟨w.heap.size, 0, none⟩)), ai [iv df, iv cz], Rg.ax (.pointer (some ⟨w.heap.size, 2, none⟩)), ai [iv di, iv dh], qa [Rg.ax (.int .i64 o), Rg.ax (.int .i64 e)], qa [Rg.ax (.int .i64 o), Rg.ax (.int .i64 e)], Rg.ax (.int .i64 o), Rg.ax (.int .i64 e), Rg.ax (.int .i64 o), Rg.ax (.int .i64 e)]) (az w _ W0) gm [] kr rfl (Rg.fq.pick ⟨Rg.ae _, au _, Rg.ae _, au _, ko ⟨(Rg.ae _), (Rg.ae _), trivial⟩, ko ⟨(Rg.ae _), (Rg.ae _), trivial⟩, Rg.ae _, Rg.ae _, Rg.ae _, Rg.ae _, trivial⟩) (az.begin (aa HO))
  (ag (Cm (b := w.heap.size) (off := 0) rfl aF rfl rfl)
  (ag (fw xc me0 (aT 0) [] [iv df, iv cz] [iv di, iv dh])
  (ag (Dc (b := w.heap.size) (off := 0) rfl aF rfl rfl)
  (ag (fw xc me0 (aT 2) [iv df, iv cz] [iv di, iv dh] [])
  (ag (sc2 Tryz.func98 (aT 1) (aT 3) (fun W v0 v1 hG h0 h1 => aa HC W v0 v1 ((aa HT).below hG.bel) h0 h1))
  (ag (dm rfl (aT 4))
  (ag (ma (ts := [Rg.ax (.int .i64 o), Rg.ax (.int .i64 e)]) rfl (aT 5) (of_decide_eq_true rfl) rfl)
  (ag (ma (ts := [Rg.ax (.int .i64 o), Rg.ax (.int .i64 e)]) rfl (aT 5) (of_decide_eq_true rfl) rfl)
  (ag (nz rfl (aT 6))
  (ag (nz rfl (aT 7))
  Rg.bg)))))))))) ?_
 intro v1 V1 hG1 hv1 hne1
 simp only [Rg.puts, Act.put, tA]
 have e6 : v1 6 = .int .i64 o := hv1 6 (by decide)
 have e7 : v1 7 = .int .i64 e := hv1 7 (by decide)
 have e8 : v1 8 = .int .i64 o := hv1 8 (by decide)
 have e9 : v1 9 = .int .i64 e := hv1 9 (by decide)
 simp only [e6, e7, e8, e9]
 have hO := hG1.1
 clear HO
 have HO := hide hO
 clear hO hG1 hv1 hne1
 try clear e6 e7 e8 e9
 by_cases g0 : e = 0
 ·
  by_cases g1 : 0 < o
  ·
   have d1 : (e == 0) = true := beq_iff_eq.2 g0
   have d2 : decide (0 < o) = true := decide_eq_true g1
   go_upto_region 2 with fail
   refine Rg.dz 6 20 (Rg.pick [Rg.ax (.int .i64 e), Rg.ax (.bool true), Rg.ax (.bool true), Rg.ax (.int .i64 o), Rg.ax (.bool true), Rg.ax (.bool true)]) (az w _ V1) gm [] kr rfl (Rg.fq.pick ⟨Rg.ae _, Rg.ae _, Rg.ae _, Rg.ae _, Rg.ae _, Rg.ae _, trivial⟩) (az.begin (aa HO))
    (ag (dm rfl aF)
    (ag (Ju rfl (aT 0) (Rg.je _) rfl d1)
    (ag (dm rfl (aT 1))
    (Rg.ay (Rg.fe (d := 15) rfl kr rfl (dm rfl aF))
    (Rg.ay (Rg.fe (d := 15) rfl kr rfl (Bj rfl (aT 3) (Rg.je _) rfl d2))
    (ag (mr rfl (aT 2) (aT 4))
    Rg.bg)))))) ?_
   intro v2 V2 hG2 hv2 hne2
   simp only [Rg.puts, Act.put, tA]
   have e5 : v2 5 = .bool true := hv2 5 (by decide)
   simp only [e5]
   have hO := hG2.1
   clear HO
   have HO := hide hO
   clear hO hG2 hv2 hne2
   try clear e5
   have hr : r = 1 := (aa HR).1 g0 g1
   subst hr
   go_upto_region 3 with fail
   refine Rg.dz 1 20 (Rg.pick [Rg.ax (.int .i64 1)]) (az w _ V2) gm [] kr rfl (Rg.fq.pick ⟨Rg.ae _, trivial⟩) (az.begin (aa HO))
    (ag (nz rfl (Rg.je _))
    Rg.bg) ?_
   intro v3 V3 hG3 hv3 mf
   simp only [Rg.puts, Act.put, tA]
   have e0 : v3 0 = .int .i64 1 := hv3 0 (by decide)
   simp only [e0]
   have hO := hG3.1
   clear HO
   have HO := hide hO
   clear hO hG3 hv3 mf
   try clear e0
   go_wp2_with fail
   exact Bn Tryz.results31 rfl (aa HO).bel rfl
  ·
   have d1 : (e == 0) = true := beq_iff_eq.2 g0
   have d2 : decide (0 < o) = false := decide_eq_false g1
   go_upto_region 2 with fail
   refine Rg.dz 6 20 (Rg.pick [Rg.ax (.int .i64 e), Rg.ax (.bool true), Rg.ax (.bool true), Rg.ax (.int .i64 o), Rg.ax (.bool false), Rg.ax (.bool false)]) (az w _ V1) gm [] kr rfl (Rg.fq.pick ⟨Rg.ae _, Rg.ae _, Rg.ae _, Rg.ae _, Rg.ae _, Rg.ae _, trivial⟩) (az.begin (aa HO))
    (ag (dm rfl aF)
    (ag (Ju rfl (aT 0) (Rg.je _) rfl d1)
    (ag (dm rfl (aT 1))
    (Rg.ay (Rg.fe (d := 15) rfl kr rfl (dm rfl aF))
    (Rg.ay (Rg.fe (d := 15) rfl kr rfl (Bj rfl (aT 3) (Rg.je _) rfl d2))
    (ag (mr rfl (aT 2) (aT 4))
    Rg.bg)))))) ?_
   intro v2 V2 hG2 hv2 hne2
   simp only [Rg.puts, Act.put, tA]
   have e5 : v2 5 = .bool false := hv2 5 (by decide)
   simp only [e5]
   have hO := hG2.1
   clear HO
   have HO := hide hO
   clear hO hG2 hv2 hne2
   try clear e5
   have hr : e = r := (aa HR).2 om
   subst hr
   go_upto_region 4 with fail
   refine Rg.dz 2 20 (Rg.pick [Rg.ax (.int .i64 e), Rg.ax (.int .i64 e)]) (az w _ V2) gm [] kr rfl (Rg.fq.pick ⟨Rg.ae _, Rg.ae _, trivial⟩) (az.begin (aa HO))
    (ag (dm rfl aF)
    (ag (nz rfl (aT 0))
    Rg.bg)) ?_
   intro v3 V3 hG3 hv3 mf
   simp only [Rg.puts, Act.put, tA]
   have e0 : v3 0 = .int .i64 e := hv3 0 (by decide)
   have e1 : v3 1 = .int .i64 e := hv3 1 (by decide)
   simp only [e0, e1]
   have hO := hG3.1
   clear HO
   have HO := hide hO
   clear hO hG3 hv3 mf
   try clear e0 e1
   go_wp2_with fail
   exact Bn Tryz.results31 rfl (aa HO).bel rfl
 ·
  have d1 : (e == 0) = false := beq_eq_false_iff_ne.2 g0
  go_upto_region 2 with fail
  refine Rg.dz 6 20 (Rg.pick [Rg.ax (.int .i64 e), Rg.ax (.bool false), Rg.ax (.bool false), Rg.ax undef, Rg.ax undef, Rg.ax (.bool false)]) (az w _ V1) gm [] kr rfl (Rg.fq.pick ⟨Rg.ae _, Rg.ae _, Rg.ae _, Rg.ae _, Rg.ae _, Rg.ae _, trivial⟩) (az.begin (aa HO))
   (ag (dm rfl aF)
   (ag (Ju rfl (aT 0) (Rg.je _) rfl d1)
   (ag (dm rfl (aT 1))
   (Rg.ay (Rg.jb (d := 15) rfl kr rfl rfl iy rfl rfl)
   (Rg.ay (Rg.jb (d := 15) rfl kr rfl rfl iy rfl rfl)
   (ag (qi rfl (aT 2) (Rg.je _))
   Rg.bg)))))) ?_
  intro v2 V2 hG2 hv2 hne2
  simp only [Rg.puts, Act.put, tA]
  have e5 : v2 5 = .bool false := hv2 5 (by decide)
  simp only [e5]
  have hO := hG2.1
  clear HO
  have HO := hide hO
  clear hO hG2 hv2 hne2
  try clear e5
  have hr : e = r := (aa HR).2 om
  subst hr
  go_upto_region 4 with fail
  refine Rg.dz 2 20 (Rg.pick [Rg.ax (.int .i64 e), Rg.ax (.int .i64 e)]) (az w _ V2) gm [] kr rfl (Rg.fq.pick ⟨Rg.ae _, Rg.ae _, trivial⟩) (az.begin (aa HO))
   (ag (dm rfl aF)
   (ag (nz rfl (aT 0))
   Rg.bg)) ?_
  intro v3 V3 hG3 hv3 mf
  simp only [Rg.puts, Act.put, tA]
  have e0 : v3 0 = .int .i64 e := hv3 0 (by decide)
  have e1 : v3 1 = .int .i64 e := hv3 1 (by decide)
  simp only [e0, e1]
  have hO := hG3.1
  clear HO
  have HO := hide hO
  clear hO hG3 hv3 mf
  try clear e0 e1
  go_wp2_with fail
  exact Bn Tryz.results31 rfl (aa HO).bel rfl
theorem Wh {df cz di dh : Int} (w : World) (hT : qy w) (u0 : Value) (h0 : ai [iv df, iv cz, iv di, iv dh] w u0) : Calls Tryz.prog 31 #[u0] w (il (Rg.ax (.int .i64 (nk df cz di dh))) w) := by
 refine ase (ahq df cz di dh) (Ra df cz di dh) _ w hT u0 h0 (fun W v0 v1 hT g0 g1 => ?_) ?_
 ·
  rw [Wl g0, Wl g1]
  exact (avm df cz di dh W hT).mono fun e w' ⟨h1, h2⟩ => ⟨_, h1, h2, [_, _], rfl, _, _, rfl, rfl, _, _, rfl, rfl, rfl⟩
 ·
  unfold ahq Ra nk
  by_cases ok : Wd.xh df cz ∧ Wd.xh di dh
  ·
   rw [if_pos ok, if_pos ok]
   have hs : 0 < iw (df * dh - di * cz) ↔ 0 < df * dh - di * cz := by unfold iw; (repeat' split) <;> omega
   refine ⟨fun _ h => if_neg (fun hk => ?_), fun h => (if_pos ⟨ok.1, ok.2, ?_⟩).symm⟩
   ·
    have := hk.2.2; have := hs.1 h; omega
   ·
    have h1 : ¬ 0 < iw (df * dh - di * cz) := fun h2 => h ⟨rfl, h2⟩
    rw [hs] at h1; omega
  ·
   rw [if_neg ok, if_neg ok, if_neg (fun hk => ok ⟨hk.1, hk.2.1⟩)]
   exact ⟨fun h => by omega, fun _ => rfl⟩
structure Sp where
 a : Int
 b : Int
 c : Int
 d : Int
def lv4 (s : Sp) : List Leaf := [.v (.int .i64 s.a), .v (.int .i64 s.b), .v (.int .i64 s.c), .v (.int .i64 s.d)]
def Vj (ss : List Sp) : List Leaf := (ss.map lv4).flatten
theorem azj (q1 : List Sp) (y : Sp) (q2 : List Sp) : Vj (q1 ++ y :: q2) = Vj q1 ++ (lv4 y ++ Vj q2) := by simp [Vj]
theorem adg : ∀ (a b : List Leaf), lsize (a ++ b) = lsize a + lsize b
 | [], b => by simp [lsize]
 | l :: a, b => by rw [List.cons_append, lsize, lsize, adg a b]; omega
theorem adf : ∀ (l : List Sp), lsize (Vj l) = 4 * l.length
 | [] => rfl
 | x :: l => by
  have h : Vj (x :: l) = lv4 x ++ Vj l := by simp [Vj]
  rw [h, adg, adf l, List.length_cons, show lsize (lv4 x) = 4 from rfl]; omega
def abx (s : Sp) : Prop := xy s.a s.b s.c s.d
instance (s : Sp) : Decidable (abx s) := by unfold abx; infer_instance
def Az (ss : List Sp) : Int := if ∀ s ∈ ss, abx s then 0 else 1
theorem bed {ss : List Sp} (hm : ss.length ≤ 1000000) (w : World) (hT : qy w) (u0 : Value) (h0 : Qw 41 ss.length (Vj ss) w u0) :
  Calls Tryz.prog 104 #[u0] w (il (Rg.ax (.int .i64 (Az ss))) w) := by
 obtain ⟨b0, rfl, hbx⟩ := h0
 obtain ⟨rr, hrr⟩ : ∃ rr, rr = Az ss := ⟨_, rfl⟩
 rw [← hrr]
 unfold Az at hrr
 have HR := hide hrr
 have HT := hide hT
 have HLEN := hide hm
 have HBX := hide hbx
 clear hT hbx hm hrr
 go_enter Tryz.func104, Tryz.ntmps104
 go_upto_region 1 with fail
 have hO := (Own.nil w)
 have HO := hide hO
 clear hO
 go_wp2_with fail
 go_loopw [8] (fun iv wr => ∃ q1 q2 : List Sp, ss = q1 ++ q2 ∧ iv = .int .i64 ((q1.length : Nat) : Int) ∧ (∀ s ∈ q1, abx s) ∧ Hid (Own w [] wr)) (fun iv _ => ss.length - (intOf iv).toNat)
 case atStart => exact ⟨[], ss, rfl, rfl, (by intro s h; cases h), HO⟩
 case round =>
  obtain ⟨q1, q2, Dq, rfl, hok, HO⟩ := hrel
  have Jr := hide hok
  clear hok
  rcases q2 with _ | ⟨y, q2⟩
  ·
   have d1 : decide ((q1.length : Int) < (ss.length : Int)) = false := decide_eq_false (by rw [Dq]; simp)
   rw [List.append_nil] at Dq
   obtain rfl : q1 = ss := Dq.symm
   have hr : rr = 0 := by rw [aa HR]; exact if_pos (aa Jr)
   subst hr
   go_upto_region 2 with fail
   refine Rg.dz 1 18 (Rg.pick [Rg.ax (.bool false)]) (az w _ wr) gm [] kr rfl (Rg.fq.pick ⟨Rg.ae _, trivial⟩) (az.begin (aa HO))
    (ag (Aq rfl aF aF rfl d1)
    Rg.bg) ?_
   intro v1 V1 hG1 hv1 hne1
   simp only [Rg.puts, Act.put, tA]
   have e0 : v1 0 = .bool false := hv1 0 (by decide)
   simp only [e0]
   have hO := hG1.1
   clear HO
   have HO := hide hO
   clear hO hG1 hv1 hne1
   try clear e0
   go_upto_region 8 with fail
   refine Rg.dz 1 18 (Rg.pick [Rg.ax (.int .i64 0)]) (az w _ V1) gm [] kr rfl (Rg.fq.pick ⟨Rg.ae _, trivial⟩) (az.begin (aa HO))
    (ag (nz rfl (Rg.je _))
    Rg.bg) ?_
   intro v2 V2 hG2 hv2 hne2
   simp only [Rg.puts, Act.put, tA]
   have e0 : v2 0 = .int .i64 0 := hv2 0 (by decide)
   simp only [e0]
   have hO := hG2.1
   clear HO
   have HO := hide hO
   clear hO hG2 hv2 hne2
   try clear e0
   go_wp2_with fail
   exact Bn Tryz.results104 rfl (aa HO).bel rfl
  ·
   have d1 : decide ((q1.length : Int) < (ss.length : Int)) = true := decide_eq_true (by rw [Dq]; simp; omega)
   have vo := hide (show q1.length < ss.length by rw [Dq]; simp)
   have Ip := hide Dq
   have hB := (aa HBX)
   rw [Dq, azj] at hB
   have HB := hide hB
   clear hB Dq
   go_upto_region 2 with fail
   refine Rg.dz 1 18 (Rg.pick [Rg.ax (.bool true)]) (az w _ wr) gm [] kr rfl (Rg.fq.pick ⟨Rg.ae _, trivial⟩) (az.begin (aa HO))
    (ag (Aq rfl aF aF rfl d1)
    Rg.bg) ?_
   intro v1 V1 hG1 hv1 hne1
   simp only [Rg.puts, Act.put, tA]
   have e0 : v1 0 = .bool true := hv1 0 (by decide)
   simp only [e0]
   have hO := hG1.1
   clear HO
   have HO := hide hO
   clear hO hG1 hv1 hne1
   try clear e0
   clear d1
   go_upto_region 3 with fail
   refine Rg.dz 3 18 (Rg.pick [Rg.ax (.pointer (some ⟨b0, 4 * q1.length, none⟩)), ai [iv y.a, iv y.b, iv y.c, iv y.d], qf 41 zS V1.heap.size]) (az w _ V1) gm [2] kr rfl (Rg.fq.pick ⟨Rg.ae _, au _, qh _ _ _, trivial⟩) (az.begin (aa HO))
    (ag (bbc (i := q1.length) (m := ss.length) rfl aF aF (aa vo) rfl)
    (ag (xk (b := b0) (off := 4 * q1.length) (TB := 41) (pre := Vj q1) (mid := lv4 y) (post := Vj q2) oh rfl (aT 0) (fun W h => (aa HB).below h.1.bel) (adf q1) rfl rfl)
    (ag (si Tf rfl az.step az.size rfl (uw (by intro j hj; simp at hj; (repeat' (first | (rcases hj with rfl | hj))) <;> first | (subst hj; exact ⟨_, _, _, rfl⟩) | exact ⟨_, _, _, rfl⟩)))
    Rg.bg))) ?_
   intro v2 V2 hG2 hv2 hne2
   simp only [Rg.puts, Act.put, tA]
   obtain ⟨bqu, e2, Vu, hz2⟩ := (show qf 41 zS V1.heap.size V2 (v2 2) from hv2 2 (by decide))
   simp only [e2]
   have hO := hG2.1
   replace hO := Own.add (aa HO) hG2.2 Vu hz2
   clear Vu hz2
   refine jd hO 0 [] zS [iv y.a, iv y.b, iv y.c, iv y.d] [] rfl mg rfl (show ai [iv y.a, iv y.b, iv y.c, iv y.d] V2 (v2 1) from hv2 1 (by decide)) rfl rfl rfl ?_
   intro yg gy hk0
   replace hO := gy
   clear gy
   clear HO
   have HO := hide hO
   clear hO hG2 hv2 hne2 hk0
   try clear e2
   go_upto_region 4 with fail
   refine Rg.dz 3 18 (Rg.pick [ai [iv y.a, iv y.b, iv y.c, iv y.d], Rg.ax (.int .i64 (nk y.a y.b y.c y.d)), Rg.ax (.int .i64 (nk y.a y.b y.c y.d))]) (az w _ yg) gm [] kr rfl (Rg.fq.pick ⟨au _, Rg.ae _, Rg.ae _, trivial⟩) (az.begin (aa HO))
    (ag (fw oh me0 aF [] [iv y.a, iv y.b, iv y.c, iv y.d] [])
    (ag (sc1 Tryz.func31 (aT 0) (fun W v0 hG h0 => Wh W ((aa HT).below hG.bel) _ h0))
    (ag (nz rfl (aT 1))
    Rg.bg))) ?_
   intro v3 V3 hG3 hv3 mf
   simp only [Rg.puts, Act.put, tA]
   have e1 : v3 1 = .int .i64 (nk y.a y.b y.c y.d) := hv3 1 (by decide)
   have e2 : v3 2 = .int .i64 (nk y.a y.b y.c y.d) := hv3 2 (by decide)
   simp only [e1, e2]
   have hO := hG3.1
   clear HO
   have HO := hide hO
   clear hO hG3 hv3 mf
   try clear e1 e2
   by_cases g0 : xy y.a y.b y.c y.d
   ·
    have hv : nk y.a y.b y.c y.d = 0 := if_pos g0
    rw [hv]
    have HG := hide g0
    clear g0 hv
    go_upto_region 5 with fail
    refine Rg.dz 2 18 (Rg.pick [Rg.ax (.int .i64 0), Rg.ax (.bool false)]) (az w _ V3) gm [] kr rfl (Rg.fq.pick ⟨Rg.ae _, Rg.ae _, trivial⟩) (az.begin (aa HO))
     (ag (dm rfl aF)
     (ag (Au rfl (aT 0) (Rg.je _) rfl rfl)
     Rg.bg)) ?_
    intro v4 V4 hG4 hv4 ry
    simp only [Rg.puts, Act.put, tA]
    have e1 : v4 1 = .bool false := hv4 1 (by decide)
    simp only [e1]
    have hO := hG4.1
    clear HO
    have HO := hide hO
    clear hO hG4 hv4 ry
    try clear e1
    go_wp2_with fail
    go_roundw
    case rel =>
     have h1 := aa vo; have h2 := aa HLEN
     refine ⟨q1 ++ [y], q2, by rw [aa Ip]; simp, by rw [List.length_append, List.length_singleton]; exact Sk h1 h2, fun s hs => ?_, hide (aa HO).drop⟩
     rcases List.mem_append.1 hs with hs | hs
     ·
      exact (aa Jr) s hs
     ·
      rw [List.mem_singleton.1 hs]; exact aa HG
    case measure =>
     have h1 := aa vo; have h2 := aa HLEN
     clear HO Ip HB
     rw [Qd h1 h2]
     exact measS h1
   ·
    have hv : nk y.a y.b y.c y.d = 1 := if_neg g0
    rw [hv]
    have hr : rr = 1 := by rw [aa HR]; exact if_neg (fun h => g0 (h y (by rw [aa Ip]; simp)))
    subst hr
    clear g0
    go_upto_region 5 with fail
    refine Rg.dz 2 18 (Rg.pick [Rg.ax (.int .i64 1), Rg.ax (.bool true)]) (az w _ V3) gm [] kr rfl (Rg.fq.pick ⟨Rg.ae _, Rg.ae _, trivial⟩) (az.begin (aa HO))
     (ag (dm rfl aF)
     (ag (Au rfl (aT 0) (Rg.je _) rfl rfl)
     Rg.bg)) ?_
    intro v4 V4 hG4 hv4 ry
    simp only [Rg.puts, Act.put, tA]
    have e1 : v4 1 = .bool true := hv4 1 (by decide)
    simp only [e1]
    have hO := hG4.1
    clear HO
    have HO := hide hO
    clear hO hG4 hv4 ry
    try clear e1
    go_upto_region 6 with fail
    refine Rg.dz 2 18 (Rg.pick [Rg.ax (.int .i64 1), Rg.ax (.int .i64 1)]) (az w _ V4) gm [] kr rfl (Rg.fq.pick ⟨Rg.ae _, Rg.ae _, trivial⟩) (az.begin (aa HO))
     (ag (dm rfl aF)
     (ag (nz rfl (aT 0))
     Rg.bg)) ?_
    intro v5 V5 xq hv5 hne5
    simp only [Rg.puts, Act.put, tA]
    have e0 : v5 0 = .int .i64 1 := hv5 0 (by decide)
    have e1 : v5 1 = .int .i64 1 := hv5 1 (by decide)
    simp only [e0, e1]
    have hO := xq.1
    clear HO
    have HO := hide hO
    clear hO xq hv5 hne5
    try clear e0 e1
    go_wp2_with fail
    exact Bn Tryz.results104 rfl (aa HO).bel rfl
end Sb

end Go.Proofs.YtjdnmdlnaoedoaaGreatDoor
