/- Texts beneath a law of layer 1. -/
import Derived.Test.YtfgeaakhlcaibaaGreatDoorCw11
import Derived.BigQuiet
set_option maxRecDepth 100000
set_option maxHeartbeats 16000000
namespace Go.Proofs.YtfgeaakhlcaibaaGreatDoor
open Go.RowKit

theorem avo (x q : Rat) (w : World) (u1 : Value) (h1 : Fx x w u1) (ha : (x.den : Int) = q.num) (hb : (1 : Int) = (q.den : Int))
  (hden : ∀ (W : World) (v0 : Value), Fx (x) W v0 → Calls Tryz.prog 130 #[v0] W (ik (Wq (x.den)) W))
  (hone : ∀ (W : World) , Calls Tryz.prog 142 #[] W (ik (Wq (1)) W)) :
  Calls Tryz.prog 82 #[u1] w (ik (Fx q) w) := by
 obtain ⟨A1, c1, l1, m1, A2, c2, l2, m2, rfl, hq1⟩ := h1
 have bid := hide hden
 have bic := hide hone
 have HHA := hide ha
 have HHB := hide hb
 clear hden hone ha hb
 go_enter Tryz.func82, Tryz.ntmps82
 go_upto_region 1 with fail
 have hO := (Own.bhc (Own.push (Own.nil w) (hq1.below (Below.refl _ _)) (w.heap.size) rfl) (w.heap.size + 1) (by simp only [World.size_alloc]))
 generalize (w.alloc (.cells #[.slice A1 l1.length c1, .bool m1, .slice A2 l2.length c2, .bool m2] 68)).alloc (.cells #[.slice none 0 0, .bool false, .slice none 0 0, .bool false] 68) = W0 at *
 have HO := hide hO
 clear hO
 go_upto_region 1 with fail
 refine Rg.bg 4 7 (Rg.pick [Fx (x), Wq (x.den : Int), Wq 1, Fx (q)]) (az w _ W0) dm [] kr rfl (Rg.df.pick ⟨ajm _, ajl _, ajl _, ajm _, trivial⟩) (az.begin (aa HO))
  (Rg.cu (Rg.plain rfl (aza rfl aF (fun W h => az.box (List.Mem.tail _ (List.Mem.head _)) h) rfl))
   (Rg.cu (Rg.plain rfl (Bt Tryz.func130 kr rfl az.step (aT 0) (fun W v0 hG h0 => aa bid W v0 h0)))
   (Rg.cu (Rg.plain rfl (Pk Tryz.func142 kr rfl az.step  (fun W  hG  => aa bic W)))
   (Rg.cu (Rg.plain rfl (asy rfl (aT 1) (aT 2) (aa HHA) (aa HHB) rfl))
   Rg.bf)))) ?_
 intro v V1 hG1 hv hne
 clear hne
 simp only [Rg.puts, List.take_succ_cons, List.take_zero, List.drop_succ_cons, List.drop_zero, Act.put, List.setIfInBounds_toArray, List.set_cons_zero, List.set_cons_succ]
 obtain ⟨bih, bhy, bhn, bhl, bie, bhx, bhm, bhk, e3, f3⟩ := (show Fx (q) V1 (v 3) from hv 3 de)
 simp only [e3]
 have hO := hG1.1
 obtain ⟨-, _, _, _, _, _, _, _, _, hz, -⟩ := hO.box (w.heap.size + 1) (0) (List.Mem.head _)
 have Ez := ah hz 0
 have Tk := ax hz 0
 have Ey := ah hz 1
 have Ti := ax hz 1
 have Ex := ah hz 2
 have Tg := ax hz 2
 have Ew := ah hz 3
 have Tf := ax hz 3
 have Fh := lt_of_block hz
 clear hz
 go_wp2_with fail
 replace hO := Own.set (xs := []) (ys := [(w.heap.size, x)]) hO f3
 unfold bcc at hO
 generalize (((V1.setCell ⟨w.heap.size + 1, 0, none⟩ (.slice bih bhn.length bhy)).setCell ⟨w.heap.size + 1, 1, none⟩ (.bool bhl)).setCell ⟨w.heap.size + 1, 2, none⟩ (.slice bie bhm.length bhx)).setCell ⟨w.heap.size + 1, 3, none⟩ (.bool bhk) = U1 at *
 try clear Ez Tk Ey Ti Ex Tg Ew Tf hG1
 try clear e3 f3 Fh
 try clear hv
 replace HO := hide hO
 clear hO
 obtain ⟨Um, Vz, Vx, Vs, Vu, Vy, Vw, Vr, Vt, zo, Vv⟩ := (aa HO).box _ _ (List.Mem.head _)
 have Ez := ah zo 0
 have Ey := ah zo 1
 have Ex := ah zo 2
 have Ew := ah zo 3
 have Fh := lt_of_block zo
 clear zo Um
 go_wp2_with fail
 exact bodyPost_ret (v := .agg #[.slice Vz Vs.length Vx, .bool Vu, .slice Vy Vr.length Vw, .bool Vt]) (by simp [results, Tryz.results82, go_sem, Ez, Ey, Ex, Ew, Fh]) rfl
  ⟨_, rfl, (aa HO).bel, ⟨_, _, _, _, _, _, _, _, rfl, Vv⟩⟩
theorem bfo (x : Rat) (W : World) (v : Value) (h : Fx x W v) : Calls Tryz.prog 130 #[v] W (ik (Wq (x.den : Int)) W) := by
 obtain ⟨A1, c1, l1, m1, A2, c2, l2, m2, rfl, hq⟩ := h
 exact (Tn A1 c1 l1 m1 A2 c2 l2 m2 x W hq).mono (fun e w' => aca)
theorem bht (W : World) : Calls Tryz.prog 142 #[] W (ik (Wq 1) W) := (Xa W).mono (fun e w' => aca)
theorem aad (x : Rat) (W : World) (v : Value) (h : Fx x W v) : Calls Tryz.prog 82 #[v] W (ik (Fx (Rat.divInt (x.den : Int) 1)) W) :=
 avo x _ W v h (Wd.Oa _).1.symm (Wd.Oa _).2.symm (fun W v h => bfo x W v h) bht
theorem bhv (n : Int) (b1 : -9223372036854775808 ≤ n) (b2 : n ≤ 9223372036854775807) (W : World) : Calls Tryz.prog 95 #[.int .i64 n] W (ik (Fx (Rat.divInt n 1)) W) :=
 (aeg n _ W b1 b2 (Wd.Oa n).1.symm (Wd.Oa n).2.symm).mono (fun e w' => Tu)
theorem Rz {x y : Rat} {K : Nat} (sx : Wd.zn fe K x) (sy : Wd.zn fe K y) (hK : 4 * K + 4 ≤ 35184372088832)  (W : World) (v0 v1 : Value) (h0 : Fx x W v0) (h1 : Fx y W v1) : Calls Tryz.prog 62 #[v0, v1] W (ik (Fx (x * y)) W) := by
 obtain ⟨A1, c1, l1, m1, A2, c2, l2, m2, rfl, f1⟩ := h0
 obtain ⟨A3, c3, l3, m3, A4, c4, l4, m4, rfl, f2⟩ := h1
 exact (anz K A1 c1 l1 m1 A2 c2 l2 m2 A3 c3 l3 m3 A4 c4 l4 m4 x y W f1 f2 sx sy hK).mono (fun e w' => Tu)
theorem bhw {x y : Rat} {K : Nat} (sx : Wd.zn fe K x) (sy : Wd.zn fe K y) (hK : 4 * K + 4 ≤ 35184372088832) (h0q : y.num ≠ 0) (W : World) (v0 v1 : Value) (h0 : Fx x W v0) (h1 : Fx y W v1) : Calls Tryz.prog 64 #[v0, v1] W (ik (Fx (x / y)) W) := by
 obtain ⟨A1, c1, l1, m1, A2, c2, l2, m2, rfl, f1⟩ := h0
 obtain ⟨A3, c3, l3, m3, A4, c4, l4, m4, rfl, f2⟩ := h1
 exact (acb K A1 c1 l1 m1 A2 c2 l2 m2 A3 c3 l3 m3 A4 c4 l4 m4 x y W f1 f2 sx sy hK h0q).mono (fun e w' => Tu)

theorem ayv (n d : Int) (w : World) (b1 : -9223372036854775808 ≤ n) (b2 : n ≤ 9223372036854775807) (b3 : -9223372036854775808 ≤ d) (b4 : d ≤ 9223372036854775807) (hd : d ≠ 0) :
  Calls Tryz.prog 58 #[.agg #[.int .i64 n, .int .i64 d]] w fun e w' => QR w (Rat.divInt n d) e w' := by
 have Lj := hide (fun W => (Qt n W b1 b2).mono (fun e w' h => h.1))
 have HO2 := hide (fun W => (Qt d W b3 b4).mono (fun e w' h => h.1))
 have k1 : n.natAbs < fe ^ 2 := by rw [fq]; omega
 have k2 : d.natAbs < fe ^ 2 := by rw [fq]; omega
 obtain ⟨q, hq⟩ : ∃ q, q = Rat.divInt n d := ⟨_, rfl⟩
 have HR := hide (fun (A1 : Option Addr) (c1 : Nat) (l1 : List Nat) (m1 : Bool) (A2 : Option Addr) (c2 : Nat) (l2 : List Nat) (m2 : Bool) (W : World) (f1 : jg W A1 c1 l1 m1 n) (f2 : jg W A2 c2 l2 m2 d) => Yp A1 c1 l1 m1 n A2 c2 l2 m2 d 2 W f1 f2 hd k1 k2 om)
 rw [← hq] at HR ⊢
 clear b1 b2 b3 b4 hd k1 k2 hq
 go_enter Tryz.func58, Tryz.ntmps58
 go_wp2_with fail
 obtain ⟨nx, n0, hsz, hw0⟩ := ve w (.cells #[.int .i64 n, .int .i64 d] 23) (.cells #[.slice none 0 0, .bool false, .slice none 0 0, .bool false] 68)
 generalize ((w.alloc (.cells #[.int .i64 n, .int .i64 d] 23)).alloc (.cells #[.slice none 0 0, .bool false, .slice none 0 0, .bool false] 68)) = W0 at *
 have x0 : W0.cell? ⟨w.heap.size, 0, none⟩ = some (.int .i64 n) := ah nx 0
 have x1 : W0.cell? ⟨w.heap.size, 1, none⟩ = some (.int .i64 d) := ah nx 1
 have qx := lt_of_block nx
 clear nx
 have p0 : W0.cell? ⟨w.heap.size + 1, 0, none⟩ = some (.slice none 0 0) := ah n0 0
 have p1 : W0.cell? ⟨w.heap.size + 1, 1, none⟩ = some (.bool false) := ah n0 1
 have p2 : W0.cell? ⟨w.heap.size + 1, 2, none⟩ = some (.slice none 0 0) := ah n0 2
 have p3 : W0.cell? ⟨w.heap.size + 1, 3, none⟩ = some (.bool false) := ah n0 3
 have v0 := ax n0 0; have v1 := ax n0 1; have v2 := ax n0 2; have v3 := ax n0 3
 have q0 := lt_of_block n0
 have NR := Lib.hid n0
 clear n0 hsz
 go_region_with (first | (go_at_call_of 129 (Value.int .i64 n); refine ((aa Lj) _).mono ?_; rintro e w' ⟨A1, c1, l1, m1, rfl, f1n, hb⟩; (try (first | replace f2 := jg.below f2 hb | replace f2 := (jg.below f2 (Below.drew (Below.refl _ _))).below hb)); have f1 := f1n; clear f1n; have hbw := dh (w := W0) (by (first | with_reducible assumption | (repeat (first | with_reducible exact Below.refl _ _ | with_reducible assumption | refine Below.drew ?_ | (refine Below.alloc ?_ (by simp <;> omega) _))))) hb; obtain ⟨hc, hf⟩ := fo hbw) | (go_at_call_of 129 (Value.int .i64 d); refine ((aa HO2) _).mono ?_; rintro e w' ⟨A2, c2, l2, m2, rfl, f2n, hb⟩; (try (first | replace f1 := jg.below f1 hb | replace f1 := (jg.below f1 (Below.drew (Below.refl _ _))).below hb)); have f2 := f2n; clear f2n; have hbw := dh (w := W0) (by (first | with_reducible assumption | (repeat (first | with_reducible exact Below.refl _ _ | with_reducible assumption | refine Below.drew ?_ | (refine Below.alloc ?_ (by simp <;> omega) _))))) hb; obtain ⟨hc, hf⟩ := fo hbw) | (go_at_call 128; refine ((aa HR) A1 c1 l1 m1 A2 c2 l2 m2 _ (by first | exact f1 | exact jg.below f1 (Below.drew (Below.refl _ _))) (by first | exact f2 | exact jg.below f2 (Below.drew (Below.refl _ _)))).mono ?_; rintro e w' ⟨A3, c3, l3, m3, A4, c4, l4, m4, rfl, f3, f4, hb⟩; have hbw := dh (w := W0) (by (first | with_reducible assumption | (repeat (first | with_reducible exact Below.refl _ _ | with_reducible assumption | refine Below.drew ?_ | (refine Below.alloc ?_ (by simp <;> omega) _))))) hb; obtain ⟨hc, hf⟩ := fo hbw))
 all_goals
  have hblk := (hbw.block _ q0).trans NR.out
  have ku := bz hw0 hbw
  have kz := Lib.hid hblk; have F3 := hide f3; have F4 := hide f4; have HB9 := hide ku
  clear f3 f4 hblk ku
  go_wp2_with fail
  exact bodyPost_ret (v := .agg #[.slice A3 l3.length c3, .bool m3, .slice A4 l4.length c4, .bool m4]) (by simp [results, Tryz.results58, go_sem, hc, p0, p1, p2, p3, q0]) rfl
   ⟨A3, c3, l3, m3, A4, c4, l4, m4, rfl, (aa F3).upto kz.out (Aw _ _ _ _ _ _ _ _) (pq _ _ _ _ _ _), (aa F4).upto kz.out (Aw _ _ _ _ _ _ _ _) (pq _ _ _ _ _ _), (aa HB9).grown (pq _ _ _ _ _ _) (aa HB9).size (fun k hk => by injection hk with hk; omega)⟩


theorem alx {n d : Int} (h : Wd.qy n d) : -9223372036854775808 ≤ n ∧ n ≤ 9223372036854775807 ∧ -9223372036854775808 ≤ d ∧ d ≤ 9223372036854775807 ∧ d ≠ 0 := by
 obtain ⟨r1, r2, r3, r4, _⟩ := h
 exact ⟨by omega, by omega, by omega, by omega, by omega⟩
theorem baa {n d : Int} (h : Wd.qy n d) : Wd.zn fe 2 (Wd.qR n d) := by
 obtain ⟨a1, a2⟩ := Wd.Nv h
 obtain ⟨r1, r2, r3, r4, _⟩ := h
 unfold Wd.zn Wd.Sz
 rw [a1, a2, fq]
 exact ⟨by omega, by omega⟩
theorem bhh {n d : Int} (h : Wd.qy n d) (W : World) : Calls Tryz.prog 58 #[(Value.agg #[.int .i64 n, .int .i64 d])] W fun e w' => QR W (Wd.qR n d) e w' := by
 obtain ⟨b1, b2, b3, b4, b5⟩ := alx h
 exact ayv n d W b1 b2 b3 b4 b5

theorem acd (A1 : Option Addr) (c1 : Nat) (l1 : List Nat) (m1 : Bool) (A2 : Option Addr) (c2 : Nat) (l2 : List Nat) (m2 : Bool) (q : Rat) (w : World) (h : QV w A1 c1 l1 m1 A2 c2 l2 m2 q) :
  Calls Tryz.prog 125 #[.agg #[.slice A1 l1.length c1, .bool m1, .slice A2 l2.length c2, .bool m2]] w fun e w' => bnm w q e w' := by
 have qg := hide (fun W (hW : Below w.heap.size w W) => Yo A1 c1 l1 m1 q.num W (h.num.below hW))
 have HS2 := hide (fun A c l m W (f : jg W A c l m (q.den : Int)) => Yo A c l m (q.den : Int) W f)
 have HD := hide (fun W (hW : Below w.heap.size w W) => Tn A1 c1 l1 m1 A2 c2 l2 m2 q W (h.below hW))
 have ht : (Wd.fits q → Wd.told q = ⟨q.num, q.den, 0⟩) ∧ (¬ Wd.fits q → Wd.told q = ⟨0, 0, 3⟩) := ⟨fun h => if_pos h, fun h => if_neg h⟩
 have hfi : Wd.fits q ↔ q.num.natAbs ≤ 1000000000000 ∧ q.den ≤ 1000000000000 := Iff.rfl
 have HT := hide (And.intro ht hfi)
 clear h ht hfi
 go_enter Tryz.func125, Tryz.ntmps125
 go_wp2_with fail
 obtain ⟨n0, n1, hsz, hw0⟩ := ve w (.cells #[.slice A1 l1.length c1, .bool m1, .slice A2 l2.length c2, .bool m2] 68) (.cells #[.int .i64 0, .int .i64 0] 23)
 generalize ((w.alloc (.cells #[.slice A1 l1.length c1, .bool m1, .slice A2 l2.length c2, .bool m2] 68)).alloc (.cells #[.int .i64 0, .int .i64 0] 23)) = W0 at *
 have k0 : W0.cell? ⟨w.heap.size, 0, none⟩ = some (.slice A1 l1.length c1) := ah n0 0
 have k1 : W0.cell? ⟨w.heap.size, 1, none⟩ = some (.bool m1) := ah n0 1
 have k2 : W0.cell? ⟨w.heap.size, 2, none⟩ = some (.slice A2 l2.length c2) := ah n0 2
 have k3 : W0.cell? ⟨w.heap.size, 3, none⟩ = some (.bool m2) := ah n0 3
 have p0 : W0.cell? ⟨w.heap.size + 1, 0, none⟩ = some (.int .i64 0) := ah n1 0
 have p1 : W0.cell? ⟨w.heap.size + 1, 1, none⟩ = some (.int .i64 0) := ah n1 1
 have v0 := ax n1 0; have v1 := ax n1 1
 have q0 := lt_of_block n0; have q1 := lt_of_block n1
 clear n0 n1 hsz
 refine ((aa qg) _ hw0).mono ?_
 rintro e W1 ⟨x1, ok1, rfl, hok1, hx1, hb1⟩
 obtain ⟨hc1, hf1⟩ := fo hb1
 have hw1 := bz hw0 hb1
 have OK1 := Lib.hid hok1; have X1 := hide hx1; have HB1 := hide hb1; have HW1 := hide hw1
 clear hok1 hx1 hb1 hw1
 go_wp2_with fail
 refine ((aa HD) _ (aa HW1)).mono ?_
 rintro e W2 ⟨A9, c9, l9, m9, rfl, f9, hb2⟩
 have F9 := hide f9
 clear f9
 have hb2' := bz (aa HB1) hb2
 obtain ⟨hc2, hf2⟩ := fo hb2'
 have hw2 := bz hw0 hb2'
 have HB2 := hide hb2'; have HW2 := hide hw2
 clear hb2 hb2' hw2 hc1 hf1
 go_wp2_with fail
 refine ((aa HS2) A9 c9 l9 m9 _ (aa F9)).mono ?_
 rintro e W3 ⟨x2, ok2, rfl, hok2, hx2, hb3⟩
 have abj := bz (aa HB2) hb3
 obtain ⟨hc3, hf3⟩ := fo abj
 have hw3 := bz hw0 abj
 have OK2 := Lib.hid hok2; have X2 := hide hx2; have HW3 := hide hw3
 have hg9 : ∀ u0 u1 : Value, Below w.heap.size w ((W3.setCell ⟨w.heap.size + 1, 0, none⟩ u0).setCell ⟨w.heap.size + 1, 1, none⟩ u1) := fun u0 u1 => hw3.grown (mg _ _ _ _) hw3.size (fun k hk => by injection hk with hk; omega)
 have HG9 := hide hg9
 clear hok2 hx2 hb3 abj hw3 hc2 hf2 hg9 qg HS2 HD HB1 HB2 HW1 HW2
 cases ok1 <;> cases ok2
 ·
  have hn : ¬ Wd.fits q := fun h => by have := (aa HT).2.1 h; have h2 := of_decide_eq_false OK1.out.symm; omega
  have HN := Lib.hid ((aa HT).1.2 hn)
  clear hn
  go_wp2_with fail
  exact bodyPost_ret (v := .tuple #[.agg #[.int .i64 0, .int .i64 0], .bool false]) (by simp [results, Tryz.results125, go_sem, hc3, p0, p1, q1]) rfl ⟨0, 0, false, rfl, (aa HG9) _ _, .inr ⟨rfl, HN.out⟩⟩
 ·
  have hn : ¬ Wd.fits q := fun h => by have := (aa HT).2.1 h; have h2 := of_decide_eq_false OK1.out.symm; omega
  have HN := Lib.hid ((aa HT).1.2 hn)
  clear hn
  go_wp2_with fail
  exact bodyPost_ret (v := .tuple #[.agg #[.int .i64 0, .int .i64 0], .bool false]) (by simp [results, Tryz.results125, go_sem, hc3, p0, p1, q1]) rfl ⟨0, 0, false, rfl, (aa HG9) _ _, .inr ⟨rfl, HN.out⟩⟩
 ·
  have hn : ¬ Wd.fits q := fun h => by have := (aa HT).2.1 h; have h2 := of_decide_eq_false OK2.out.symm; omega
  have HN := Lib.hid ((aa HT).1.2 hn)
  clear hn
  go_wp2_with fail
  exact bodyPost_ret (v := .tuple #[.agg #[.int .i64 0, .int .i64 0], .bool false]) (by simp [results, Tryz.results125, go_sem, hc3, p0, p1, q1]) rfl ⟨0, 0, false, rfl, (aa HG9) _ _, .inr ⟨rfl, HN.out⟩⟩
 ·
  have e1 := (aa X1) rfl
  have e2 := (aa X2) rfl
  subst e1 e2
  by_cases hfit : Wd.fits q
  ·
   have HN := Lib.hid ((aa HT).1.1 hfit)
   obtain ⟨a1, a2⟩ := (aa HT).2.1 hfit
   have d1 : decide (q.num < -1000000000000) = false := decide_eq_false om
   have d2 : decide (1000000000000 < q.num) = false := decide_eq_false om
   have d3 : decide ((1000000000000 : Int) < (q.den : Int)) = false := decide_eq_false om
   clear hfit
   go_wp2_with fail
   all_goals first | omega | skip
   exact bodyPost_ret (v := .tuple #[.agg #[.int .i64 q.num, .int .i64 q.den], .bool true]) (by simp [results, Tryz.results125, go_sem, hc3, p0, p1, q1]) rfl ⟨q.num, q.den, true, rfl, (aa HG9) _ _, .inl ⟨rfl, HN.out⟩⟩
  ·
   have HN := Lib.hid ((aa HT).1.2 hfit)
   have hor : q.num < -1000000000000 ∨ 1000000000000 < q.num ∨ (1000000000000 : Int) < (q.den : Int) := by
    have h1 := (aa HT).2.2
    by_cases a : q.num < -1000000000000
    ·
     exact .inl a
    by_cases b : 1000000000000 < q.num
    ·
     exact .inr (.inl b)
    by_cases c : (1000000000000 : Int) < (q.den : Int)
    ·
     exact .inr (.inr c)
    exact absurd (h1 ⟨by omega, by omega⟩) hfit
   clear hfit
   go_wp2_with fail
   all_goals first | omega | skip
   all_goals exact bodyPost_ret (v := .tuple #[.agg #[.int .i64 0, .int .i64 0], .bool false]) (by simp [results, Tryz.results125, go_sem, hc3, p0, p1, q1]) rfl ⟨0, 0, false, rfl, (aa HG9) _ _, .inr ⟨rfl, HN.out⟩⟩

namespace Sb
theorem Ou {W : World} {x : Rat} {v : Value} (h : au [.r x] W v) : ∃ A1 c1 l1 m1 A2 c2 l2 m2, v = .agg #[.slice A1 (List.length l1) c1, .bool m1, .slice A2 (List.length l2) c2, .bool m2] ∧ QV W A1 c1 l1 m1 A2 c2 l2 m2 x := by
 obtain ⟨cs, rfl, h⟩ := h
 obtain ⟨A1, c1, l1, m1, A2, c2, l2, m2, r, rfl, h1, h⟩ := h.adp
 cases h
 exact ⟨_, _, _, _, _, _, _, _, rfl, h1⟩
theorem ado {W : World} {x : Rat} {v : Value} (h : au [.r x] W v) : Fx x W v := by
 obtain ⟨A1, c1, l1, m1, A2, c2, l2, m2, rfl, h1⟩ := Ou h
 exact ⟨_, _, _, _, _, _, _, _, rfl, h1⟩
theorem bhg {W : World} {x : Rat} {v : Value} (h : Fx x W v) : au [.r x] W v := by
 obtain ⟨A1, c1, l1, m1, A2, c2, l2, m2, rfl, h1⟩ := h
 exact ⟨_, rfl, eu.r h1 rfl⟩
theorem Tt {w w' : World} {q : Rat} {e : Ending} (h : ik (Fx q) w e w') : ik (au [.r q]) w e w' := by
 obtain ⟨u, h1, h2, h3⟩ := h
 exact ⟨u, h1, h2, bhg h3⟩
def uw (K : Nat) (x : Rat) : Prop := Wd.zn fe K x ∧ K ≤ 1000000
theorem Br {n d : Int} (ok : Wd.qy n d) : uw 2 (Wd.qR n d) := ⟨baa ok, by omega⟩
def Ja : World → Value → Prop := fun W v => ∃ n d : Int, au [.v (.int .i64 n), .v (.int .i64 d)] W v
theorem Jg : Rg.Eb dm Ja := fun w w' v hb ⟨n, d, h⟩ => ⟨n, d, ay _ _ _ _ hb h⟩
variable {W : World} {v0 v1 : Value} {x y : Rat} {K : Nat}
theorem Yy (hx : uw K x) (hy : uw K y) (h0 : au [.r x] W v0) (h1 : au [.r y] W v1) : Calls Tryz.prog 62 #[v0, v1] W (ik (au [.r (x * y)]) W) :=
 (Go.Proofs.YtfgeaakhlcaibaaGreatDoor.Rz hx.1 hy.1 (by have := hx.2; omega) W v0 v1 (ado h0) (ado h1)).mono fun e w' h => Tt h
theorem alo {n d : Int} (ok : Wd.qy n d) (h0 : au [.v (.int .i64 n), .v (.int .i64 d)] W v0) : Calls Tryz.prog 58 #[v0] W (ik (au [.r (Wd.qR n d)]) W) := by
 rw [Fv h0]
 exact (bhh ok W).mono fun e w' h => Tt (Tu h)
theorem Xi {n d : Int} (h0 : au [.v (.int .i64 n), .v (.int .i64 d)] W v0) : Calls Tryz.prog 70 #[v0] W (ik (Rg.ai (.bool (decide (Wd.qy n d)))) W) := by
 rw [Fv h0]
 exact (ayw n d W).mono fun e w' h => Zu h
theorem Xh (hf : Wd.fits x) (h0 : au [.r x] W v0) : Calls Tryz.prog 125 #[v0] W (ik (jk [au [.v (.int .i64 x.num), .v (.int .i64 (x.den : Int))], Rg.ai (.bool true)]) W) := by
 obtain ⟨A1, c1, l1, m1, A2, c2, l2, m2, rfl, h1⟩ := Ou h0
 refine (acd A1 c1 l1 m1 A2 c2 l2 m2 x W h1).mono fun e w' ⟨n, d, ok, he, hb, hc⟩ => ?_
 have ht : Wd.told x = ⟨x.num, x.den, 0⟩ := if_pos hf
 rw [ht] at hc
 rcases hc with ⟨rfl, h2⟩ | ⟨_, h2⟩
 ·
  injection h2 with e1 e2 e3
  subst e1 e2
  exact ⟨_, he, hb, [_, _], rfl, _, _, rfl, Af _ _ _, _, _, rfl, rfl, rfl⟩
 ·
  injection h2 with e1 e2 e3
  omega
theorem aey (hf : ¬ Wd.fits x) (h0 : au [.r x] W v0) : Calls Tryz.prog 125 #[v0] W (ik (jk [Ja, Rg.ai (.bool false)]) W) := by
 obtain ⟨A1, c1, l1, m1, A2, c2, l2, m2, rfl, h1⟩ := Ou h0
 refine (acd A1 c1 l1 m1 A2 c2 l2 m2 x W h1).mono fun e w' ⟨n, d, ok, he, hb, hc⟩ => ?_
 have ht : Wd.told x = ⟨0, 0, 3⟩ := if_neg hf
 rw [ht] at hc
 rcases hc with ⟨_, h2⟩ | ⟨rfl, h2⟩
 ·
  injection h2 with e1 e2 e3
  omega
 ·
  exact ⟨_, he, hb, [_, _], rfl, _, _, rfl, ⟨n, d, Af _ _ _⟩, _, _, rfl, rfl, rfl⟩
theorem La : 1 < fe := by rw [fq]; omega
theorem Xc {K : Nat} {n d : Int} (hd : d ≠ 0) (hn : Wd.Sz fe K n) (hdd : Wd.Sz fe K d) : Wd.zn fe K (Rat.divInt n d) := by
 obtain ⟨h1, h2⟩ := Wd.Ng n d hd
 exact ⟨by rw [h1]; exact hn.tdiv _, by rw [h2]; exact hdd.tdiv _⟩
theorem uw.mono {K L : Nat} {x : Rat} (h : uw K x) (hk : K ≤ L) (hl : L ≤ 1000000) : uw L x := ⟨⟨h.1.1.mono La hk, h.1.2.mono La hk⟩, hl⟩
theorem uw.mul {K : Nat} {x y : Rat} (hx : uw K x) (hy : uw K y) (h : K + K ≤ 1000000) : uw (K + K) (x * y) := by
 refine ⟨?_, h⟩
 rw [Wd.amc]
 have d1 := x.den_nz; have d2 := y.den_nz
 exact Xc (Int.mul_ne_zero om om) (hx.1.1.mul hy.1.1) (hx.1.2.mul hy.1.2)
theorem uw.add {K : Nat} {x y : Rat} (hx : uw K x) (hy : uw K y) (h : K + K + 1 ≤ 1000000) : uw (K + K + 1) (x + y) := by
 refine ⟨?_, h⟩
 rw [Wd.bia]
 have d1 := x.den_nz; have d2 := y.den_nz
 exact Xc (Int.mul_ne_zero om om) ((hx.1.1.mul hy.1.2).add La (hy.1.1.mul hx.1.2)) ((hx.1.2.mul hy.1.2).mono La om)
theorem uw.neg {K : Nat} {x : Rat} (hx : uw K x) : uw K (-x) := ⟨⟨by rw [Rat.neg_num]; exact hx.1.1.neg, by rw [Rat.neg_den]; exact hx.1.2⟩, hx.2⟩
theorem uw.sub {K : Nat} {x y : Rat} (hx : uw K x) (hy : uw K y) (h : K + K + 1 ≤ 1000000) : uw (K + K + 1) (x - y) := by rw [Rat.sub_eq_add_neg]; exact hx.add hy.neg h
theorem uw.inv {K : Nat} {x : Rat} (hx : uw K x) (h0 : x.num ≠ 0) : uw K (x⁻¹) := by
 have hp := Wd.Uf x h0
 refine ⟨?_, hx.2⟩
 by_cases hn : x.num < 0
 ·
  exact ⟨by rw [(hp.1 hn).1]; exact hx.1.2.neg, by rw [(hp.1 hn).2]; exact hx.1.1.neg⟩
 ·
  exact ⟨by rw [(hp.2 hn).1]; exact hx.1.2, by rw [(hp.2 hn).2]; exact hx.1.1⟩
theorem bgw {K : Nat} {z : Int} (h : Wd.Sz fe (K + 1) z) (hK : K + 1 ≤ 1000000) : uw (K + 1) (Rat.divInt z 1) := ⟨Xc (by omega) h (Wd.Sz.of_le (by rw [fq]; omega) La om), hK⟩
section
variable {W : World} {v0 v1 : Value} {x y : Rat} {K : Nat}
theorem adp (hx : uw (K + 1) x) (hn : x.num ≠ 0) (h0 : au [.r x] W v0) : Calls Tryz.prog 90 #[v0] W (ik (au [.r (x⁻¹)]) W) := by
 obtain ⟨A1, c1, l1, m1, A2, c2, l2, m2, rfl, h1⟩ := Ou h0
 refine (aoa (K + 1) A1 c1 l1 m1 A2 c2 l2 m2 x W h1 hx.1 om (by have := hx.2; omega) hn).mono fun e w' h => ?_
 have h2 := Tt (Tu h)
 rwa [Rat.div_def, show Rat.divInt 1 1 = 1 from rfl, Rat.one_mul] at h2
theorem awx (n : Int) (b1 : -9223372036854775808 ≤ n) (b2 : n ≤ 9223372036854775807) (W : World) : Calls Tryz.prog 95 #[.int .i64 n] W (ik (au [.r (Rat.divInt n 1)]) W) :=
 (Go.Proofs.YtfgeaakhlcaibaaGreatDoor.bhv n b1 b2 W).mono fun e w' h => Tt h
end
end Sb




structure NbW (w wr : World) (b0 b1 l0 l1 : Int) : Prop where
 below : Below w.heap.size w wr
 x : wr.heap[w.heap.size]? = some (.cells #[.int .i64 22, .int .i64 7] 23 (0, 0))
 lo : wr.heap[w.heap.size + 1]? = some (.cells #[.int .i64 0, .int .i64 0] 23 (0, 0))
 hi : wr.heap[w.heap.size + 2]? = some (.cells #[.int .i64 0, .int .i64 0] 23 (0, 0))
 bef : wr.heap[w.heap.size + 3]? = some (.cells #[.int .i64 b0, .int .i64 b1] 23 (0, 0))
 last : wr.heap[w.heap.size + 4]? = some (.cells #[.int .i64 l0, .int .i64 l1] 23 (0, 0))
theorem NbW.step {w wr w' : World} {b0 b1 l0 l1 : Int} (h : NbW w wr b0 b1 l0 l1) (hb : Below wr.heap.size wr w') : NbW w w' b0 b1 l0 l1 :=
 ⟨bz h.below hb, (hb.block _ (lt_of_block h.x)).trans h.x, (hb.block _ (lt_of_block h.lo)).trans h.lo, (hb.block _ (lt_of_block h.hi)).trans h.hi, (hb.block _ (lt_of_block h.bef)).trans h.bef, (hb.block _ (lt_of_block h.last)).trans h.last⟩
theorem NbW.set {w wr : World} {b0 b1 l0 l1 : Int} (h : NbW w wr b0 b1 l0 l1) (u0 u1 v0 v1 : Int) :
  NbW w ((((wr.setCell ⟨w.heap.size + 3, 0, none⟩ (.int .i64 u0)).setCell ⟨w.heap.size + 3, 1, none⟩ (.int .i64 u1)).setCell ⟨w.heap.size + 4, 0, none⟩ (.int .i64 v0)).setCell ⟨w.heap.size + 4, 1, none⟩ (.int .i64 v1)) u0 u1 v0 v1 := by
 have g1 := mg wr (w.heap.size + 3) (.int .i64 u0) (.int .i64 u1)
 have g2 := mg ((wr.setCell ⟨w.heap.size + 3, 0, none⟩ (.int .i64 u0)).setCell ⟨w.heap.size + 3, 1, none⟩ (.int .i64 u1)) (w.heap.size + 4) (.int .i64 v0) (.int .i64 v1)
 have s1 := g1.size
 have old : ∀ k, k < w.heap.size + 3 → ((((wr.setCell ⟨w.heap.size + 3, 0, none⟩ (.int .i64 u0)).setCell ⟨w.heap.size + 3, 1, none⟩ (.int .i64 u1)).setCell ⟨w.heap.size + 4, 0, none⟩ (.int .i64 v0)).setCell ⟨w.heap.size + 4, 1, none⟩ (.int .i64 v1)).heap[k]? = wr.heap[k]? := fun k hk => by
  have hl := lt_of_block h.last
  exact (g2.block k om (fun e => by injection e with e; omega)).trans (g1.block k om (fun e => by injection e with e; omega))
 have hl := lt_of_block h.last
 have e1 := Qy (u0 := .int .i64 u0) (u1 := .int .i64 u1) h.bef
 refine ⟨(h.below.grown g1 h.below.size (fun k hk => by injection hk with hk; omega)).grown g2 (by have := h.below.size; omega) (fun k hk => by injection hk with hk; omega), (old _ om).trans h.x, (old _ om).trans h.lo, (old _ om).trans h.hi, ?_, ?_⟩
 ·
  exact (g2.block _ (lt_of_block e1) (fun e => by injection e with e; omega)).trans e1
 ·
  exact Qy ((g1.block _ hl (fun e => by injection e with e; omega)).trans h.last)

structure IQ (w : World) (Nu : Int) (adt : Bool) (Ct : Option Addr) (c1a : Nat) (Cr : List Nat) (Nt : Int) (ads : Bool) (Dp : Option Addr) (Dh : Nat) (Db : List Nat) (q : Rat) : Prop where
 n : gu w Nu adt Ct c1a Cr q.num
 d : gu w Nt ads Dp Dh Db (q.den : Int)
theorem IQ.below {w w' : World} {Nu : Int} {adt : Bool} {Ct : Option Addr} {c1a : Nat} {Cr : List Nat} {Nt : Int} {ads : Bool} {Dp : Option Addr} {Dh : Nat} {Db : List Nat} {q : Rat} (h : IQ w Nu adt Ct c1a Cr Nt ads Dp Dh Db q) (hb : Below w.heap.size w w') : IQ w' Nu adt Ct c1a Cr Nt ads Dp Dh Db q := ⟨h.n.below hb, h.d.below hb⟩
theorem alf {W : World} {b : Nat} {a0 a1 a2 a3 a4 a5 u0 u1 u2 u3 u4 u5 : Value} {T : TypeId} (h : W.heap[b]? = some (.cells #[a0, a1, a2, a3, a4, a5] T (0, 0))) : ((((((W.setCell ⟨b, 0, none⟩ u0).setCell ⟨b, 1, none⟩ u1).setCell ⟨b, 2, none⟩ u2).setCell ⟨b, 3, none⟩ u3).setCell ⟨b, 4, none⟩ u4).setCell ⟨b, 5, none⟩ u5).heap[b]? = some (.cells #[u0, u1, u2, u3, u4, u5] T (0, 0)) := by
 simp [World.setCell, Array.getElem?_modify, h]

namespace Sb
section
variable {W : World} {v0 v1 : Value} {K : Nat}
end
theorem bhu {W : World} {v0 : Value} {x : Rat} (h : x.num ≠ 0) (h0 : au [.q x] W v0) : Calls Tryz.prog 94 #[v0] W (ik (au [.q (x⁻¹)]) W) := axz (ajs W x h) h0
theorem Sm.sub {x y : Rat} {K : Nat} (hx : Sm K x) (hy : Sm K y) (h : K + K + 1 ≤ 1000000) (w : World) (hT : qa w) : Sm (K + K + 1) (x - y) := ⟨(azx hT x y hx.1 hy.1 (by have := Jl; omega)).2, h⟩
theorem Sm.inv {x : Rat} {K : Nat} (hx : Sm K x) (h : x.num ≠ 0) : Sm K (x⁻¹) := ⟨hx.1.inv h, hx.2⟩
end Sb


namespace Sb
def Ca (f : Nat → Int) : Prop := ∀ j, j < 7 → -9 ≤ f j ∧ f j ≤ 9
instance (f : Nat → Int) : Decidable (Ca f) := by unfold Ca; infer_instance
theorem ahw (z : Int) (w : World) : Calls Tryz.prog 167 #[.int .i64 z] w (ik (Rg.ai (.bool (decide (z < -9 ∨ 9 < z)))) w) := by
 obtain ⟨o, ho⟩ : ∃ o, o = decide (z < -9 ∨ 9 < z) := ⟨_, rfl⟩
 rw [← ho]
 have HR := hide ho
 clear ho
 go_enter Tryz.func167, Tryz.ntmps167
 go_upto_region 1 with fail
 have hO := (Own.nil w)
 have HO := hide hO
 clear hO
 by_cases g1 : z < -9
 ·
  have k1 : decide (z < -9) = true := decide_eq_true g1
  have hr : o = true := by rw [aa HR]; exact decide_eq_true om
  subst hr
  go_upto_region 1 with fail
  refine Rg.bg 7 9 (Rg.pick [Rg.ai (.int .i64 z), Rg.ai (.bool true), Rg.ai (.bool true), Rg.ai undef, Rg.ai undef, Rg.ai (.bool true), Rg.ai (.bool true)]) (az w _ w) dm [] kr rfl (Rg.df.pick ⟨Rg.ae _, Rg.ae _, Rg.ae _, Rg.ae _, Rg.ae _, Rg.ae _, Rg.ae _, trivial⟩) (az.begin (aa HO))
   (ag (cz rfl aF)
   (ag (ry rfl (aT 0) (Rg.jc _) rfl k1)
   (ag (cz rfl (aT 1))
   (Rg.cu (Rg.ny (d := 5) rfl kr rfl rfl nz rfl rfl)
   (Rg.cu (Rg.ny (d := 5) rfl kr rfl rfl nz rfl rfl)
   (ag (xz rfl (aT 2) (Rg.jc _))
   (ag (ib rfl (aT 5))
   Rg.bf))))))) ?_
  intro v1 V1 hG1 hv1 hne1
  simp only [Rg.puts, Act.put, tA]
  have e5 : v1 5 = .bool true := hv1 5 de
  have e6 : v1 6 = .bool true := hv1 6 de
  simp only [e5, e6]
  have hO := hG1.1
  clear HO
  have HO := hide hO
  clear hO hG1 hv1 hne1
  try clear e5 e6
  go_wp2_with fail
  exact yu Tryz.results167 rfl (aa HO).bel rfl
 ·
  by_cases g2 : 9 < z
  ·
   have k1 : decide (z < -9) = false := decide_eq_false g1
   have k2 : decide (9 < z) = true := decide_eq_true g2
   have hr : o = true := by rw [aa HR]; exact decide_eq_true om
   subst hr
   go_upto_region 1 with fail
   refine Rg.bg 7 9 (Rg.pick [Rg.ai (.int .i64 z), Rg.ai (.bool false), Rg.ai (.bool false), Rg.ai (.int .i64 z), Rg.ai (.bool true), Rg.ai (.bool true), Rg.ai (.bool true)]) (az w _ w) dm [] kr rfl (Rg.df.pick ⟨Rg.ae _, Rg.ae _, Rg.ae _, Rg.ae _, Rg.ae _, Rg.ae _, Rg.ae _, trivial⟩) (az.begin (aa HO))
    (ag (cz rfl aF)
    (ag (ry rfl (aT 0) (Rg.jc _) rfl k1)
    (ag (cz rfl (aT 1))
    (Rg.cu (Rg.ek (d := 5) rfl kr rfl (cz rfl aF))
    (Rg.cu (Rg.ek (d := 5) rfl kr rfl (Jv rfl (aT 3) (Rg.jc _) rfl k2))
    (ag (qb rfl (aT 2) (aT 4))
    (ag (ib rfl (aT 5))
    Rg.bf))))))) ?_
   intro v1 V1 hG1 hv1 hne1
   simp only [Rg.puts, Act.put, tA]
   have e5 : v1 5 = .bool true := hv1 5 de
   have e6 : v1 6 = .bool true := hv1 6 de
   simp only [e5, e6]
   have hO := hG1.1
   clear HO
   have HO := hide hO
   clear hO hG1 hv1 hne1
   try clear e5 e6
   go_wp2_with fail
   exact yu Tryz.results167 rfl (aa HO).bel rfl
  ·
   have k1 : decide (z < -9) = false := decide_eq_false g1
   have k2 : decide (9 < z) = false := decide_eq_false g2
   have hr : o = false := by rw [aa HR]; exact decide_eq_false om
   subst hr
   go_upto_region 1 with fail
   refine Rg.bg 7 9 (Rg.pick [Rg.ai (.int .i64 z), Rg.ai (.bool false), Rg.ai (.bool false), Rg.ai (.int .i64 z), Rg.ai (.bool false), Rg.ai (.bool false), Rg.ai (.bool false)]) (az w _ w) dm [] kr rfl (Rg.df.pick ⟨Rg.ae _, Rg.ae _, Rg.ae _, Rg.ae _, Rg.ae _, Rg.ae _, Rg.ae _, trivial⟩) (az.begin (aa HO))
    (ag (cz rfl aF)
    (ag (ry rfl (aT 0) (Rg.jc _) rfl k1)
    (ag (cz rfl (aT 1))
    (Rg.cu (Rg.ek (d := 5) rfl kr rfl (cz rfl aF))
    (Rg.cu (Rg.ek (d := 5) rfl kr rfl (Jv rfl (aT 3) (Rg.jc _) rfl k2))
    (ag (qb rfl (aT 2) (aT 4))
    (ag (ib rfl (aT 5))
    Rg.bf))))))) ?_
   intro v1 V1 hG1 hv1 hne1
   simp only [Rg.puts, Act.put, tA]
   have e5 : v1 5 = .bool false := hv1 5 de
   have e6 : v1 6 = .bool false := hv1 6 de
   simp only [e5, e6]
   have hO := hG1.1
   clear HO
   have HO := hide hO
   clear hO hG1 hv1 hne1
   try clear e5 e6
   go_wp2_with fail
   exact yu Tryz.results167 rfl (aa HO).bel rfl
theorem avw {f : Nat → Int} {post : List jq} {TB : TypeId} {b0 : Nat} (o : Int) (w : World) (hb : uo w b0 TB (.k (eK f) :: post))
  (ho : ((∀ j, j < 7 → -9 ≤ f j ∧ f j ≤ 9) → o = -1) ∧ (∀ k : Nat, k < 7 → (f k < -9 ∨ 9 < f k) → (∀ j, j < k → -9 ≤ f j ∧ f j ≤ 9) → o = (k : Int))) :
  Calls Tryz.prog 204 #[.slice (some ⟨b0, 0, none⟩) 7 7, .func (.func 167) #[] #[]] w (ik (Rg.ai (.int .i64 o)) w) := by
 have HB := hide hb
 have HR := hide ho
 clear hb ho
 go_enter Tryz.func204, Tryz.ntmps204
 go_upto_region 1 with fail
 have hO := (Own.nil w)
 have HO := hide hO
 clear hO
 go_wp2_with fail
 go_loopw [8] (fun vk wr => ∃ k : Nat, k ≤ 7 ∧ vk = .int .i64 ((k : Nat) : Int) ∧ (∀ j, j < k → -9 ≤ f j ∧ f j ≤ 9) ∧ Hid (Own w [] wr)) (fun vk _ => 7 - (intOf vk).toNat)
 case atStart => exact ⟨0, by omega, rfl, (by intro j hj; omega), HO⟩
 case round =>
  obtain ⟨k, hk, rfl, hall, HO⟩ := hrel
  have HK := hide hk
  have HAL := hide hall
  clear hk hall
  by_cases g1 : k < 7
  ·
   have d1 : decide ((k : Int) < 7) = true := decide_eq_true om
   have uk := hide g1
   clear g1
   go_upto_region 2 with fail
   refine Rg.bg 1 19 (Rg.pick [Rg.ai (.bool true)]) (az w _ wr) dm [] kr rfl (Rg.df.pick ⟨Rg.ae _, trivial⟩) (az.begin (aa HO))
    (ag (ry rfl aF aF rfl d1)
    Rg.bf) ?_
   intro v1 V1 hG1 hv1 hne1
   simp only [Rg.puts, Act.put, tA]
   have e0 : v1 0 = .bool true := hv1 0 de
   simp only [e0]
   have hO := hG1.1
   clear HO
   have HO := hide hO
   clear hO hG1 hv1 hne1
   try clear e0
   clear d1
   go_upto_region 3 with fail
   refine Rg.bg 2 19 (Rg.pick [Rg.ai (.int .i64 (k : Int)), Rg.ai (.int .i64 (k : Int))]) (az w _ V1) dm [] kr rfl (Rg.df.pick ⟨Rg.ae _, Rg.ae _, trivial⟩) (az.begin (aa HO))
    (ag (cz rfl aF)
    (ag (ib rfl (aT 0))
    Rg.bf)) ?_
   intro v2 V2 hG2 hv2 hne2
   simp only [Rg.puts, Act.put, tA]
   have e0 : v2 0 = .int .i64 (k : Int) := hv2 0 de
   have e1 : v2 1 = .int .i64 (k : Int) := hv2 1 de
   simp only [e0, e1]
   have hO := hG2.1
   clear HO
   have HO := hide hO
   clear hO hG2 hv2 hne2
   try clear e0 e1
   by_cases g2 : f k < -9 ∨ 9 < f k
   ·
    have k2 : decide (f k < -9 ∨ 9 < f k) = true := decide_eq_true g2
    go_upto_region 4 with fail
    refine Rg.bg 6 19 (Rg.pick [Rg.ai (.func (.func 167) #[] #[]), Rg.ai (.slice (some ⟨b0, 0, none⟩) 7 7), Rg.ai (.int .i64 (k : Int)), Rg.ai (.pointer (some ⟨b0, k, none⟩)), Rg.ai (.int .i64 (f k)), Rg.ai (.bool true)]) (az w _ V2) dm [] kr rfl (Rg.df.pick ⟨Rg.ae _, Rg.ae _, Rg.ae _, Rg.ae _, Rg.ae _, Rg.ae _, trivial⟩) (az.begin (aa HO))
     (ag (cz rfl aF)
     (ag (cz rfl aF)
     (ag (cz rfl aF)
     (ag (aor (i := k) (m := 7) rfl (aT 1) (aT 2) (aa uk) (by simp; rfl))
     (ag (awt (f := f) (b := b0) (TB := TB) (post := post) (fun W h => (aa HB).below h.1.bel) rfl (aT 3) (aa uk) rfl)
     (ag (aet Tryz.func167 kr rfl az.step (aT 0) (aT 4) (fun W v0 hG h0 => by cases h0; exact k2 ▸ ahw _ W))
     Rg.bf)))))) ?_
    intro v3 V3 hG3 hv3 ja
    simp only [Rg.puts, Act.put, tA]
    have e5 : v3 5 = .bool true := hv3 5 de
    simp only [e5]
    have hO := hG3.1
    clear HO
    have HO := hide hO
    clear hO hG3 hv3 ja
    try clear e5
    clear k2
    have hr : o = (k : Int) := (aa HR).2 k (aa uk) g2 (aa HAL)
    subst hr
    go_upto_region 5 with fail
    refine Rg.bg 2 19 (Rg.pick [Rg.ai (.int .i64 (k : Int)), Rg.ai (.int .i64 (k : Int))]) (az w _ V3) dm [] kr rfl (Rg.df.pick ⟨Rg.ae _, Rg.ae _, trivial⟩) (az.begin (aa HO))
     (ag (cz rfl aF)
     (ag (ib rfl (aT 0))
     Rg.bf)) ?_
    intro v4 V4 hG4 hv4 mo
    simp only [Rg.puts, Act.put, tA]
    have e0 : v4 0 = .int .i64 (k : Int) := hv4 0 de
    have e1 : v4 1 = .int .i64 (k : Int) := hv4 1 de
    simp only [e0, e1]
    have hO := hG4.1
    clear HO
    have HO := hide hO
    clear hO hG4 hv4 mo
    try clear e0 e1
    go_wp2_with fail
    exact yu Tryz.results204 rfl (aa HO).bel rfl
   ·
    have k2 : decide (f k < -9 ∨ 9 < f k) = false := decide_eq_false g2
    go_upto_region 4 with fail
    refine Rg.bg 6 19 (Rg.pick [Rg.ai (.func (.func 167) #[] #[]), Rg.ai (.slice (some ⟨b0, 0, none⟩) 7 7), Rg.ai (.int .i64 (k : Int)), Rg.ai (.pointer (some ⟨b0, k, none⟩)), Rg.ai (.int .i64 (f k)), Rg.ai (.bool false)]) (az w _ V2) dm [] kr rfl (Rg.df.pick ⟨Rg.ae _, Rg.ae _, Rg.ae _, Rg.ae _, Rg.ae _, Rg.ae _, trivial⟩) (az.begin (aa HO))
     (ag (cz rfl aF)
     (ag (cz rfl aF)
     (ag (cz rfl aF)
     (ag (aor (i := k) (m := 7) rfl (aT 1) (aT 2) (aa uk) (by simp; rfl))
     (ag (awt (f := f) (b := b0) (TB := TB) (post := post) (fun W h => (aa HB).below h.1.bel) rfl (aT 3) (aa uk) rfl)
     (ag (aet Tryz.func167 kr rfl az.step (aT 0) (aT 4) (fun W v0 hG h0 => by cases h0; exact k2 ▸ ahw _ W))
     Rg.bf)))))) ?_
    intro v3 V3 hG3 hv3 ja
    simp only [Rg.puts, Act.put, tA]
    have e5 : v3 5 = .bool false := hv3 5 de
    simp only [e5]
    have hO := hG3.1
    clear HO
    have HO := hide hO
    clear hO hG3 hv3 ja
    try clear e5
    clear k2
    have HN := hide (show ∀ j, j < k + 1 → -9 ≤ f j ∧ f j ≤ 9 from fun j hj => by
     rcases Nat.lt_succ_iff_lt_or_eq.1 hj with h | rfl
     ·
      exact (aa HAL) j h
     ·
      omega)
    clear g2
    go_wp2_with fail
    go_roundw
    case rel =>
     exact ⟨k + 1, by have := aa uk; omega, Np (aa uk) om, aa HN, HO⟩
    case measure =>
     have h1 := aa uk
     clear HO
     rw [Lp h1 om]
     exact measS h1
  ·
   obtain rfl : k = 7 := by have := aa HK; omega
   have hr : o = -1 := (aa HR).1 (aa HAL)
   subst hr
   clear g1
   go_upto_region 2 with fail
   refine Rg.bg 1 19 (Rg.pick [Rg.ai (.bool false)]) (az w _ wr) dm [] kr rfl (Rg.df.pick ⟨Rg.ae _, trivial⟩) (az.begin (aa HO))
    (ag (ry rfl aF aF rfl rfl)
    Rg.bf) ?_
   intro v1 V1 hG1 hv1 hne1
   simp only [Rg.puts, Act.put, tA]
   have e0 : v1 0 = .bool false := hv1 0 de
   simp only [e0]
   have hO := hG1.1
   clear HO
   have HO := hide hO
   clear hO hG1 hv1 hne1
   try clear e0
   go_upto_region 7 with fail
   refine Rg.bg 1 19 (Rg.pick [Rg.ai (.int .i64 (-1))]) (az w _ V1) dm [] kr rfl (Rg.df.pick ⟨Rg.ae _, trivial⟩) (az.begin (aa HO))
    (ag (ib rfl (Rg.jc _))
    Rg.bf) ?_
   intro v2 V2 hG2 hv2 hne2
   simp only [Rg.puts, Act.put, tA]
   have e0 : v2 0 = .int .i64 (-1) := hv2 0 de
   simp only [e0]
   have hO := hG2.1
   clear HO
   have HO := hide hO
   clear hO hG2 hv2 hne2
   try clear e0
   go_wp2_with fail
   exact yu Tryz.results204 rfl (aa HO).bel rfl
theorem bfb (f : Nat → Int) : ∃ o : Int, (((∀ j, j < 7 → -9 ≤ f j ∧ f j ≤ 9) → o = -1) ∧ (∀ k : Nat, k < 7 → (f k < -9 ∨ 9 < f k) → (∀ j, j < k → -9 ≤ f j ∧ f j ≤ 9) → o = (k : Int))) ∧ decide (0 ≤ o) = decide (¬ Ca f) := by
 by_cases h : Ca f
 ·
  exact ⟨-1, ⟨fun _ => rfl, fun k hk hb _ => by have := h k hk; omega⟩, by rw [decide_eq_false (fun hn : ¬ Ca f => hn h)]; rfl⟩
 ·
  have hex : ∃ k, k < 7 ∧ (f k < -9 ∨ 9 < f k) ∧ ∀ j, j < k → -9 ≤ f j ∧ f j ≤ 9 := by
   have key : ∀ n, n ≤ 7 → (∀ j, j < n → -9 ≤ f j ∧ f j ≤ 9) ∨ ∃ k, k < 7 ∧ (f k < -9 ∨ 9 < f k) ∧ ∀ j, j < k → -9 ≤ f j ∧ f j ≤ 9 := by
    intro n
    induction n with
    | zero => exact fun _ => .inl (by intro j hj; omega)
    | succ n ih =>
     intro hn
     rcases ih om with h1 | h1
     ·
      by_cases h2 : -9 ≤ f n ∧ f n ≤ 9
      ·
       exact .inl fun j hj => by
        rcases Nat.lt_succ_iff_lt_or_eq.1 hj with h3 | rfl
        ·
         exact h1 j h3
        ·
         exact h2
      ·
       exact .inr ⟨n, by omega, by omega, h1⟩
     ·
      exact .inr h1
   rcases key 7 om with h1 | h1
   ·
    exact absurd h1 h
   ·
    exact h1
  obtain ⟨k, hk, hb, ha⟩ := hex
  refine ⟨(k : Int), ⟨fun h1 => absurd h1 h, fun k' hk' hb' ha' => ?_⟩, by rw [decide_eq_true om, decide_eq_true h]⟩
  rcases Nat.lt_trichotomy k k' with h1 | h1 | h1
  ·
   have := ha' k h1; omega
  ·
   rw [h1]
  ·
   have := ha k' h1; omega
theorem ane {f : Nat → Int} {post : List jq} {TB : TypeId} {b0 : Nat} (c : Bool) (w : World) (hb : uo w b0 TB (.k (eK f) :: post)) (hc : decide (¬ Ca f) = c) :
  Calls Tryz.prog 168 #[.slice (some ⟨b0, 0, none⟩) 7 7, .func (.func 167) #[] #[]] w (ik (Rg.ai (.bool c)) w) := by
 obtain ⟨o, hr, hd⟩ := bfb f
 rw [hc] at hd
 have HB := hide hb
 have HR := hide hr
 have HC := hide hd
 clear hb hr hc hd
 go_enter Tryz.func168, Tryz.ntmps168
 go_upto_region 1 with fail
 have hO := (Own.nil w)
 have HO := hide hO
 clear hO
 go_upto_region 1 with fail
 refine Rg.bg 5 9 (Rg.pick [Rg.ai (.slice (some ⟨b0, 0, none⟩) 7 7), Rg.ai (.func (.func 167) #[] #[]), Rg.ai (.int .i64 o), Rg.ai (.bool c), Rg.ai (.bool c)]) (az w _ w) dm [] kr rfl (Rg.df.pick ⟨Rg.ae _, Rg.ae _, Rg.ae _, Rg.ae _, Rg.ae _, trivial⟩) (az.begin (aa HO))
  (ag (cz rfl aF)
  (ag (cz rfl aF)
  (ag (sc2 Tryz.func204 (aT 0) (aT 1) (fun W v0 v1 hG h0 h1 => by cases h0; cases h1; exact avw o W ((aa HB).below hG.bel) (aa HR)))
  (ag (bgz rfl (aT 2) (Rg.jc _) rfl (aa HC))
  (ag (ib rfl (aT 3))
  Rg.bf))))) ?_
 intro v1 V1 hG1 hv1 hne1
 simp only [Rg.puts, Act.put, tA]
 have e3 : v1 3 = .bool c := hv1 3 de
 have e4 : v1 4 = .bool c := hv1 4 de
 simp only [e3, e4]
 have hO := hG1.1
 clear HO
 have HO := hide hO
 clear hO hG1 hv1 hne1
 try clear e3 e4
 go_wp2_with fail
 exact yu Tryz.results168 rfl (aa HO).bel rfl
theorem Sa {f : Nat → Int} (d : Bool) (w : World) (u0 : Value) (h0 : au [.k (eK f)] w u0) (hd : decide (Ca f) = d) :
  Calls Tryz.prog 96 #[u0] w (ik (Rg.ai (.bool d)) w) := by
 obtain ⟨c, hc⟩ : ∃ c, decide (¬ Ca f) = c := ⟨_, rfl⟩
 have HC := hide hc
 have HD := hide (show (!c) = d by rw [← hc, ← hd, decide_not, Bool.not_not])
 clear hc hd
 have hu0 := bhz h0
 subst hu0
 go_enter Tryz.func96, Tryz.ntmps96
 go_upto_region 1 with fail
 have hO := (Own.push (T := 42) (ls := [.k (eK f)]) (Own.nil w) (eu.e rfl) (w.heap.size) rfl)
 generalize w.alloc (.cells #[.int .i64 (f 0), .int .i64 (f 1), .int .i64 (f 2), .int .i64 (f 3), .int .i64 (f 4), .int .i64 (f 5), .int .i64 (f 6)] 42) = W0 at *
 have HO := hide hO
 clear hO
 go_upto_region 2 with fail
 refine Rg.bg 5 8 (Rg.pick [Rg.ai (.slice (some ⟨w.heap.size, 0, none⟩) 7 7), Rg.ai (.func (.func 167) #[] #[]), Rg.ai (.bool c), Rg.ai (.bool d), Rg.ai (.bool d)]) (az w _ W0) dm [] kr rfl (Rg.df.pick ⟨Rg.ae _, Rg.ae _, Rg.ae _, Rg.ae _, Rg.ae _, trivial⟩) (az.begin (aa HO))
  (ag (asx (b := w.heap.size) (f := f) (post := []) (fun W h => az.box me0 h) rfl aF rfl)
  (ag (cz rfl aF)
  (ag (sc2 Tryz.func168 (aT 0) (aT 1) (fun W v0 v1 hG h0 h1 => by cases h0; cases h1; exact ane c W (az.box me0 hG) (aa HC)))
  (ag (uf rfl (aT 2) rfl (aa HD))
  (ag (ib rfl (aT 3))
  Rg.bf))))) ?_
 intro v1 V1 hG1 hv1 hne1
 simp only [Rg.puts, Act.put, tA]
 have e3 : v1 3 = .bool d := hv1 3 de
 have e4 : v1 4 = .bool d := hv1 4 de
 simp only [e3, e4]
 have hO := hG1.1
 clear HO
 have HO := hide hO
 clear hO hG1 hv1 hne1
 try clear e3 e4
 go_wp2_with fail
 exact yu Tryz.results96 rfl (aa HO).bel rfl
end Sb


namespace Sb
theorem Mg {B K : Nat} {z : Int} (hB : 1 < B) (h : Wd.Sz B K z) : ∀ n : Nat, Wd.Sz B (K * n + 1) (z ^ n)
 | 0 => by rw [Int.pow_zero]; exact Wd.Sz.of_le (by show 1 < B; omega) hB om
 | n + 1 => by
  have := (Mg hB h n).mul h
  rw [Int.pow_succ, Nat.mul_succ, Nat.add_right_comm]
  exact this
theorem acg (x : Rat) (m : Nat) : x ^ (m + 1) = x ^ m * x := Rat.pow_succ x m
theorem acf (x : Rat) : x ^ 0 = 1 := Rat.pow_zero x
theorem Jj (x : Rat) (m : Nat) : (x ^ m).num = x.num ^ m ∧ ((x ^ m).den : Int) = (x.den : Int) ^ m := ⟨rfl, Int.natCast_pow _ _⟩
theorem Sm.pow {K : Nat} {x : Rat} (h : Sm K x) (m : Nat) (hm : K * m + 1 ≤ 1000000) : Sm (K * m + 1) (x ^ m) :=
 ⟨⟨by rw [(Jj x m).1]; exact Mg qh h.1.1 m, by rw [(Jj x m).2]; exact Mg qh h.1.2 m⟩, hm⟩
theorem uw.pow {K : Nat} {x : Rat} (h : uw K x) (m : Nat) (hm : K * m + 1 ≤ 1000000) : uw (K * m + 1) (x ^ m) :=
 ⟨⟨by rw [(Jj x m).1]; exact Mg La h.1.1 m, by rw [(Jj x m).2]; exact Mg La h.1.2 m⟩, hm⟩
theorem atr {F : Nat} {vs : Array Value} {W : World} {a b : Rat} (e : a = b) (h : Calls Tryz.prog F vs W (ik (au [.r a]) W)) : Calls Tryz.prog F vs W (ik (au [.r b]) W) := e ▸ h
theorem blc {F : Nat} {vs : Array Value} {W : World} {a b : Int} (e : a = b) (h : Calls Tryz.prog F vs W (ik (au [.z a]) W)) : Calls Tryz.prog F vs W (ik (au [.z b]) W) := e ▸ h
theorem blb {W : World} {x : Rat} {v : Value} (h : au [.z x.num, .z (x.den : Int)] W v) : au [.q x] W v := by
 obtain ⟨s1, n1, A1, c1, l1, s2, n2, A2, c2, l2, rfl, f1, f2⟩ := Ni h
 exact ⟨_, rfl, eu.q f1 f2 rfl⟩
theorem bbl {w w' : World} {q : Rat} {e : Ending} (h : ik (au [.z q.num, .z (q.den : Int)]) w e w') : ik (au [.q q]) w e w' := by
 obtain ⟨u, h1, h2, h3⟩ := h
 exact ⟨u, h1, h2, blb h3⟩
theorem kle {K m k : Nat} (h : K * m + 1 ≤ 1000000) (hk : k < m) : K ≤ K * m + 1 := by
 have : K * 1 ≤ K * m := Nat.mul_le_mul_left K om
 omega
theorem arj {x : Int} {K m : Nat} (sx : Wd.Sz dz K x) (hK : K * m + 1 ≤ 1000000) (hm : m ≤ 1000000) (w : World) (u0 : Value) (h0 : au [.z x] w u0) :
  Calls Tryz.prog 139 #[u0, .int .i64 (m : Int)] w (ik (au [.z (x ^ m)]) w) := by
 have HS := hide (And.intro sx (And.intro hK hm))
 clear sx hK hm
 obtain ⟨Il, Cq, Bd, c0a, Az, rfl, f0a⟩ := aag h0
 go_enter Tryz.func139, Tryz.ntmps139
 go_upto_region 1 with fail
 have hO := (Own.push (T := 77) (ls := zZ) (Own.push (T := 77) (ls := [.z x]) (Own.nil w) (eu.z f0a rfl) (w.heap.size) rfl) (eu.below (by repeat (first | exact Below.refl _ _ | refine gm ?_ _)) (eu.vs w [.int .i64 0, .bool false, .slice none 0 0] rfl)) (w.heap.size + 1) (by simp only [World.size_alloc]))
 generalize (w.alloc (.cells #[.int .i64 Il, .bool Cq, .slice Bd (List.length Az) c0a] 77)).alloc (.cells #[.int .i64 0, .bool false, .slice none 0 0] 77) = W0 at *
 have HO := hide hO
 clear hO
 go_upto_region 1 with fail
 refine Rg.bg 2 15 (Rg.pick [au [.z (x ^ 0)], nk 77 zZ W0.heap.size]) (az w _ W0) dm [1] kr rfl (Rg.df.pick ⟨ay _, og _ _ _, trivial⟩) (az.begin (aa HO))
  (ag (sc1 Tryz.func137 (Rg.jc _) (fun W v0 hG h0 => by cases h0; exact blc (by rw [Int.pow_zero]) (bfk 1 om om W)))
  (ag (qd Ob rfl az.step az.size rfl (rq (by intro j hj; simp at hj; (repeat' (first | (rcases hj with rfl | hj))) <;> first | (subst hj; exact ⟨_, _, _, rfl⟩) | exact ⟨_, _, _, rfl⟩)))
  Rg.bf)) ?_
 intro v1 V1 hG1 hv1 hne1
 simp only [Rg.puts, Act.put, tA]
 obtain ⟨bng, e1, agr, hz1⟩ := (show nk 77 zZ W0.heap.size V1 (v1 1) from hv1 1 de)
 simp only [e1]
 have hO := hG1.1
 replace hO := Own.add (aa HO) hG1.2 agr hz1
 clear agr hz1
 refine ji hO 0 [] zZ [.z (x ^ 0)] [] rfl Em rfl (show au [.z (x ^ 0)] V1 (v1 0) from hv1 0 de) rfl rfl rfl ?_
 intro ui fu hk0
 replace hO := fu
 clear fu
 clear HO
 have HO := hide hO
 clear hO hG1 hv1 hne1 hk0
 try clear e1
 go_upto_region 2 with fail
 refine Rg.bg 2 15 (Rg.pick [Rg.ai (.int .i64 (m : Int)), Rg.ai (.int .i64 0)]) (az w _ ui) dm [] kr rfl (Rg.df.pick ⟨Rg.ae _, Rg.ae _, trivial⟩) (az.begin (aa HO))
  (ag (cz rfl aF)
  (ag (cz rfl (Rg.jc _))
  Rg.bf)) ?_
 intro v2 V2 hG2 hv2 hne2
 simp only [Rg.puts, Act.put, tA]
 have e0 : v2 0 = .int .i64 (m : Int) := hv2 0 de
 have e1 : v2 1 = .int .i64 0 := hv2 1 de
 simp only [e0, e1]
 have hO := hG2.1
 clear HO
 have HO := hide hO
 clear hO hG2 hv2 hne2
 try clear e0 e1
 go_wp2_with fail
 go_loopw [8] (fun vk wr => ∃ k : Nat, k ≤ m ∧ vk = .int .i64 ((k : Nat) : Int) ∧ Hid (Own w [(bng, 77, [.z (x ^ k)]), (w.heap.size + 1, 77, zZ), (w.heap.size, 77, [.z x])] wr)) (fun vk _ => m - (intOf vk).toNat)
 case atStart => exact ⟨0, by omega, rfl, HO⟩
 case round =>
  obtain ⟨k, hk, rfl, HO⟩ := hrel
  have HK := hide hk
  clear hk
  by_cases g1 : (k : Int) < (m : Int)
  ·
   have d1 : decide ((k : Int) < (m : Int)) = true := decide_eq_true g1
   have Bb := hide (show k < m by omega)
   go_upto_region 3 with fail
   refine Rg.bg 1 15 (Rg.pick [Rg.ai (.bool true)]) (az w _ wr) dm [] kr rfl (Rg.df.pick ⟨Rg.ae _, trivial⟩) (az.begin (aa HO))
    (ag (ry rfl aF aF rfl d1)
    Rg.bf) ?_
   intro v3 V3 hG3 hv3 ja
   simp only [Rg.puts, Act.put, tA]
   have e0 : v3 0 = .bool true := hv3 0 de
   simp only [e0]
   have hO := hG3.1
   clear HO
   have HO := hide hO
   clear hO hG3 hv3 ja
   try clear e0
   clear d1 g1
   go_upto_region 4 with fail
   refine Rg.bg 3 15 (Rg.pick [au [.z (x ^ k)], au [.z x], au [.z (x ^ (k + 1))]]) (az w _ V3) dm [] kr rfl (Rg.df.pick ⟨ay _, ay _, ay _, trivial⟩) (az.begin (aa HO))
    (ag (fw qp me0 aF [] [.z (x ^ k)] [])
    (ag (fw qp ru aF [] [.z x] [])
    (ag (sc2 Tryz.func147 (aT 0) (aT 1) (fun W v0 v1 hG h0 h1 => bfm (Pp (Mg qh (aa HS).1 k |>.mono qh (Nat.succ_le_succ (Nat.mul_le_mul_left K (aa HK)))) ((aa HS).1.mono qh (kle (aa HS).2.1 (aa Bb))) (by have := (aa HS).2.1; have := Jl; omega) (Int.pow_succ x k)) h0 h1))
    Rg.bf))) ?_
   intro v4 V4 hG4 hv4 mo
   simp only [Rg.puts, Act.put, tA]
   have hO := hG4.1
   refine ji hO 0 [] [.z (x ^ k)] [.z (x ^ (k + 1))] [] rfl Em rfl (show au [.z (x ^ (k + 1))] V4 (v4 2) from hv4 2 de) rfl rfl rfl ?_
   intro Ai fu hk0
   replace hO := fu
   clear fu
   clear HO
   have HO := hide hO
   clear hO hG4 hv4 mo hk0
   go_wp2_with fail
   go_roundw
   case rel =>
    exact ⟨k + 1, by have := aa Bb; omega, Np (aa Bb) (aa HS).2.2, HO⟩
   case measure =>
    have h1 := aa Bb
    have h2 := (aa HS).2.2
    clear HO
    rw [Lp h1 h2]
    exact measS h1
  ·
   have d1 : decide ((k : Int) < (m : Int)) = false := decide_eq_false g1
   obtain rfl : k = m := by have := aa HK; omega
   go_upto_region 3 with fail
   refine Rg.bg 1 15 (Rg.pick [Rg.ai (.bool false)]) (az w _ wr) dm [] kr rfl (Rg.df.pick ⟨Rg.ae _, trivial⟩) (az.begin (aa HO))
    (ag (ry rfl aF aF rfl d1)
    Rg.bf) ?_
   intro v3 V3 hG3 hv3 ja
   simp only [Rg.puts, Act.put, tA]
   have e0 : v3 0 = .bool false := hv3 0 de
   simp only [e0]
   have hO := hG3.1
   clear HO
   have HO := hide hO
   clear hO hG3 hv3 ja
   try clear e0
   clear d1 g1
   go_upto_region 6 with fail
   refine Rg.bg 1 15 (Rg.pick [au [.z (x ^ k)]]) (az w _ V3) dm [] kr rfl (Rg.df.pick ⟨ay _, trivial⟩) (az.begin (aa HO))
    (ag (fw qp me0 aF [] [.z (x ^ k)] [])
    Rg.bf) ?_
   intro v4 V4 hG4 hv4 mo
   simp only [Rg.puts, Act.put, tA]
   have hO := hG4.1
   refine ji hO 1 [] zZ [.z (x ^ k)] [] rfl Em rfl (show au [.z (x ^ k)] V4 (v4 0) from hv4 0 de) rfl rfl rfl ?_
   intro Ai fu hk0
   replace hO := fu
   clear fu
   clear HO
   have HO := hide hO
   clear hO hG4 hv4 mo hk0
   go_wp2_with fail
   exact Am Tryz.results139 bab rfl (aa HO) mf rfl rfl
theorem ape {p q : Int} {K m : Nat} (sp : Wd.Sz dz K p) (sq : Wd.Sz dz K q) (hK : K * m + 1 ≤ 1000000) (hm : m ≤ 1000000) (w : World) (u0 : Value) (h0 : au [.z p, .z q] w u0) :
  Calls Tryz.prog 68 #[u0, .int .i64 (m : Int)] w (ik (au [.z (p ^ m), .z (q ^ m)]) w) := by
 have HS := hide (And.intro sp (And.intro sq (And.intro hK hm)))
 clear sp sq hK hm
 obtain ⟨Il, Cq, Bd, c0a, Az, Ke, Kj, Gw, c0b, Gq, rfl, f0a, Gt⟩ := Ni h0
 go_enter Tryz.func68, Tryz.ntmps68
 go_upto_region 1 with fail
 have hO := (Own.push (T := 79) (ls := zQ) (Own.push (T := 79) (ls := [.z p, .z q]) (Own.nil w) (eu.z f0a (eu.z Gt rfl)) (w.heap.size) rfl) (eu.below (by repeat (first | exact Below.refl _ _ | refine gm ?_ _)) (eu.vs w [.int .i64 0, .bool false, .slice none 0 0, .int .i64 0, .bool false, .slice none 0 0] rfl)) (w.heap.size + 1) (by simp only [World.size_alloc]))
 generalize (w.alloc (.cells #[.int .i64 Il, .bool Cq, .slice Bd (List.length Az) c0a, .int .i64 Ke, .bool Kj, .slice Gw (List.length Gq) c0b] 79)).alloc (.cells #[.int .i64 0, .bool false, .slice none 0 0, .int .i64 0, .bool false, .slice none 0 0] 79) = W0 at *
 have HO := hide hO
 clear hO
 have d1 : decide ((m : Int) < 0) = false := decide_eq_false om
 go_upto_region 1 with fail
 refine Rg.bg 2 21 (Rg.pick [Rg.ai (.int .i64 (m : Int)), Rg.ai (.bool false)]) (az w _ W0) dm [] kr rfl (Rg.df.pick ⟨Rg.ae _, Rg.ae _, trivial⟩) (az.begin (aa HO))
  (ag (cz rfl aF)
  (ag (ry rfl (aT 0) (Rg.jc _) rfl d1)
  Rg.bf)) ?_
 intro v1 V1 hG1 hv1 hne1
 simp only [Rg.puts, Act.put, tA]
 have e1 : v1 1 = .bool false := hv1 1 de
 simp only [e1]
 have hO := hG1.1
 clear HO
 have HO := hide hO
 clear hO hG1 hv1 hne1
 try clear e1
 clear d1
 go_upto_region 3 with fail
 refine Rg.region 9 21 (Rg.pick [Rg.ai (.pointer (some ⟨w.heap.size, 0, none⟩)), au [.z p], Rg.ai (.int .i64 (m : Int)), au [.z (p ^ m)], Rg.ai (.pointer (some ⟨w.heap.size, 3, none⟩)), au [.z q], Rg.ai (.int .i64 (m : Int)), au [.z (q ^ m)], au [.z (p ^ m), .z (q ^ m)]]) (az w _ V1) dm [] kr kr rfl (Rg.df.pick ⟨Rg.ae _, ay _, Rg.ae _, ay _, Rg.ae _, ay _, Rg.ae _, ay _, ay _, trivial⟩) (az.start (aa HO))
  (ag (Fe (b := w.heap.size) (off := 0) rfl aF rfl rfl)
  (ag (fw qp mf (aT 0) [] [.z p] [.z q])
  (ag (cz rfl aF)
  (ag (sc2 Tryz.func139 (aT 1) (aT 2) (fun W v0 v1 hG h0 h1 => by cases h1; exact arj (aa HS).1 (aa HS).2.2.1 (aa HS).2.2.2 W _ h0))
  (ag (Bl (b := w.heap.size) (off := 0) rfl aF rfl rfl)
  (ag (fw qp mf (aT 4) [.z p] [.z q] [])
  (ag (cz rfl aF)
  (ag (sc2 Tryz.func139 (aT 5) (aT 6) (fun W v0 v1 hG h0 h1 => by cases h1; exact arj (aa HS).2.1 (aa HS).2.2.1 (aa HS).2.2.2 W _ h0))
  (ag (Bv abn rfl (aT 3) (aT 7) rfl rfl rfl)
  Rg.bf))))))))) ?_
 intro v2 V2 hG2 hv2 hne2
 simp only [Rg.puts, Act.put, tA]
 have hO := hG2.1
 refine ji hO 0 [] zQ [.z (p ^ m), .z (q ^ m)] [] rfl Ht rfl (show au [.z (p ^ m), .z (q ^ m)] V2 (v2 8) from hv2 8 de) rfl rfl rfl ?_
 intro Cc fu hk0
 replace hO := fu
 clear fu
 clear HO
 have HO := hide hO
 clear hO hG2 hv2 hne2 hk0
 go_wp2_with fail
 exact Am Tryz.results68 Mk rfl (aa HO) me0 rfl rfl
theorem axy {x a : Rat} {K m : Nat} (e : a = x ^ m) (sx : Sm K x) (hK : K * m + 1 ≤ 1000000) (hm : m ≤ 1000000) (w : World) (u0 : Value) (h0 : au [.q x] w u0) :
  Calls Tryz.prog 68 #[u0, .int .i64 (m : Int)] w (ik (au [.q a]) w) := by
 subst e
 refine (ape (m := m) sx.1.1 sx.1.2 hK hm w u0 (blm h0)).mono fun e w' h => bbl ?_
 rw [(Jj x m).1, (Jj x m).2]
 exact h
theorem blo {K m k : Nat} (h : K * m + 1 ≤ 1000000) (hk : k ≤ m) : K * k + 1 ≤ 1000000 := by
 have : K * k ≤ K * m := Nat.mul_le_mul_left K hk
 omega
theorem aob {x : Rat} {K m : Nat} (sx : uw K x) (hK : K * m + 1 ≤ 1000000) (hm : m ≤ 1000000) (w : World) (u0 : Value) (h0 : au [.r x] w u0) :
  Calls Tryz.prog 71 #[u0, .int .i64 (m : Int)] w (ik (au [.r (x ^ m)]) w) := by
 have HS := hide (And.intro sx (And.intro hK hm))
 clear sx hK hm
 obtain ⟨Bd, c0a, Az, Pt, B0a, Zz, Zh, Cq, rfl, f0a⟩ := Ou h0
 go_enter Tryz.func71, Tryz.ntmps71
 go_upto_region 1 with fail
 have hO := (Own.push (T := 68) (ls := zX) (Own.push (T := 68) (ls := [.r x]) (Own.nil w) (eu.r f0a rfl) (w.heap.size) rfl) (eu.below (by repeat (first | exact Below.refl _ _ | refine gm ?_ _)) (eu.vs w [.slice none 0 0, .bool false, .slice none 0 0, .bool false] rfl)) (w.heap.size + 1) (by simp only [World.size_alloc]))
 generalize (w.alloc (.cells #[.slice Bd (List.length Az) c0a, .bool Pt, .slice B0a (List.length Zh) Zz, .bool Cq] 68)).alloc (.cells #[.slice none 0 0, .bool false, .slice none 0 0, .bool false] 68) = W0 at *
 have HO := hide hO
 clear hO
 have d1 : decide ((m : Int) < 0) = false := decide_eq_false om
 go_upto_region 1 with fail
 refine Rg.bg 2 24 (Rg.pick [Rg.ai (.int .i64 (m : Int)), Rg.ai (.bool false)]) (az w _ W0) dm [] kr rfl (Rg.df.pick ⟨Rg.ae _, Rg.ae _, trivial⟩) (az.begin (aa HO))
  (ag (cz rfl aF)
  (ag (ry rfl (aT 0) (Rg.jc _) rfl d1)
  Rg.bf)) ?_
 intro v1 V1 hG1 hv1 hne1
 simp only [Rg.puts, Act.put, tA]
 have e1 : v1 1 = .bool false := hv1 1 de
 simp only [e1]
 have hO := hG1.1
 clear HO
 have HO := hide hO
 clear hO hG1 hv1 hne1
 try clear e1
 clear d1
 go_upto_region 3 with fail
 refine Rg.bg 2 24 (Rg.pick [au [.r (x ^ 0)], nk 68 zX V1.heap.size]) (az w _ V1) dm [1] kr rfl (Rg.df.pick ⟨ay _, og _ _ _, trivial⟩) (az.begin (aa HO))
  (ag (sc1 Tryz.func95 (Rg.jc _) (fun W v0 hG h0 => by cases h0; exact atr (acf x).symm (awx 1 om om W)))
  (ag (qd bhi rfl az.step az.size rfl (rq (by intro j hj; simp at hj; (repeat' (first | (rcases hj with rfl | hj))) <;> first | (subst hj; exact ⟨_, _, _, rfl⟩) | exact ⟨_, _, _, rfl⟩)))
  Rg.bf)) ?_
 intro v2 V2 hG2 hv2 hne2
 simp only [Rg.puts, Act.put, tA]
 obtain ⟨bnc, e1, agr, hz1⟩ := (show nk 68 zX V1.heap.size V2 (v2 1) from hv2 1 de)
 simp only [e1]
 have hO := hG2.1
 replace hO := Own.add (aa HO) hG2.2 agr hz1
 clear agr hz1
 refine ji hO 0 [] zX [.r (x ^ 0)] [] rfl Gd rfl (show au [.r (x ^ 0)] V2 (v2 0) from hv2 0 de) rfl rfl rfl ?_
 intro Cc fu hk0
 replace hO := fu
 clear fu
 clear HO
 have HO := hide hO
 clear hO hG2 hv2 hne2 hk0
 try clear e1
 go_upto_region 4 with fail
 refine Rg.bg 1 24 (Rg.pick [Rg.ai (.int .i64 0)]) (az w _ Cc) dm [] kr rfl (Rg.df.pick ⟨Rg.ae _, trivial⟩) (az.begin (aa HO))
  (ag (ib rfl (Rg.jc _))
  Rg.bf) ?_
 intro v3 V3 hG3 hv3 ja
 simp only [Rg.puts, Act.put, tA]
 have e0 : v3 0 = .int .i64 0 := hv3 0 de
 simp only [e0]
 have hO := hG3.1
 clear HO
 have HO := hide hO
 clear hO hG3 hv3 ja
 try clear e0
 go_wp2_with fail
 go_loopw [6] (fun vk wr => ∃ k : Nat, k ≤ m ∧ vk = .int .i64 ((k : Nat) : Int) ∧ Hid (Own w [(bnc, 68, [.r (x ^ k)]), (w.heap.size + 1, 68, zX), (w.heap.size, 68, [.r x])] wr)) (fun vk _ => m - (intOf vk).toNat)
 case atStart => exact ⟨0, by omega, rfl, HO⟩
 case round =>
  obtain ⟨k, hk, rfl, HO⟩ := hrel
  have HK := hide hk
  clear hk
  by_cases g1 : (k : Int) < (m : Int)
  ·
   have d1 : decide ((k : Int) < (m : Int)) = true := decide_eq_true g1
   have Bb := hide (show k < m by omega)
   go_upto_region 5 with fail
   refine Rg.bg 3 24 (Rg.pick [Rg.ai (.int .i64 (k : Int)), Rg.ai (.int .i64 (m : Int)), Rg.ai (.bool true)]) (az w _ wr) dm [] kr rfl (Rg.df.pick ⟨Rg.ae _, Rg.ae _, Rg.ae _, trivial⟩) (az.begin (aa HO))
    (ag (cz rfl aF)
    (ag (cz rfl aF)
    (ag (ry rfl (aT 0) (aT 1) rfl d1)
    Rg.bf))) ?_
   intro v4 V4 hG4 hv4 mo
   simp only [Rg.puts, Act.put, tA]
   have e2 : v4 2 = .bool true := hv4 2 de
   simp only [e2]
   have hO := hG4.1
   clear HO
   have HO := hide hO
   clear hO hG4 hv4 mo
   try clear e2
   clear d1 g1
   go_upto_region 7 with fail
   refine Rg.bg 3 24 (Rg.pick [au [.r (x ^ k)], au [.r x], au [.r (x ^ (k + 1))]]) (az w _ V4) dm [] kr rfl (Rg.df.pick ⟨ay _, ay _, ay _, trivial⟩) (az.begin (aa HO))
    (ag (fw Bw me0 aF [] [.r (x ^ k)] [])
    (ag (fw Bw ru aF [] [.r x] [])
    (ag (sc2 Tryz.func62 (aT 0) (aT 1) (fun W v0 v1 hG h0 h1 => atr (acg x k).symm (Yy (K := K * m + 1) (uw.mono (uw.pow (aa HS).1 k (blo (aa HS).2.1 (aa HK))) (Nat.succ_le_succ (Nat.mul_le_mul_left K (aa HK))) (aa HS).2.1) (uw.mono (aa HS).1 (kle (aa HS).2.1 (aa Bb)) (aa HS).2.1) h0 h1)))
    Rg.bf))) ?_
   intro v5 V5 wy hv5 hne5
   simp only [Rg.puts, Act.put, tA]
   have hO := wy.1
   refine ji hO 0 [] [.r (x ^ k)] [.r (x ^ (k + 1))] [] rfl Gd rfl (show au [.r (x ^ (k + 1))] V5 (v5 2) from hv5 2 de) rfl rfl rfl ?_
   intro Er fu hk0
   replace hO := fu
   clear fu
   clear HO
   have HO := hide hO
   clear hO wy hv5 hne5 hk0
   go_wp2_with fail
   go_roundw
   case rel =>
    exact ⟨k + 1, by have := aa Bb; omega, Np (aa Bb) (aa HS).2.2, HO⟩
   case measure =>
    have h1 := aa Bb
    have h2 := (aa HS).2.2
    clear HO
    rw [Lp h1 h2]
    exact measS h1
  ·
   have d1 : decide ((k : Int) < (m : Int)) = false := decide_eq_false g1
   obtain rfl : k = m := by have := aa HK; omega
   go_upto_region 5 with fail
   refine Rg.bg 3 24 (Rg.pick [Rg.ai (.int .i64 (k : Int)), Rg.ai (.int .i64 (k : Int)), Rg.ai (.bool false)]) (az w _ wr) dm [] kr rfl (Rg.df.pick ⟨Rg.ae _, Rg.ae _, Rg.ae _, trivial⟩) (az.begin (aa HO))
    (ag (cz rfl aF)
    (ag (cz rfl aF)
    (ag (ry rfl (aT 0) (aT 1) rfl d1)
    Rg.bf))) ?_
   intro v4 V4 hG4 hv4 mo
   simp only [Rg.puts, Act.put, tA]
   have e2 : v4 2 = .bool false := hv4 2 de
   simp only [e2]
   have hO := hG4.1
   clear HO
   have HO := hide hO
   clear hO hG4 hv4 mo
   try clear e2
   clear d1 g1
   go_upto_region 8 with fail
   refine Rg.bg 1 24 (Rg.pick [au [.r (x ^ k)]]) (az w _ V4) dm [] kr rfl (Rg.df.pick ⟨ay _, trivial⟩) (az.begin (aa HO))
    (ag (fw Bw me0 aF [] [.r (x ^ k)] [])
    Rg.bf) ?_
   intro v5 V5 wy hv5 hne5
   simp only [Rg.puts, Act.put, tA]
   have hO := wy.1
   refine ji hO 1 [] zX [.r (x ^ k)] [] rfl Gd rfl (show au [.r (x ^ k)] V5 (v5 0) from hv5 0 de) rfl rfl rfl ?_
   intro Er fu hk0
   replace hO := fu
   clear fu
   clear HO
   have HO := hide hO
   clear hO wy hv5 hne5 hk0
   go_wp2_with fail
   exact Am Tryz.results71 Mj rfl (aa HO) mf rfl rfl
theorem aww {x a : Rat} {K m : Nat} (e : a = x ^ m) (sx : uw K x) (hK : K * m + 1 ≤ 1000000) (hm : m ≤ 1000000) (w : World) (u0 : Value) (h0 : au [.r x] w u0) : Calls Tryz.prog 71 #[u0, .int .i64 (m : Int)] w (ik (au [.r a]) w) := e ▸ aob sx hK hm w u0 h0
end Sb


namespace Sb
theorem atd {ρ : Operand → Value} {w : World} {d : Option Tmp} {x : Operand} {m : Nat} {tb : TypeId} {ty : TypeId} {pos : String} {af : Array Edge} {gd : Option (Nat × Bool)} (hm : m ≤ 1000000) (h : ρ x = .int .i64 (-(m : Int))) :
  (execOp ρ { dst := d, op := .unOp .neg 3 x, type := ty, pos := pos, after := af, guard := gd }).run Tryz.prog w = .ok (.value (.int .i64 (m : Int))) w := by
 have hw : wrap64 (-(-(m : Int))) = (m : Int) := by rw [Int.neg_neg]; exact IntWalk.wrap64_in _ om
 rw [Int.neg_neg] at hw
 simp only [execOp, h]
 have hw2 : IntKind.i64.wrap (m : Int) = (m : Int) := IntWalk.i64_in _ om
 simp [go_sem, Tryz.underlying3, hw, hw2]
theorem aop {Q : Exit → Act → World → Prop} {l : List Oper} {n : Nat} {T : Nat → World → Value → Prop} {G : World → Prop} {al : List Nat} {a0 : Act} {k d : Nat} {ty : TypeId} {pos : String} {af : Array Edge} {gd : Option (Nat × Bool)} {x : Operand} {m : Nat} (hm : m ≤ 1000000) (hal : al.contains k = false) (hx : Rg.iq l n T a0 k x (Rg.ai (.int .i64 (-(m : Int))))) (hT : T k = Rg.ai (.int .i64 (m : Int))) :
  Rg.Step Tryz.prog Q l n T G dm al a0 k { dst := some d, op := .unOp .neg 3 x, type := ty, pos := pos, after := af, guard := gd } := by
 intro a w hG hO hN
 exact jm (P := Tryz.prog) (atd (tb := 0) hm (hx a w hO hN)) ⟨_, rfl, hG, Below.refl _ _, by rw [hT]; rfl, fun h => by rw [hal] at h; cases h⟩
noncomputable def Ae (x : Rat) (k : Int) : Rat := if k < 0 then x⁻¹ ^ (-k).toNat else x ^ k.toNat
theorem auh {x : Rat} (h : 0 < x) : 0 < x⁻¹ := Rat.inv_pos.2 h
theorem Xj {x : Rat} (h : 0 < x) : ∀ m : Nat, 0 < x ^ m
 | 0 => by rw [acf]; decide
 | m + 1 => by rw [acg]; exact Rat.mul_pos (Xj h m) h
theorem Xk {x : Rat} (h : 0 < x) (k : Int) : 0 < Ae x k := by
 unfold Ae
 split
 ·
  exact Xj (auh h) _
 ·
  exact Xj h _
theorem aly {x : Rat} (h : 0 < x) : x.num ≠ 0 := fun e => by
 have h2 : x = 0 := by rw [← Wd.azs x, e]; exact Rat.zero_divInt _
 rw [h2] at h
 exact absurd h de
theorem Sm.Ae {K : Nat} {x : Rat} (h : Sm K x) (h0 : x.num ≠ 0) {k : Int} {b : Nat} (hk : -(b : Int) ≤ k ∧ k ≤ b) (hm : K * b + 1 ≤ 1000000) : Sm (K * b + 1) (Sb.Ae x k) := by
 have le : ∀ j : Nat, j ≤ b → K * j + 1 ≤ K * b + 1 := fun j hj => Nat.succ_le_succ (Nat.mul_le_mul_left K hj)
 unfold Sb.Ae
 split
 ·
  exact ((h.inv h0).pow _ (Nat.le_trans (le _ om) hm)).mono (le _ om) hm
 ·
  exact (h.pow _ (Nat.le_trans (le _ om) hm)).mono (le _ om) hm
theorem uw.Ae {K : Nat} {x : Rat} (h : uw K x) (h0 : x.num ≠ 0) {k : Int} {b : Nat} (hk : -(b : Int) ≤ k ∧ k ≤ b) (hm : K * b + 1 ≤ 1000000) : uw (K * b + 1) (Sb.Ae x k) := by
 have le : ∀ j : Nat, j ≤ b → K * j + 1 ≤ K * b + 1 := fun j hj => Nat.succ_le_succ (Nat.mul_le_mul_left K hj)
 unfold Sb.Ae
 split
 ·
  exact uw.mono ((h.inv h0).pow _ (Nat.le_trans (le _ om) hm)) (le _ om) hm
 ·
  exact uw.mono (h.pow _ (Nat.le_trans (le _ om) hm)) (le _ om) hm
theorem aja {x a : Rat} {K m : Nat} (sx : Sm K x) (Uq : x.num ≠ 0) (h1m : 0 < m) (hK : K * m + 1 ≤ 1000000) (hm : m ≤ 1000000) (e : a = x⁻¹ ^ m) (w : World) (u0 : Value) (h0 : au [.q x] w u0) :
  Calls Tryz.prog 68 #[u0, .int .i64 (-(m : Int))] w (ik (au [.q a]) w) := by
 have HS := hide (And.intro sx (And.intro Uq (And.intro h1m (And.intro hK (And.intro hm e)))))
 clear sx Uq h1m hK hm e
 obtain ⟨Il, Cq, Bd, c0a, Az, Ke, Kj, Gw, c0b, Gq, rfl, f0a, Gt⟩ := Ha h0
 go_enter Tryz.func68, Tryz.ntmps68
 go_upto_region 1 with fail
 have hO := (Own.push (T := 79) (ls := zQ) (Own.push (T := 79) (ls := [.q x]) (Own.nil w) (eu.q f0a Gt rfl) (w.heap.size) rfl) (eu.below (by repeat (first | exact Below.refl _ _ | refine gm ?_ _)) (eu.vs w [.int .i64 0, .bool false, .slice none 0 0, .int .i64 0, .bool false, .slice none 0 0] rfl)) (w.heap.size + 1) (by simp only [World.size_alloc]))
 generalize (w.alloc (.cells #[.int .i64 Il, .bool Cq, .slice Bd (List.length Az) c0a, .int .i64 Ke, .bool Kj, .slice Gw (List.length Gq) c0b] 79)).alloc (.cells #[.int .i64 0, .bool false, .slice none 0 0, .int .i64 0, .bool false, .slice none 0 0] 79) = W0 at *
 have HO := hide hO
 clear hO
 have d1 : decide (-(m : Int) < 0) = true := decide_eq_true (by have := (aa HS).2.2.1; omega)
 go_upto_region 1 with fail
 refine Rg.bg 2 21 (Rg.pick [Rg.ai (.int .i64 (-(m : Int))), Rg.ai (.bool true)]) (az w _ W0) dm [] kr rfl (Rg.df.pick ⟨Rg.ae _, Rg.ae _, trivial⟩) (az.begin (aa HO))
  (ag (cz rfl aF)
  (ag (ry rfl (aT 0) (Rg.jc _) rfl d1)
  Rg.bf)) ?_
 intro v1 V1 hG1 hv1 hne1
 simp only [Rg.puts, Act.put, tA]
 have e1 : v1 1 = .bool true := hv1 1 de
 simp only [e1]
 have hO := hG1.1
 clear HO
 have HO := hide hO
 clear hO hG1 hv1 hne1
 try clear e1
 clear d1
 go_upto_region 2 with fail
 refine Rg.bg 5 21 (Rg.pick [au [.q x], au [.q (x⁻¹)], Rg.ai (.int .i64 (-(m : Int))), Rg.ai (.int .i64 (m : Int)), au [.q a]]) (az w _ V1) dm [] kr rfl (Rg.df.pick ⟨ay _, ay _, Rg.ae _, Rg.ae _, ay _, trivial⟩) (az.begin (aa HO))
  (ag (fw Gp mf aF [] [.q x] [])
  (ag (sc1 Tryz.func94 (aT 0) (fun W v0 hG h0 => bhu (aa HS).2.1 h0))
  (ag (cz rfl aF)
  (ag (aop (aa HS).2.2.2.2.1 rfl (aT 2) rfl)
  (ag (sc2 Tryz.func68 (aT 1) (aT 3) (fun W v0 v1 hG h0 h1 => by cases h1; exact axy (aa HS).2.2.2.2.2 (Sm.inv (aa HS).1 (aa HS).2.1) (aa HS).2.2.2.1 (aa HS).2.2.2.2.1 W _ h0))
  Rg.bf))))) ?_
 intro v2 V2 hG2 hv2 hne2
 simp only [Rg.puts, Act.put, tA]
 have hO := hG2.1
 refine ji hO 0 [] zQ [.q a] [] rfl Ht rfl (show au [.q a] V2 (v2 4) from hv2 4 de) rfl rfl rfl ?_
 intro Cc fu hk0
 replace hO := fu
 clear fu
 clear HO
 have HO := hide hO
 clear hO hG2 hv2 hne2 hk0
 go_wp2_with fail
 exact Am Tryz.results68 Mk rfl (aa HO) me0 rfl rfl
theorem ahr {x : Rat} {K b : Nat} {k : Int} (sx : Sm K x) (Uq : x.num ≠ 0) (hk : -(b : Int) ≤ k ∧ k ≤ b) (hK : K * b + 1 ≤ 1000000) (hb : b ≤ 1000000) (w : World) (u0 : Value) (h0 : au [.q x] w u0) :
  Calls Tryz.prog 68 #[u0, .int .i64 k] w (ik (au [.q (Ae x k)]) w) := by
 have le : ∀ j : Nat, j ≤ b → K * j + 1 ≤ 1000000 := fun j hj => Nat.le_trans (Nat.succ_le_succ (Nat.mul_le_mul_left K hj)) hK
 unfold Ae
 split
 ·
  rename_i h
  have e : k = -(((-k).toNat : Nat) : Int) := by omega
  generalize (-k).toNat = m at *
  subst e
  exact aja sx Uq om (le _ om) om rfl w u0 h0
 ·
  rename_i h
  have e : k = ((k.toNat : Nat) : Int) := by omega
  generalize k.toNat = m at *
  subst e
  exact axy rfl sx (le _ om) om w u0 h0
theorem aiq {x a : Rat} {K m : Nat} (sx : uw (K + 1) x) (Uq : x.num ≠ 0) (h1m : 0 < m) (hK : (K + 1) * m + 1 ≤ 1000000) (hm : m ≤ 1000000) (e : a = x⁻¹ ^ m) (w : World) (u0 : Value) (h0 : au [.r x] w u0) :
  Calls Tryz.prog 71 #[u0, .int .i64 (-(m : Int))] w (ik (au [.r a]) w) := by
 have HS := hide (And.intro sx (And.intro Uq (And.intro h1m (And.intro hK (And.intro hm e)))))
 clear sx Uq h1m hK hm e
 obtain ⟨Bd, c0a, Az, Pt, B0a, Zz, Zh, Cq, rfl, f0a⟩ := Ou h0
 go_enter Tryz.func71, Tryz.ntmps71
 go_upto_region 1 with fail
 have hO := (Own.push (T := 68) (ls := zX) (Own.push (T := 68) (ls := [.r x]) (Own.nil w) (eu.r f0a rfl) (w.heap.size) rfl) (eu.below (by repeat (first | exact Below.refl _ _ | refine gm ?_ _)) (eu.vs w [.slice none 0 0, .bool false, .slice none 0 0, .bool false] rfl)) (w.heap.size + 1) (by simp only [World.size_alloc]))
 generalize (w.alloc (.cells #[.slice Bd (List.length Az) c0a, .bool Pt, .slice B0a (List.length Zh) Zz, .bool Cq] 68)).alloc (.cells #[.slice none 0 0, .bool false, .slice none 0 0, .bool false] 68) = W0 at *
 have HO := hide hO
 clear hO
 have d1 : decide (-(m : Int) < 0) = true := decide_eq_true (by have := (aa HS).2.2.1; omega)
 go_upto_region 1 with fail
 refine Rg.bg 2 24 (Rg.pick [Rg.ai (.int .i64 (-(m : Int))), Rg.ai (.bool true)]) (az w _ W0) dm [] kr rfl (Rg.df.pick ⟨Rg.ae _, Rg.ae _, trivial⟩) (az.begin (aa HO))
  (ag (cz rfl aF)
  (ag (ry rfl (aT 0) (Rg.jc _) rfl d1)
  Rg.bf)) ?_
 intro v1 V1 hG1 hv1 hne1
 simp only [Rg.puts, Act.put, tA]
 have e1 : v1 1 = .bool true := hv1 1 de
 simp only [e1]
 have hO := hG1.1
 clear HO
 have HO := hide hO
 clear hO hG1 hv1 hne1
 try clear e1
 clear d1
 go_upto_region 2 with fail
 refine Rg.bg 5 24 (Rg.pick [au [.r x], au [.r (x⁻¹)], Rg.ai (.int .i64 (-(m : Int))), Rg.ai (.int .i64 (m : Int)), au [.r a]]) (az w _ V1) dm [] kr rfl (Rg.df.pick ⟨ay _, ay _, Rg.ae _, Rg.ae _, ay _, trivial⟩) (az.begin (aa HO))
  (ag (fw Bw mf aF [] [.r x] [])
  (ag (sc1 Tryz.func90 (aT 0) (fun W v0 hG h0 => adp (aa HS).1 (aa HS).2.1 h0))
  (ag (cz rfl aF)
  (ag (aop (aa HS).2.2.2.2.1 rfl (aT 2) rfl)
  (ag (sc2 Tryz.func71 (aT 1) (aT 3) (fun W v0 v1 hG h0 h1 => by cases h1; exact aww (aa HS).2.2.2.2.2 (uw.inv (aa HS).1 (aa HS).2.1) (aa HS).2.2.2.1 (aa HS).2.2.2.2.1 W _ h0))
  Rg.bf))))) ?_
 intro v2 V2 hG2 hv2 hne2
 simp only [Rg.puts, Act.put, tA]
 have hO := hG2.1
 refine ji hO 0 [] zX [.r a] [] rfl Gd rfl (show au [.r a] V2 (v2 4) from hv2 4 de) rfl rfl rfl ?_
 intro Cc fu hk0
 replace hO := fu
 clear fu
 clear HO
 have HO := hide hO
 clear hO hG2 hv2 hne2 hk0
 go_wp2_with fail
 exact Am Tryz.results71 Mj rfl (aa HO) me0 rfl rfl
theorem aez {x : Rat} {K b : Nat} {k : Int} (sx : uw (K + 1) x) (Uq : x.num ≠ 0) (hk : -(b : Int) ≤ k ∧ k ≤ b) (hK : (K + 1) * b + 1 ≤ 1000000) (hb : b ≤ 1000000) (w : World) (u0 : Value) (h0 : au [.r x] w u0) :
  Calls Tryz.prog 71 #[u0, .int .i64 k] w (ik (au [.r (Ae x k)]) w) := by
 have le : ∀ j : Nat, j ≤ b → (K + 1) * j + 1 ≤ 1000000 := fun j hj => Nat.le_trans (Nat.succ_le_succ (Nat.mul_le_mul_left (K + 1) hj)) hK
 unfold Ae
 split
 ·
  rename_i h
  have e : k = -(((-k).toNat : Nat) : Int) := by omega
  generalize (-k).toNat = m at *
  subst e
  exact aiq sx Uq om (le _ om) om rfl w u0 h0
 ·
  rename_i h
  have e : k = ((k.toNat : Nat) : Int) := by omega
  generalize k.toNat = m at *
  subst e
  exact aww rfl sx (le _ om) om w u0 h0
end Sb

end Go.Proofs.YtfgeaakhlcaibaaGreatDoor
