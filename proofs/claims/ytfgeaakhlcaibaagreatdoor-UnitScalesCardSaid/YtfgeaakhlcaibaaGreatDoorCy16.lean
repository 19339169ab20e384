/- Texts beneath a law of layer 1. -/
import Derived.Test.YtfgeaakhlcaibaaGreatDoorCy15
import Derived.Laws.Concat
import Derived.Shelf.Strings.SplitCore
import Derived.Lib.SplitLaws
import Derived.OwnWalk
set_option maxRecDepth 100000
set_option maxHeartbeats 16000000
namespace Go.Proofs.YtfgeaakhlcaibaaGreatDoor
open Go.RowKit

theorem Zk {w W : World} {B b : Nat} {z x : Int} {s2 : Int} {cu : Bool} {A2 : Option Addr} {c2 : Nat} {l2 : List Nat} (hq : Dn W b z) (hv : fq W s2 cu A2 c2 l2 x) (hb : Below B w W) (hB : B ≤ b) (hBW : B ≤ W.heap.size) :
  Dn (((W.setCell ⟨b, 0, none⟩ (.int .i64 s2)).setCell ⟨b, 1, none⟩ (.bool cu)).setCell ⟨b, 2, none⟩ (.slice A2 l2.length c2)) b x ∧ Below B w (((W.setCell ⟨b, 0, none⟩ (.int .i64 s2)).setCell ⟨b, 1, none⟩ (.bool cu)).setCell ⟨b, 2, none⟩ (.slice A2 l2.length c2)) := by
 obtain ⟨s1, cz, A1, c1, l1, h1, h2⟩ := hq
 have hg := ik W b (.int .i64 s2) (.bool cu) (.slice A2 l2.length c2)
 exact ⟨⟨_, _, _, _, _, Yf h1, hv.upto h1 (si _ _ _ _ _) hg⟩, hb.grown hg hBW (fun k hk => by injection hk with hk; omega)⟩
theorem Wd.aoe {B K : Nat} {z : Int} (h : Wd.Sz B K z) (h1 : Wd.Sz B 1 1) : ∀ n : Nat, Wd.Sz B (K * n + 1) (z ^ n)
 | 0 => by rw [Int.pow_zero, Nat.mul_zero, Nat.zero_add]; exact h1
 | n + 1 => by
  have := (Wd.aoe h h1 n).mul h
  rw [Int.pow_succ, Nat.mul_succ, Nat.add_right_comm]
  exact this
theorem bck : Wd.Sz dm 1 1 := by unfold Wd.Sz; rw [Nat.pow_one, gp]; omega
namespace Wd
def uy (l : List UInt8) : Nat := l.foldl (fun a c => a * 10 + (c.toNat - 48)) 0
theorem Sn (l : List UInt8) (c : UInt8) : uy (l ++ [c]) = uy l * 10 + (c.toNat - 48) := by
 unfold uy; rw [List.foldl_append]; rfl
theorem adf {l : List UInt8} (h : l.all Ac = true) {c : UInt8} (hc : c ∈ l) : 48 ≤ c.toNat ∧ c.toNat ≤ 57 := by
 have h1 := List.all_eq_true.1 h c hc
 unfold Ac at h1
 rw [Bool.and_eq_true, decide_eq_true_eq, decide_eq_true_eq] at h1
 omega
theorem avz {l : List UInt8} (h : l.all Ac = true) (k : Nat) : (l.take k).all Ac = true :=
 List.all_eq_true.2 (fun x hx => List.all_eq_true.1 h x (List.mem_of_mem_take hx))
theorem ahy (n : Nat) : ∀ l : List UInt8, l.length = n → l.all Ac = true → uy l < 10 ^ l.length := by
 induction n with
 | zero => intro l hl _; rw [List.length_eq_zero_iff.1 hl]; exact Nat.zero_lt_one
 | succ n ih =>
  intro l hl h
  have hne : l ≠ [] := fun e => by rw [e] at hl; cases hl
  have e := List.dropLast_concat_getLast hne
  have hl' : l.dropLast.length = n := by rw [List.length_dropLast, hl]; rfl
  have h1 := ih l.dropLast hl' (List.all_eq_true.2 (fun x hx => List.all_eq_true.1 h x ((List.dropLast_sublist l).subset hx)))
  have h2 := adf h (List.getLast_mem hne)
  rw [← e, Sn, e, hl, Nat.pow_succ]
  rw [hl'] at h1
  omega
theorem aiq (l : List UInt8) (h : l.all Ac = true) : uy l < 10 ^ l.length := ahy _ l rfl h
end Wd
theorem adt {n : Nat} (h : n < 10 ^ 40) : Wd.Sz dm 3 (n : Int) := by
 have : (10 : Nat) ^ 40 < dm ^ 3 := by rw [gp]; decide
 unfold Wd.Sz; rw [Int.natAbs_natCast]; omega
theorem Ye : Wd.Sz dm 1 10 := by unfold Wd.Sz; rw [Nat.pow_one, gp]; omega
theorem bcl {n : Int} (h1 : 0 ≤ n) (h2 : n ≤ 9) : Wd.Sz dm 1 n := by unfold Wd.Sz; rw [Nat.pow_one, gp]; omega
theorem wrap_u8 {n : Int} (h1 : 0 ≤ n) (h2 : n < 256) : IntKind.u8.wrap n = n := by
 first
  | exact IntWalk.u8_in _ ⟨h1, by omega⟩
  | (simp [IntKind.wrap]; omega)

theorem Js (s : ByteArray) (w : World) (hd : s.data.toList.all Wd.Ac = true) (hl : s.size ≤ 40) :
  Calls Tryz.prog 157 #[.string s] w fun e w' => Bq w (Wd.uy s.data.toList : Nat) e w' := by
 have HO := hide (fun W => zm 0 om om W)
 have bob := hide (fun W => zm 10 om om W)
 have HD := hide hd
 clear hd
 go_enter Tryz.func157, Tryz.ntmps157
 go_upto_region 1 with fail
 obtain ⟨nr, hsz, hw0⟩ := Jf w (.cells #[.int .i64 0, .bool false, .slice none 0 0] 77)
 generalize w.alloc (.cells #[.int .i64 0, .bool false, .slice none 0 0] 77) = W0 at *
 have hq := lt_of_block nr
 clear hsz
 go_wp2_with fail
 refine ((aa HO) _).mono ?_
 rintro e W1 ⟨s5, qa, A5, c5, l5, rfl, g1, hb⟩
 replace nr := (hb.block _ (lt_of_block nr)).trans nr
 replace hq := Nat.lt_of_lt_of_le hq hb.size
 replace hw0 := bg hw0 hb
 clear hb
 go_upto_region 2 with fail
 have hbx := Dn.new g1 rfl
 have hb := gy (Below.refl W1.heap.size W1) (.cells #[.int .i64 s5, .bool qa, .slice A5 l5.length c5] 77)
 clear g1
 obtain ⟨bx, Xl⟩ : ∃ b, b = W1.heap.size := ⟨_, rfl⟩
 rw [← Xl] at hbx ⊢
 have hbB : w.heap.size < bx := by rw [Xl]; exact hq
 generalize W1.alloc (.cells #[.int .i64 s5, .bool qa, .slice A5 l5.length c5] 77) = W2 at *
 replace nr := (hb.block _ (lt_of_block nr)).trans nr
 replace hq := Nat.lt_of_lt_of_le hq hb.size
 replace hw0 := bg hw0 hb
 clear hb Xl
 have HW0 := hide hw0; have NR := hide nr; have HQ := hide hq
 clear hw0 nr hq
 go_wp2_with fail
 go_loopw [8] (fun iv wr => ∃ k : Nat, k ≤ s.size ∧ iv = .int .i64 (k : Int) ∧ Dn wr bx (Wd.uy (s.data.toList.take k) : Nat) ∧ Hid (Below (w.heap.size + 1) W2 wr)) (fun iv _ => s.size - (intOf iv).toNat)
 case atStart => exact ⟨0, Nat.zero_le _, by first | rfl | go_num, by exact hbx, hide (Below.refl _ _)⟩
 case round =>
  obtain ⟨k, hk, rfl, hbq, hgr⟩ := hrel
  have hwr : Below w.heap.size w wr := (aa HW0).trans ((aa hgr).mono om)
  have hq0 := aa HQ
  have hgs := (aa hgr).size
  by_cases hlt : k < s.size
  ·
   obtain ⟨s6, su, A6, c6, l6, j1, Iz⟩ := hbq
   have hdk := Wd.adf (aa HD) (show s[k] ∈ s.data.toList from List.getElem_mem (by rw [ry]; exact hlt))
   have hts := Wd.Sn (s.data.toList.take k) s[k]
   rw [← Yd s k hlt] at hts
   have hlt2 := Wd.aiq (s.data.toList.take k) (Wd.avz (aa HD) k)
   rw [List.length_take, Nat.min_eq_left (by rw [ry]; omega)] at hlt2
   have h40 : 10 ^ k ≤ 10 ^ 40 := Nat.pow_le_pow_right om om
   have sz1 : Wd.Sz dm 3 ((Wd.uy (s.data.toList.take k) : Nat) : Int) := adt om
   have sz2 : Wd.Sz dm 4 (((Wd.uy (s.data.toList.take k) : Nat) : Int) * 10) := sz1.mul Ye
   obtain ⟨dv, hdv⟩ : ∃ dv : Int, dv = (s[k].toNat : Int) - 48 := ⟨_, rfl⟩
   have hdb : 0 ≤ dv ∧ dv ≤ 9 := by omega
   have HTD := hide (fun W => zm dv om om W)
   have szd : Wd.Sz dm 1 dv := bcl hdb.1 hdb.2
   obtain ⟨v, hv⟩ : ∃ v : Int, v = (Wd.uy (s.data.toList.take k) : Nat) := ⟨_, rfl⟩
   have hnext : ((Wd.uy (s.data.toList.take (k + 1)) : Nat) : Int) = v * 10 + dv := by rw [hts, hv, hdv]; omega
   rw [← hv] at Iz sz1 sz2
   have HM := hide (fun s2 cu A2 c2 l2 W (g1 : fq W s6 su A6 c6 l6 v) (g2 : fq W s2 cu A2 c2 l2 10) => Xh s6 su A6 c6 l6 v s2 cu A2 c2 l2 10 W g1 g2 (g1.fit sz1 (by rw [Al]; omega)) (g2.fit Ye (by rw [Al]; omega)))
   have HA := hide (fun s2 cu A2 c2 l2 s3 pq A3 c3 l3 W (g1 : fq W s2 cu A2 c2 l2 (v * 10)) (g2 : fq W s3 pq A3 c3 l3 dv) => afo s2 cu A2 c2 l2 (v * 10) s3 pq A3 c3 l3 dv W g1 g2 (g1.fit sz2 (by rw [Al]; omega)) (g2.fit szd (by rw [Al]; omega)))
   have afd : wr.cell? ⟨bx, 0, none⟩ = some (.int .i64 s6) := ag j1 0
   have adn := ai j1 0
   have afc : wr.cell? ⟨bx, 1, none⟩ = some (.bool su) := ag j1 1
   have adm := ai j1 1
   have afb : wr.cell? ⟨bx, 2, none⟩ = some (.slice A6 l6.length c6) := ag j1 2
   have adl := ai j1 2
   have qx := lt_of_block j1
   have HN := Lib.hid hnext
   have w1 : IntKind.u8.wrap ((s[k].toNat : Int) - 48) = dv := by rw [← hdv]; exact wrap_u8 hdb.1 om
   have w2 : IntKind.i64.wrap dv = dv := IntWalk.i64_in _ om
   have w3 : wrap64 dv = dv := IntWalk.wrap64_in _ om
   have w4 : ((s[k].toNat : Int) - 48) % 256 = dv := by rw [← hdv]; omega
   have d1 : decide ((k : Int) < (s.size : Int)) = true := decide_eq_true om
   have d2 : decide (k < s.size) = true := decide_eq_true hlt
   have J1 := hide j1; have F1 := hide Iz
   clear hdk hts hlt2 h40 sz1 sz2 hdv hdb szd hv hnext j1 Iz
   go_upto_region 5 with fail
   go_region_with (first | (go_at_call_of 137 (Value.int .i64 10); refine ((aa bob) _).mono ?_; rintro e w' ⟨s2, cu, A2, c2, l2, rfl, f2, hb2⟩; (try (first | replace f3 := fq.below f3 hb2 | replace f3 := (fq.below f3 (Below.drew (Below.refl _ _))).below hb2)); (try (first | replace f4 := fq.below f4 hb2 | replace f4 := (fq.below f4 (Below.drew (Below.refl _ _))).below hb2)); have hbw := bz (w := wr) (by (first | with_reducible assumption | (repeat (first | with_reducible exact Below.refl _ _ | with_reducible assumption | refine Below.drew ?_ | (refine Below.alloc ?_ (by simp <;> omega) _) | refine mi ?_ _)))) hb2; obtain ⟨hc, hfz⟩ := dz hbw) | (go_at_call_of 147 (Value.agg #[.int .i64 s6, .bool su, .slice A6 l6.length c6]); refine ((aa HM) s2 cu A2 c2 l2 _ (by exact fq.below (aa F1) (by (first | with_reducible assumption | (repeat (first | with_reducible exact Below.refl _ _ | with_reducible assumption | refine Below.drew ?_ | (refine Below.alloc ?_ (by simp <;> omega) _) | refine mi ?_ _))))) (by (first | exact f2 | exact fq.below f2 (by (first | with_reducible assumption | (repeat (first | with_reducible exact Below.refl _ _ | with_reducible assumption | refine Below.drew ?_ | (refine Below.alloc ?_ (by simp <;> omega) _) | refine mi ?_ _))))))).mono ?_; rintro e w' ⟨s3, pq, A3, c3, l3, rfl, f3, hb3⟩; (try (first | replace f4 := fq.below f4 hb3 | replace f4 := (fq.below f4 (Below.drew (Below.refl _ _))).below hb3)); have hbw := bz (w := wr) (by (first | with_reducible assumption | (repeat (first | with_reducible exact Below.refl _ _ | with_reducible assumption | refine Below.drew ?_ | (refine Below.alloc ?_ (by simp <;> omega) _) | refine mi ?_ _)))) hb3; obtain ⟨hc, hfz⟩ := dz hbw) | (go_at_call_of 137 (Value.int .i64 dv); refine ((aa HTD) _).mono ?_; rintro e w' ⟨s4, xm, A4, c4, l4, rfl, f4, hb4⟩; (try (first | replace f2 := fq.below f2 hb4 | replace f2 := (fq.below f2 (Below.drew (Below.refl _ _))).below hb4)); (try (first | replace f3 := fq.below f3 hb4 | replace f3 := (fq.below f3 (Below.drew (Below.refl _ _))).below hb4)); have hbw := bz (w := wr) (by (first | with_reducible assumption | (repeat (first | with_reducible exact Below.refl _ _ | with_reducible assumption | refine Below.drew ?_ | (refine Below.alloc ?_ (by simp <;> omega) _) | refine mi ?_ _)))) hb4; obtain ⟨hc, hfz⟩ := dz hbw) | (go_at_call_of 166 (Value.agg #[.int .i64 s3, .bool pq, .slice A3 l3.length c3]); refine ((aa HA) s3 pq A3 c3 l3 s4 xm A4 c4 l4 _ (by (first | exact f3 | exact fq.below f3 (by (first | with_reducible assumption | (repeat (first | with_reducible exact Below.refl _ _ | with_reducible assumption | refine Below.drew ?_ | (refine Below.alloc ?_ (by simp <;> omega) _) | refine mi ?_ _)))))) (by (first | exact f4 | exact fq.below f4 (by (first | with_reducible assumption | (repeat (first | with_reducible exact Below.refl _ _ | with_reducible assumption | refine Below.drew ?_ | (refine Below.alloc ?_ (by simp <;> omega) _) | refine mi ?_ _))))))).mono ?_; rintro e w' ⟨s5, qa, A5, c5, l5, rfl, f5, hb5⟩; have hbw := bz (w := wr) (by (first | with_reducible assumption | (repeat (first | with_reducible exact Below.refl _ _ | with_reducible assumption | refine Below.drew ?_ | (refine Below.alloc ?_ (by simp <;> omega) _) | refine mi ?_ _)))) hb5; obtain ⟨hc, hfz⟩ := dz hbw))
   all_goals
    have hst := Zk (Dn.below ⟨_, _, _, _, _, aa J1, aa F1⟩ hbw) f5 ((aa hgr).trans (hbw.mono om)) om (by have := hbw.size; omega)
    go_wp2_with fail
    go_roundw
    case rel => exact ⟨k + 1, by omega, by first | rfl | go_num, HN.out ▸ hst.1, hide hst.2⟩
    case measure => simp [intOf] <;> omega
  ·
   have hke : s.data.toList.take k = s.data.toList := List.take_of_length_le (by rw [ry]; omega)
   rw [hke] at hbq
   obtain ⟨s6, su, A6, c6, l6, j1, Iz⟩ := hbq
   have jr := ((aa hgr).block w.heap.size om).trans (aa NR)
   have afd : wr.cell? ⟨bx, 0, none⟩ = some (.int .i64 s6) := ag j1 0
   have adn := ai j1 0
   have afc : wr.cell? ⟨bx, 1, none⟩ = some (.bool su) := ag j1 1
   have adm := ai j1 1
   have afb : wr.cell? ⟨bx, 2, none⟩ = some (.slice A6 l6.length c6) := ag j1 2
   have adl := ai j1 2
   have qx := lt_of_block j1
   have r0 : wr.cell? ⟨w.heap.size, 0, none⟩ = some (.int .i64 0) := ag jr 0
   have Ny := ai jr 0
   have r1 : wr.cell? ⟨w.heap.size, 1, none⟩ = some (.bool false) := ag jr 1
   have Nw := ai jr 1
   have r2 : wr.cell? ⟨w.heap.size, 2, none⟩ = some (.slice none 0 0) := ag jr 2
   have Wj := ai jr 2
   have qr : w.heap.size < wr.heap.size := by omega
   have jy := Lib.hid jr
   have F1 := hide Iz
   have d1 : decide ((k : Int) < (s.size : Int)) = false := decide_eq_false om
   have d2 : decide (k < s.size) = false := decide_eq_false hlt
   clear j1 Iz jr hke hk hl
   go_wp2_with fail
   exact bodyPost_ret (v := (Value.agg #[.int .i64 s6, .bool su, .slice A6 l6.length c6])) (by simp [results, Tryz.results157, go_sem, r0, r1, r2, qr]) rfl
    ⟨s6, su, A6, c6, l6, rfl, (aa F1).upto jy.out (si _ _ _ _ _) (ik _ _ _ _ _), hwr.grown (ik _ _ _ _ _) hwr.size (fun k hk => by injection hk with hk; omega)⟩


theorem afn (s1 : Int) (cz : Bool) (A1 : Option Addr) (c1 : Nat) (l1 : List Nat) (z : Int) (n K : Nat) (w : World) (h1 : fq w s1 cz A1 c1 l1 z) (sz : Wd.Sz dm K z) (hK : K * n + 1 ≤ lim) (hK2 : K ≤ lim) (hn : n ≤ 9223372036854775806) :
  Calls Tryz.prog 139 #[(Value.agg #[.int .i64 s1, .bool cz, .slice A1 l1.length c1]), .int .i64 n] w fun e w' => Bq w (z ^ n) e w' := by
 have HX := hide h1; have Ry := hide sz; have HK := hide hK; have HK2 := hide hK2
 have HO := hide (fun W => zm 1 om om W)
 clear h1 sz hK hK2
 go_enter Tryz.func139, Tryz.ntmps139
 go_upto_region 1 with fail
 obtain ⟨nx, nr, hsz, hw0⟩ := qw w (.cells #[.int .i64 s1, .bool cz, .slice A1 l1.length c1] 77) (.cells #[.int .i64 0, .bool false, .slice none 0 0] 77)
 generalize ((w.alloc (.cells #[.int .i64 s1, .bool cz, .slice A1 l1.length c1] 77)).alloc (.cells #[.int .i64 0, .bool false, .slice none 0 0] 77)) = W0 at *
 have hq := lt_of_block nr
 clear hsz
 go_wp2_with fail
 refine ((aa HO) _).mono ?_
 rintro e W1 ⟨s5, qa, A5, c5, l5, rfl, g1, hb⟩
 replace nx := (hb.block _ (lt_of_block nx)).trans nx
 replace nr := (hb.block _ (lt_of_block nr)).trans nr
 replace hq := Nat.lt_of_lt_of_le hq hb.size
 replace hw0 := bg hw0 hb
 clear hb
 go_upto_region 2 with fail
 have hbx := Dn.new g1 rfl
 have hb := gy (Below.refl W1.heap.size W1) (.cells #[.int .i64 s5, .bool qa, .slice A5 l5.length c5] 77)
 clear g1
 obtain ⟨bx, Xl⟩ : ∃ b, b = W1.heap.size := ⟨_, rfl⟩
 rw [← Xl] at hbx ⊢
 have hbB : w.heap.size + 1 < bx := by rw [Xl]; exact hq
 generalize W1.alloc (.cells #[.int .i64 s5, .bool qa, .slice A5 l5.length c5] 77) = W2 at *
 replace nx := (hb.block _ (lt_of_block nx)).trans nx
 replace nr := (hb.block _ (lt_of_block nr)).trans nr
 replace hq := Nat.lt_of_lt_of_le hq hb.size
 replace hw0 := bg hw0 hb
 clear hb Xl
 have HW0 := hide hw0; have NX := hide nx; have NR := hide nr; have HQ := hide hq
 clear hw0 nx nr hq
 go_wp2_with fail
 go_loopw [8] (fun iv wr => ∃ k : Nat, k ≤ n ∧ iv = .int .i64 (k : Int) ∧ Dn wr bx (z ^ k) ∧ Hid (Below (w.heap.size + 2) W2 wr)) (fun iv _ => n - (intOf iv).toNat)
 case atStart => exact ⟨0, Nat.zero_le _, by first | rfl | go_num, by rw [Int.pow_zero]; exact hbx, hide (Below.refl _ _)⟩
 case round =>
  obtain ⟨k, hk, rfl, hbq, hgr⟩ := hrel
  have hwr : Below w.heap.size w wr := (aa HW0).trans ((aa hgr).mono om)
  have hq0 := aa HQ
  have hgs := (aa hgr).size
  by_cases hlt : k < n
  ·
   obtain ⟨s6, su, A6, c6, l6, j1, Iz⟩ := hbq
   have jx := ((aa hgr).block w.heap.size om).trans (aa NX)
   have afd : wr.cell? ⟨bx, 0, none⟩ = some (.int .i64 s6) := ag j1 0
   have adn := ai j1 0
   have afc : wr.cell? ⟨bx, 1, none⟩ = some (.bool su) := ag j1 1
   have adm := ai j1 1
   have afb : wr.cell? ⟨bx, 2, none⟩ = some (.slice A6 l6.length c6) := ag j1 2
   have adl := ai j1 2
   have qx := lt_of_block j1
   have bth : wr.cell? ⟨w.heap.size, 0, none⟩ = some (.int .i64 s1) := ag jx 0
   have btg : wr.cell? ⟨w.heap.size, 1, none⟩ = some (.bool cz) := ag jx 1
   have btf : wr.cell? ⟨w.heap.size, 2, none⟩ = some (.slice A1 l1.length c1) := ag jx 2
   have hX := (aa HX).below hwr
   have zk : Wd.Sz dm (K * k + 1) (z ^ k) := Wd.aoe (aa Ry) bck k
   have hk2 : K * k ≤ K * n := Nat.mul_le_mul_left K om
   have HM := hide (Xh s6 su A6 c6 l6 (z ^ k) s1 cz A1 c1 l1 z wr Iz hX (Iz.fit zk (by have := aa HK; omega)) (hX.fit (aa Ry) (aa HK2)))
   have hps : z ^ (k + 1) = z ^ k * z := Int.pow_succ z k
   have HPS := Lib.hid hps
   have d1 : decide ((k : Int) < (n : Int)) = true := decide_eq_true om
   have d2 : decide (k < n) = true := decide_eq_true hlt
   have J1 := hide j1; have F1 := hide Iz
   clear hps zk hk2 hX j1 Iz jx
   go_wp2_with fail
   refine (aa HM).mono ?_
   rintro e w' ⟨s7, Ti, A7, c7, l7, rfl, g7, hb⟩
   have hst := Zk (Dn.below ⟨_, _, _, _, _, aa J1, aa F1⟩ hb) g7 ((aa hgr).trans (hb.mono om)) om (by have := hb.size; omega)
   obtain ⟨hc, hfz⟩ := dz hb
   replace afd := (hc _ _ qx).trans afd
   replace afc := (hc _ _ qx).trans afc
   replace afb := (hc _ _ qx).trans afb
   replace adn := (hfz _ _ qx).trans adn
   replace adm := (hfz _ _ qx).trans adm
   replace adl := (hfz _ _ qx).trans adl
   clear g7 hb hc hfz HM
   go_wp2_with fail
   go_roundw
   case rel => exact ⟨k + 1, by omega, by first | rfl | go_num, HPS.out ▸ hst.1, hide hst.2⟩
   case measure => simp [intOf] <;> omega
  ·
   obtain rfl : k = n := by omega
   obtain ⟨s6, su, A6, c6, l6, j1, Iz⟩ := hbq
   have jr := ((aa hgr).block (w.heap.size + 1) om).trans (aa NR)
   have afd : wr.cell? ⟨bx, 0, none⟩ = some (.int .i64 s6) := ag j1 0
   have adn := ai j1 0
   have afc : wr.cell? ⟨bx, 1, none⟩ = some (.bool su) := ag j1 1
   have adm := ai j1 1
   have afb : wr.cell? ⟨bx, 2, none⟩ = some (.slice A6 l6.length c6) := ag j1 2
   have adl := ai j1 2
   have qx := lt_of_block j1
   have r0 : wr.cell? ⟨w.heap.size + 1, 0, none⟩ = some (.int .i64 0) := ag jr 0
   have Ny := ai jr 0
   have r1 : wr.cell? ⟨w.heap.size + 1, 1, none⟩ = some (.bool false) := ag jr 1
   have Nw := ai jr 1
   have r2 : wr.cell? ⟨w.heap.size + 1, 2, none⟩ = some (.slice none 0 0) := ag jr 2
   have Wj := ai jr 2
   have qr : w.heap.size + 1 < wr.heap.size := by omega
   have jy := Lib.hid jr
   have F1 := hide Iz
   have d1 : decide ((k : Int) < (k : Int)) = false := decide_eq_false om
   have d2 : decide (k < k) = false := decide_eq_false om
   clear j1 Iz jr hlt hk
   go_wp2_with fail
   exact bodyPost_ret (v := (Value.agg #[.int .i64 s6, .bool su, .slice A6 l6.length c6])) (by simp [results, Tryz.results139, go_sem, r0, r1, r2, qr]) rfl
    ⟨s6, su, A6, c6, l6, rfl, (aa F1).upto jy.out (si _ _ _ _ _) (ik _ _ _ _ _), hwr.grown (ik _ _ _ _ _) hwr.size (fun k hk => by injection hk with hk; omega)⟩

end Go.Proofs.YtfgeaakhlcaibaaGreatDoor
namespace Go.Proofs.YtfgeaakhlcaibaaGreatDoor
namespace Wd

def cutAt (c : UInt8) : List UInt8 → Option (List UInt8 × List UInt8)
 | [] => none
 | x :: l => if x = c then some ([], l) else (cutAt c l).map fun p => (x :: p.1, p.2)
theorem Km (c : UInt8) : ∀ (a b : List UInt8), c ∉ a → cutAt c (a ++ c :: b) = some (a, b)
 | [], b, _ => by simp [cutAt]
 | x :: a, b, h => by
  have h1 : ¬ x = c := fun e => h (by rw [e]; exact List.mem_cons_self)
  have h2 : c ∉ a := fun e => h (List.mem_cons_of_mem _ e)
  rw [List.cons_append, cutAt, if_neg h1, Km c a b h2]; rfl
theorem Lp (c : UInt8) : ∀ l : List UInt8, c ∉ l → cutAt c l = none
 | [], _ => rfl
 | x :: l, h => by
  have h1 : ¬ x = c := fun e => h (by rw [e]; exact List.mem_cons_self)
  have h2 : c ∉ l := fun e => h (List.mem_cons_of_mem _ e)
  rw [cutAt, if_neg h1, Lp c l h2]; rfl
def Ar (l : List UInt8) : Option Rat :=
 match cutAt 47 l with
 | some (a, b) => if (Bt a && Bt b && !(b == [48])) = true then some (Rat.divInt (uy a : Nat) (uy b : Nat)) else none
 | none => match cutAt 46 l with
  | some (a, b) => if (Bt a && Dj b 12) = true then some (Rat.divInt (uy (a ++ b) : Nat) ((10 ^ b.length : Nat) : Int)) else none
  | none => if Bt l = true then some (Rat.divInt (uy l : Nat) 1) else none
theorem Ij {l a b : List UInt8} (hl : l = a ++ 47 :: b) (hn : 47 ∉ a) : Ar l = if (Bt a && Bt b && !(b == [48])) = true then some (Rat.divInt (uy a : Nat) (uy b : Nat)) else none := by
 unfold Ar; rw [hl, Km 47 a b hn]
theorem Xb {l a b : List UInt8} (h0 : 47 ∉ l) (hl : l = a ++ 46 :: b) (hn : 46 ∉ a) : Ar l = if (Bt a && Dj b 12) = true then some (Rat.divInt (uy (a ++ b) : Nat) ((10 ^ b.length : Nat) : Int)) else none := by
 unfold Ar; rw [Lp 47 l h0]; dsimp only; rw [hl, Km 46 a b hn]
theorem Qq {l : List UInt8} (h0 : 47 ∉ l) (h1 : 46 ∉ l) : Ar l = if Bt l = true then some (Rat.divInt (uy l : Nat) 1) else none := by
 unfold Ar; rw [Lp 47 l h0]; dsimp only; rw [Lp 46 l h1]
def Td (l : List UInt8) : Told :=
 if l.head? = some 45 then
  match Ar l.tail with
  | some q => if q = 0 then ⟨0, 0, 2⟩ else told (-q)
  | none => ⟨0, 0, 2⟩
 else match Ar l with
  | some q => told q
  | none => ⟨0, 0, 2⟩
theorem ann (l : List UInt8) : ∀ a : Nat, l.foldl (fun a (c : UInt8) => a * 10 + (c.toNat - 48)) a = a * 10 ^ l.length + uy l := by
 unfold uy
 induction l with
 | nil => intro a; simp
 | cons c l ih =>
  intro a
  rw [List.foldl_cons, List.foldl_cons, ih, ih (0 * 10 + (c.toNat - 48)), List.length_cons, Nat.pow_succ, Nat.zero_mul, Nat.zero_add, Nat.add_mul, Nat.mul_comm (10 ^ l.length) 10, Nat.mul_assoc, Nat.add_assoc]
theorem ano (c : UInt8) (l : List UInt8) : uy (c :: l) = (c.toNat - 48) * 10 ^ l.length + uy l := by
 have h := ann l (0 * 10 + (c.toNat - 48))
 rw [Nat.zero_mul, Nat.zero_add] at h
 show List.foldl _ (0 * 10 + (c.toNat - 48)) l = _
 rw [Nat.zero_mul, Nat.zero_add]; exact h
theorem wh {l : List UInt8} {m : Int} : Dj l m = true ↔ 1 ≤ l.length ∧ (l.length : Int) ≤ m ∧ l.all Ac = true := by
 unfold Dj
 rw [Bool.and_eq_true, Bool.and_eq_true, decide_eq_true_eq, decide_eq_true_eq]
 constructor
 ·
  rintro ⟨⟨h1, h2⟩, h3⟩; exact ⟨by omega, h2, h3⟩
 ·
  rintro ⟨h1, h2, h3⟩; exact ⟨⟨by omega, h2⟩, h3⟩
theorem zx {l : List UInt8} : Bt l = true ↔ Dj l 20 = true ∧ (l = [48] ∨ l.head? ≠ some 48) := by
 unfold Bt
 rw [Bool.and_eq_true, Bool.or_eq_true, beq_iff_eq, Bool.not_eq_true', beq_eq_false_iff_ne]
theorem apx {l : List UInt8} (h : Bt l = true) (hz : ¬ l = [48]) : 0 < uy l := by
 obtain ⟨h1, h2⟩ := zx.1 h
 obtain ⟨h3, _, h5⟩ := wh.1 h1
 cases l with
 | nil => exact absurd h3 de
 | cons c l =>
  rcases h2 with h2 | h2
  ·
   exact absurd h2 hz
  ·
   have hc := adf h5 (List.mem_cons_self (a := c) (l := l))
   have hne : c.toNat ≠ 48 := fun e => h2 (by
    have : c = 48 := UInt8.toNat_inj.1 e
    rw [this]; rfl)
   rw [ano]
   have := Nat.mul_le_mul (show 1 ≤ c.toNat - 48 by omega) (Nat.pow_pos (n := l.length) (show 0 < 10 by decide))
   omega
end Wd
end Go.Proofs.YtfgeaakhlcaibaaGreatDoor
namespace Go.Proofs.YtfgeaakhlcaibaaGreatDoor
open Go.RowKit

def bgj (w : World) (l : List UInt8) (e : Ending) (w' : World) : Prop :=
 (Wd.Ar l = none ∧ e = .returned (.tuple #[(Value.agg #[.int .i64 0, .bool false, .slice none 0 0, .int .i64 0, .bool false, .slice none 0 0]), .bool false]) ∧ Below w.heap.size w w') ∨
 ∃ q s1 cz A1 c1 l1 s2 cu A2 c2 l2, Wd.Ar l = some q ∧ e = .returned (.tuple #[(Value.agg #[.int .i64 s1, .bool cz, .slice A1 (List.length l1) c1, .int .i64 s2, .bool cu, .slice A2 (List.length l2) c2]), .bool true]) ∧ fq w' s1 cz A1 c1 l1 q.num ∧ fq w' s2 cu A2 c2 l2 (q.den : Int) ∧ Below w.heap.size w w'
theorem ahc (a b : ByteArray) : (a ++ b).data.toList = a.data.toList ++ b.data.toList := by
 rw [ByteArray.data_append, Array.toList_append]
theorem aeb (a b : ByteArray) : (a ++ b).size = a.size + b.size := by
 rw [← ry, ahc, List.length_append, ry, ry]
theorem Ol {b : Bool} (h : ¬ b = true) : b = false := by cases b with
 | true => exact absurd rfl h
 | false => rfl
theorem sz3 {l : List UInt8} (h : l.all Wd.Ac = true) (hl : l.length ≤ 40) : Wd.Sz dm 3 ((Wd.uy l : Nat) : Int) :=
 adt (Nat.lt_of_lt_of_le (Wd.aiq l h) (Nat.pow_le_pow_right om hl))
theorem adu {n : Nat} (h : n ≤ 12) : Wd.Sz dm 3 ((10 ^ n : Nat) : Int) :=
 adt (Nat.lt_of_le_of_lt (Nat.pow_le_pow_right om h) de)
theorem bbj {a b : List UInt8} (h1 : a.all Wd.Ac = true) (h2 : b.all Wd.Ac = true) : (a ++ b).all Wd.Ac = true := by
 rw [List.all_append, h1, h2]; rfl

theorem aeo (s : ByteArray) (w : World) (hT : qm w) (hs : s.size ≤ 9223372036854775806) :
  Calls Tryz.prog 86 #[.string s] w fun e w' => bgj w s.data.toList e w' := by
 have HT := hide hT
 have Pt := hide (fun W => Nk s ⟨#[47]⟩ 47 rfl W hs)
 have Sc := hide (fun W => Nk s ⟨#[46]⟩ 46 rfl W hs)
 have Ry := hide hs
 clear hT hs
 go_enter Tryz.func86, Tryz.ntmps86
 go_upto_region 1 with fail
 obtain ⟨nr, hsz, hw0⟩ := Jf w (.cells #[.int .i64 0, .bool false, .slice none 0 0, .int .i64 0, .bool false, .slice none 0 0] 79)
 generalize w.alloc (.cells #[.int .i64 0, .bool false, .slice none 0 0, .int .i64 0, .bool false, .slice none 0 0] 79) = W0 at *
 have NR := hide nr
 have HB := Lib.hid hw0
 clear hsz hw0 nr
 go_wp2_with fail
 refine ((aa Pt) _).mono ?_
 rintro e W1 ⟨a, b, f, rfl, hb, hcase⟩
 replace NR := hide ((hb.block _ (lt_of_block (aa NR))).trans (aa NR))
 replace HB := Lib.hid (bg HB.out hb)
 clear hb
 rcases hcase with ⟨rfl, hl, hn⟩ | ⟨rfl, _, _, hn⟩
 ·
  have hlen : s.size = a.size + 1 + b.size := by rw [← ry, hl, List.length_append, List.length_cons, ry, ry]; omega
  have Ig := hide (fun W => Gy a W (by have := aa Ry; omega))
  have Lb := hide (fun W => Gy b W (by have := aa Ry; omega))
  clear hlen Sc
  by_cases na : Wd.Bt a.data.toList = true
  ·
   by_cases nb : Wd.Bt b.data.toList = true
   ·
    by_cases hz : b.data.toList = [48]
    ·
     have HN := Lib.hid (show Wd.Ar s.data.toList = none by rw [Wd.Ij hl hn, na, nb, hz]; rfl)
     rw [na] at Ig
     rw [nb] at Lb
     have e1 : (b.toList == [48]) = true := by rw [Lib.toList_data, hz]; rfl
     clear na nb hz hl hn Pt
     have r0 : W1.cell? ⟨w.heap.size, 0, none⟩ = some (.int .i64 0) := ag (aa NR) 0
     have Ny := ai (aa NR) 0
     have r1 : W1.cell? ⟨w.heap.size, 1, none⟩ = some (.bool false) := ag (aa NR) 1
     have Nw := ai (aa NR) 1
     have r2 : W1.cell? ⟨w.heap.size, 2, none⟩ = some (.slice none 0 0) := ag (aa NR) 2
     have Wj := ai (aa NR) 2
     have r3 : W1.cell? ⟨w.heap.size, 3, none⟩ = some (.int .i64 0) := ag (aa NR) 3
     have fr3 := ai (aa NR) 3
     have r4 : W1.cell? ⟨w.heap.size, 4, none⟩ = some (.bool false) := ag (aa NR) 4
     have fr4 := ai (aa NR) 4
     have r5 : W1.cell? ⟨w.heap.size, 5, none⟩ = some (.slice none 0 0) := ag (aa NR) 5
     have fr5 := ai (aa NR) 5
     have qr := lt_of_block (aa NR)
     go_wp2_with (first | (go_at_call_of 156 (Value.string a); refine ((aa Ig) _).mono ?_; rintro e w' ⟨rfl, rfl⟩) | (go_at_call_of 156 (Value.string b); refine ((aa Lb) _).mono ?_; rintro e w' ⟨rfl, rfl⟩))
     exact bodyPost_ret (v := .tuple #[(Value.agg #[.int .i64 0, .bool false, .slice none 0 0, .int .i64 0, .bool false, .slice none 0 0]), .bool false]) (by simp [results, Tryz.results86, go_sem, r0, r1, r2, r3, r4, r5, qr]) rfl
      (.inl ⟨HN.out, rfl, HB.out.grown (jw _ _ _ _ _ _ _ _) HB.out.size (fun k hk => by injection hk with hk; omega)⟩)
    ·
     have Sa := hide (fun W => Js a W (Wd.wh.1 (Wd.zx.1 na).1).2.2 (by have := (Wd.wh.1 (Wd.zx.1 na).1).2.1; rw [ry] at this; omega))
     have HIB := hide (fun W => Js b W (Wd.wh.1 (Wd.zx.1 nb).1).2.2 (by have := (Wd.wh.1 (Wd.zx.1 nb).1).2.1; rw [ry] at this; omega))
     have Si := sz3 (Wd.wh.1 (Wd.zx.1 na).1).2.2 (by have := (Wd.wh.1 (Wd.zx.1 na).1).2.1; omega)
     have Sg := sz3 (Wd.wh.1 (Wd.zx.1 nb).1).2.2 (by have := (Wd.wh.1 (Wd.zx.1 nb).1).2.1; omega)
     have hp := Wd.apx nb hz
     have Iu := Lib.hid (show Wd.Ar s.data.toList = some (Rat.divInt (Wd.uy a.data.toList : Nat) (Wd.uy b.data.toList : Nat)) by
      rw [Wd.Ij hl hn, na, nb, beq_eq_false_iff_ne.2 hz]; rfl)
     obtain ⟨z1, hz1⟩ : ∃ z : Int, z = (Wd.uy a.data.toList : Nat) := ⟨_, rfl⟩
     obtain ⟨z2, hz2⟩ : ∃ z : Int, z = (Wd.uy b.data.toList : Nat) := ⟨_, rfl⟩
     have hz0 : z2 ≠ 0 := by omega
     rw [← hz1] at Sa Iu Si
     rw [← hz2] at HIB Iu Sg
     have HNR := hide (fun s2 cu A2 c2 l2 s3 pq A3 c3 l3 W (hW : qm W) (g2 : fq W s2 cu A2 c2 l2 z1) (g3 : fq W s3 pq A3 c3 l3 z2) => Xd (K := 3) s2 cu A2 c2 l2 s3 pq A3 c3 l3 z1 z2 W hW g2 g3 hz0 Si Sg (by rw [Al]; omega))
     rw [na] at Ig
     rw [nb] at Lb
     have e1 : (b.toList == [48]) = false := by rw [Lib.toList_data]; exact beq_eq_false_iff_ne.2 hz
     clear na nb hz hl hn hp Si Sg hz1 hz2 hz0 Pt
     go_wp2_with (first | (go_at_call_of 156 (Value.string a); refine ((aa Ig) _).mono ?_; rintro e w' ⟨rfl, rfl⟩) | (go_at_call_of 156 (Value.string b); refine ((aa Lb) _).mono ?_; rintro e w' ⟨rfl, rfl⟩))
     refine ((aa Sa) _).mono ?_
     rintro e V1 ⟨s2, cu, A2, c2, l2, rfl, f2, hb⟩
     have F2 := hide f2
     clear f2
     replace NR := hide ((hb.block _ (lt_of_block (aa NR))).trans (aa NR))
     replace HB := Lib.hid (bg HB.out hb)
     clear hb
     go_wp2_with fail
     refine ((aa HIB) _).mono ?_
     rintro e V2 ⟨s3, pq, A3, c3, l3, rfl, f3, hb⟩
     have F3 := hide f3
     clear f3
     replace NR := hide ((hb.block _ (lt_of_block (aa NR))).trans (aa NR))
     replace HB := Lib.hid (bg HB.out hb)
     replace F2 := hide ((aa F2).below hb)
     clear hb
     go_wp2_with fail
     refine ((aa HNR) s2 cu A2 c2 l2 s3 pq A3 c3 l3 _ ((aa HT).below HB.out) (aa F2) (aa F3)).mono ?_
     rintro e V3 ⟨s4, xm, A4, c4, l4, s5, qa, A5, c5, l5, rfl, f4, f5, hb⟩
     have F4 := hide f4; have F5 := hide f5
     clear f4 f5 F2 F3
     replace NR := hide ((hb.block _ (lt_of_block (aa NR))).trans (aa NR))
     replace HB := Lib.hid (bg HB.out hb)
     clear hb
     have r0 : V3.cell? ⟨w.heap.size, 0, none⟩ = some (.int .i64 0) := ag (aa NR) 0
     have Ny := ai (aa NR) 0
     have r1 : V3.cell? ⟨w.heap.size, 1, none⟩ = some (.bool false) := ag (aa NR) 1
     have Nw := ai (aa NR) 1
     have r2 : V3.cell? ⟨w.heap.size, 2, none⟩ = some (.slice none 0 0) := ag (aa NR) 2
     have Wj := ai (aa NR) 2
     have r3 : V3.cell? ⟨w.heap.size, 3, none⟩ = some (.int .i64 0) := ag (aa NR) 3
     have fr3 := ai (aa NR) 3
     have r4 : V3.cell? ⟨w.heap.size, 4, none⟩ = some (.bool false) := ag (aa NR) 4
     have fr4 := ai (aa NR) 4
     have r5 : V3.cell? ⟨w.heap.size, 5, none⟩ = some (.slice none 0 0) := ag (aa NR) 5
     have fr5 := ai (aa NR) 5
     have qr := lt_of_block (aa NR)
     go_wp2_with fail
     have jy := Lib.hid (aa NR)
     exact bodyPost_ret (v := .tuple #[(Value.agg #[.int .i64 s4, .bool xm, .slice A4 l4.length c4, .int .i64 s5, .bool qa, .slice A5 l5.length c5]), .bool true]) (by simp [results, Tryz.results86, go_sem, r0, r1, r2, r3, r4, r5, qr]) rfl
      (.inr ⟨_, s4, xm, A4, c4, l4, s5, qa, A5, c5, l5, Iu.out, rfl, (aa F4).upto jy.out (tu _ _ _ _ _ _ _ _ _ _) (jw _ _ _ _ _ _ _ _), (aa F5).upto jy.out (tu _ _ _ _ _ _ _ _ _ _) (jw _ _ _ _ _ _ _ _), HB.out.grown (jw _ _ _ _ _ _ _ _) HB.out.size (fun k hk => by injection hk with hk; omega)⟩)
   ·
    have HN := Lib.hid (show Wd.Ar s.data.toList = none by rw [Wd.Ij hl hn, na, Ol nb]; rfl)
    rw [na] at Ig
    rw [Ol nb] at Lb
    clear na nb hl hn Pt
    have r0 : W1.cell? ⟨w.heap.size, 0, none⟩ = some (.int .i64 0) := ag (aa NR) 0
    have Ny := ai (aa NR) 0
    have r1 : W1.cell? ⟨w.heap.size, 1, none⟩ = some (.bool false) := ag (aa NR) 1
    have Nw := ai (aa NR) 1
    have r2 : W1.cell? ⟨w.heap.size, 2, none⟩ = some (.slice none 0 0) := ag (aa NR) 2
    have Wj := ai (aa NR) 2
    have r3 : W1.cell? ⟨w.heap.size, 3, none⟩ = some (.int .i64 0) := ag (aa NR) 3
    have fr3 := ai (aa NR) 3
    have r4 : W1.cell? ⟨w.heap.size, 4, none⟩ = some (.bool false) := ag (aa NR) 4
    have fr4 := ai (aa NR) 4
    have r5 : W1.cell? ⟨w.heap.size, 5, none⟩ = some (.slice none 0 0) := ag (aa NR) 5
    have fr5 := ai (aa NR) 5
    have qr := lt_of_block (aa NR)
    go_wp2_with (first | (go_at_call_of 156 (Value.string a); refine ((aa Ig) _).mono ?_; rintro e w' ⟨rfl, rfl⟩) | (go_at_call_of 156 (Value.string b); refine ((aa Lb) _).mono ?_; rintro e w' ⟨rfl, rfl⟩))
    exact bodyPost_ret (v := .tuple #[(Value.agg #[.int .i64 0, .bool false, .slice none 0 0, .int .i64 0, .bool false, .slice none 0 0]), .bool false]) (by simp [results, Tryz.results86, go_sem, r0, r1, r2, r3, r4, r5, qr]) rfl
     (.inl ⟨HN.out, rfl, HB.out.grown (jw _ _ _ _ _ _ _ _) HB.out.size (fun k hk => by injection hk with hk; omega)⟩)
  ·
   have HN := Lib.hid (show Wd.Ar s.data.toList = none by rw [Wd.Ij hl hn, Ol na]; rfl)
   rw [Ol na] at Ig
   clear na hl hn Pt Lb
   have r0 : W1.cell? ⟨w.heap.size, 0, none⟩ = some (.int .i64 0) := ag (aa NR) 0
   have Ny := ai (aa NR) 0
   have r1 : W1.cell? ⟨w.heap.size, 1, none⟩ = some (.bool false) := ag (aa NR) 1
   have Nw := ai (aa NR) 1
   have r2 : W1.cell? ⟨w.heap.size, 2, none⟩ = some (.slice none 0 0) := ag (aa NR) 2
   have Wj := ai (aa NR) 2
   have r3 : W1.cell? ⟨w.heap.size, 3, none⟩ = some (.int .i64 0) := ag (aa NR) 3
   have fr3 := ai (aa NR) 3
   have r4 : W1.cell? ⟨w.heap.size, 4, none⟩ = some (.bool false) := ag (aa NR) 4
   have fr4 := ai (aa NR) 4
   have r5 : W1.cell? ⟨w.heap.size, 5, none⟩ = some (.slice none 0 0) := ag (aa NR) 5
   have fr5 := ai (aa NR) 5
   have qr := lt_of_block (aa NR)
   go_wp2_with (first | (go_at_call_of 156 (Value.string a); refine ((aa Ig) _).mono ?_; rintro e w' ⟨rfl, rfl⟩))
   exact bodyPost_ret (v := .tuple #[(Value.agg #[.int .i64 0, .bool false, .slice none 0 0, .int .i64 0, .bool false, .slice none 0 0]), .bool false]) (by simp [results, Tryz.results86, go_sem, r0, r1, r2, r3, r4, r5, qr]) rfl
    (.inl ⟨HN.out, rfl, HB.out.grown (jw _ _ _ _ _ _ _ _) HB.out.size (fun k hk => by injection hk with hk; omega)⟩)
 ·
  go_wp2_with fail
  refine ((aa Sc) _).mono ?_
  rintro e W2 ⟨a, b, f, rfl, hb, hcase⟩
  replace NR := hide ((hb.block _ (lt_of_block (aa NR))).trans (aa NR))
  replace HB := Lib.hid (bg HB.out hb)
  clear hb
  rcases hcase with ⟨rfl, hl, hn2⟩ | ⟨rfl, ha, hbn, hn2⟩
  ·
   have hlen : s.size = a.size + 1 + b.size := by rw [← ry, hl, List.length_append, List.length_cons, ry, ry]; omega
   have Ig := hide (fun W => Gy a W (by have := aa Ry; omega))
   have Lb := hide (fun W => Tm b 12 W (by have := aa Ry; omega))
   clear hlen
   by_cases na : Wd.Bt a.data.toList = true
   ·
    by_cases nb : Wd.Dj b.data.toList 12 = true
    ·
     obtain ⟨g1, g2, g3⟩ := Wd.wh.1 nb
     obtain ⟨g4, g5, g6⟩ := Wd.wh.1 (Wd.zx.1 na).1
     rw [ry] at g2 g5
     have Xk := bbj g6 g3
     have agh : b.size ≤ 12 := by omega
     have auv : a.size ≤ 20 := by omega
     have Iu := Lib.hid (show Wd.Ar s.data.toList = some (Rat.divInt (Wd.uy (a.data.toList ++ b.data.toList) : Nat) ((10 ^ b.size : Nat) : Int)) by
      rw [Wd.Xb hn hl hn2, na, nb, ry]; rfl)
     rw [na] at Ig
     rw [nb] at Lb
     clear na nb g1 g2 g3 g4 g5 g6 hl hn hn2
     have Sa := hide (fun W => Js (a ++ b) W (by rw [ahc]; exact Xk) (by rw [aeb]; omega))
     rw [ahc] at Sa
     have hadd : ∀ W, (Op.stringOp .add a b).run Tryz.prog W = .ok (.string (a ++ b)) W := fun W => run_string_add_sum W a b om
     have hno : ¬ (a.size + b.size > 9223372036854775807) := by omega
     obtain ⟨y, hy⟩ : ∃ y, a ++ b = y := ⟨_, rfl⟩
     rw [hy] at Sa hadd
     clear hy
     have Si := sz3 Xk (by rw [List.length_append, ry, ry]; omega)
     have Sg := adu (n := b.size) agh
     obtain ⟨z1, hz1⟩ : ∃ z : Int, z = (Wd.uy (a.data.toList ++ b.data.toList) : Nat) := ⟨_, rfl⟩
     obtain ⟨z2, hz2⟩ : ∃ z : Int, z = ((10 ^ b.size : Nat) : Int) := ⟨_, rfl⟩
     have hz0 : z2 ≠ 0 := by have := Nat.pow_pos (n := b.size) (show 0 < 10 by decide); omega
     have hz3 : (10 : Int) ^ b.size = z2 := by rw [hz2, Int.natCast_pow]; rfl
     rw [← hz1] at Sa Iu Si
     rw [← hz2] at Iu Sg
     have HNR := hide (fun s2 cu A2 c2 l2 s3 pq A3 c3 l3 W (hW : qm W) (g2 : fq W s2 cu A2 c2 l2 z1) (g3 : fq W s3 pq A3 c3 l3 z2) => Xd (K := 3) s2 cu A2 c2 l2 s3 pq A3 c3 l3 z1 z2 W hW g2 g3 hz0 Si Sg (by rw [Al]; omega))
     have awe := hide (fun W => zm 10 om om W)
     have HPW := hide (fun s2 cu A2 c2 l2 W (g2 : fq W s2 cu A2 c2 l2 10) => afn s2 cu A2 c2 l2 10 b.size 1 W g2 Ye (by rw [Al]; omega) (by rw [Al]; omega) om)
     rw [hz3] at HPW
     clear Xk agh auv Si Sg hz1 hz2 hz0 hz3 Pt Sc
     go_wp2_with (first | (go_at_call_of 156 (Value.string a); refine ((aa Ig) _).mono ?_; rintro e w' ⟨rfl, rfl⟩) | (go_at_call 158; refine ((aa Lb) _).mono ?_; rintro e w' ⟨rfl, rfl⟩))
     refine ((aa awe) _).mono ?_
     rintro e V2 ⟨s2, cu, A2, c2, l2, rfl, f2, hb⟩
     have F2 := hide f2
     clear f2
     replace NR := hide ((hb.block _ (lt_of_block (aa NR))).trans (aa NR))
     replace HB := Lib.hid (bg HB.out hb)
     clear hb
     go_wp2_with fail
     refine ((aa HPW) s2 cu A2 c2 l2 _ (aa F2)).mono ?_
     rintro e V3 ⟨s3, pq, A3, c3, l3, rfl, f3, hb⟩
     have F3 := hide f3
     clear f3 F2
     replace NR := hide ((hb.block _ (lt_of_block (aa NR))).trans (aa NR))
     replace HB := Lib.hid (bg HB.out hb)
     clear hb
     go_upto_region 10 with fail
     have nu := heap_alloc_new V3 (.cells #[.int .i64 s3, .bool pq, .slice A3 l3.length c3] 77)
     have hb := gy (Below.refl V3.heap.size V3) (.cells #[.int .i64 s3, .bool pq, .slice A3 l3.length c3] 77)
     generalize V3.alloc (.cells #[.int .i64 s3, .bool pq, .slice A3 l3.length c3] 77) = V4 at *
     obtain ⟨bu, hbu⟩ : ∃ b, b = V3.heap.size := ⟨_, rfl⟩
     rw [← hbu] at nu ⊢
     have obu : w.heap.size < bu := by rw [hbu]; exact lt_of_block (aa NR)
     clear hbu
     replace NR := hide ((hb.block _ (lt_of_block (aa NR))).trans (aa NR))
     replace HB := Lib.hid (bg HB.out hb)
     replace F3 := hide ((aa F3).below hb)
     clear hb
     have bmh : V4.cell? ⟨bu, 0, none⟩ = some (.int .i64 s3) := ag nu 0
     have bmg : V4.cell? ⟨bu, 1, none⟩ = some (.bool pq) := ag nu 1
     have bmf : V4.cell? ⟨bu, 2, none⟩ = some (.slice A3 l3.length c3) := ag nu 2
     have qu := lt_of_block nu
     have r0 : V4.cell? ⟨w.heap.size, 0, none⟩ = some (.int .i64 0) := ag (aa NR) 0
     have Ny := ai (aa NR) 0
     have r1 : V4.cell? ⟨w.heap.size, 1, none⟩ = some (.bool false) := ag (aa NR) 1
     have Nw := ai (aa NR) 1
     have r2 : V4.cell? ⟨w.heap.size, 2, none⟩ = some (.slice none 0 0) := ag (aa NR) 2
     have Wj := ai (aa NR) 2
     have r3 : V4.cell? ⟨w.heap.size, 3, none⟩ = some (.int .i64 0) := ag (aa NR) 3
     have fr3 := ai (aa NR) 3
     have r4 : V4.cell? ⟨w.heap.size, 4, none⟩ = some (.bool false) := ag (aa NR) 4
     have fr4 := ai (aa NR) 4
     have r5 : V4.cell? ⟨w.heap.size, 5, none⟩ = some (.slice none 0 0) := ag (aa NR) 5
     have fr5 := ai (aa NR) 5
     have qr := lt_of_block (aa NR)
     clear nu
     go_region_with (first | (go_at_call 157; refine ((aa Sa) _).mono ?_; rintro e w' ⟨s4, xm, A4, c4, l4, rfl, f4, hb4⟩; have hbw := bz (w := V4) (by (first | with_reducible assumption | (repeat (first | with_reducible exact Below.refl _ _ | with_reducible assumption | refine Below.drew ?_ | (refine Below.alloc ?_ (by simp <;> omega) _) | refine mi ?_ _)))) hb4; obtain ⟨hc, hfz⟩ := dz hbw) | (go_at_call 136; refine ((aa HNR) s4 xm A4 c4 l4 s3 pq A3 c3 l3 _ ((aa HT).below (bg HB.out (by (first | with_reducible assumption | (repeat (first | with_reducible exact Below.refl _ _ | with_reducible assumption | refine Below.drew ?_ | (refine Below.alloc ?_ (by simp <;> omega) _) | refine mi ?_ _)))))) (by first | exact f4 | exact fq.below f4 (by (first | with_reducible assumption | (repeat (first | with_reducible exact Below.refl _ _ | with_reducible assumption | refine Below.drew ?_ | (refine Below.alloc ?_ (by simp <;> omega) _) | refine mi ?_ _))))) (fq.below (aa F3) (by (first | with_reducible assumption | (repeat (first | with_reducible exact Below.refl _ _ | with_reducible assumption | refine Below.drew ?_ | (refine Below.alloc ?_ (by simp <;> omega) _) | refine mi ?_ _)))))).mono ?_; rintro e w' ⟨s5, qa, A5, c5, l5, s6, su, A6, c6, l6, rfl, f5, f6, hb5⟩; have hbw := bz (w := V4) (by (first | with_reducible assumption | (repeat (first | with_reducible exact Below.refl _ _ | with_reducible assumption | refine Below.drew ?_ | (refine Below.alloc ?_ (by simp <;> omega) _) | refine mi ?_ _)))) hb5; obtain ⟨hc, hfz⟩ := dz hbw))
     all_goals
      replace NR := hide ((hbw.block _ (lt_of_block (aa NR))).trans (aa NR))
      replace HB := Lib.hid (bg HB.out hbw)
      have jy := Lib.hid (aa NR)
      have F5 := hide f5; have F6 := hide f6
      go_wp2_with fail
      exact bodyPost_ret (v := .tuple #[(Value.agg #[.int .i64 s5, .bool qa, .slice A5 l5.length c5, .int .i64 s6, .bool su, .slice A6 l6.length c6]), .bool true]) (by simp [results, Tryz.results86, go_sem, hc, r0, r1, r2, r3, r4, r5, qr]) rfl
       (.inr ⟨_, s5, qa, A5, c5, l5, s6, su, A6, c6, l6, Iu.out, rfl, (aa F5).upto jy.out (tu _ _ _ _ _ _ _ _ _ _) (jw _ _ _ _ _ _ _ _), (aa F6).upto jy.out (tu _ _ _ _ _ _ _ _ _ _) (jw _ _ _ _ _ _ _ _), HB.out.grown (jw _ _ _ _ _ _ _ _) HB.out.size (fun k hk => by injection hk with hk; omega)⟩)
    ·
     have HN := Lib.hid (show Wd.Ar s.data.toList = none by rw [Wd.Xb hn hl hn2, na, Ol nb]; rfl)
     rw [na] at Ig
     rw [Ol nb] at Lb
     clear na nb hl hn hn2 Pt Sc
     have r0 : W2.cell? ⟨w.heap.size, 0, none⟩ = some (.int .i64 0) := ag (aa NR) 0
     have Ny := ai (aa NR) 0
     have r1 : W2.cell? ⟨w.heap.size, 1, none⟩ = some (.bool false) := ag (aa NR) 1
     have Nw := ai (aa NR) 1
     have r2 : W2.cell? ⟨w.heap.size, 2, none⟩ = some (.slice none 0 0) := ag (aa NR) 2
     have Wj := ai (aa NR) 2
     have r3 : W2.cell? ⟨w.heap.size, 3, none⟩ = some (.int .i64 0) := ag (aa NR) 3
     have fr3 := ai (aa NR) 3
     have r4 : W2.cell? ⟨w.heap.size, 4, none⟩ = some (.bool false) := ag (aa NR) 4
     have fr4 := ai (aa NR) 4
     have r5 : W2.cell? ⟨w.heap.size, 5, none⟩ = some (.slice none 0 0) := ag (aa NR) 5
     have fr5 := ai (aa NR) 5
     have qr := lt_of_block (aa NR)
     go_wp2_with (first | (go_at_call_of 156 (Value.string a); refine ((aa Ig) _).mono ?_; rintro e w' ⟨rfl, rfl⟩) | (go_at_call 158; refine ((aa Lb) _).mono ?_; rintro e w' ⟨rfl, rfl⟩))
     exact bodyPost_ret (v := .tuple #[(Value.agg #[.int .i64 0, .bool false, .slice none 0 0, .int .i64 0, .bool false, .slice none 0 0]), .bool false]) (by simp [results, Tryz.results86, go_sem, r0, r1, r2, r3, r4, r5, qr]) rfl
      (.inl ⟨HN.out, rfl, HB.out.grown (jw _ _ _ _ _ _ _ _) HB.out.size (fun k hk => by injection hk with hk; omega)⟩)
   ·
    have HN := Lib.hid (show Wd.Ar s.data.toList = none by rw [Wd.Xb hn hl hn2, Ol na]; rfl)
    rw [Ol na] at Ig
    clear na hl hn hn2 Pt Sc Lb
    have r0 : W2.cell? ⟨w.heap.size, 0, none⟩ = some (.int .i64 0) := ag (aa NR) 0
    have Ny := ai (aa NR) 0
    have r1 : W2.cell? ⟨w.heap.size, 1, none⟩ = some (.bool false) := ag (aa NR) 1
    have Nw := ai (aa NR) 1
    have r2 : W2.cell? ⟨w.heap.size, 2, none⟩ = some (.slice none 0 0) := ag (aa NR) 2
    have Wj := ai (aa NR) 2
    have r3 : W2.cell? ⟨w.heap.size, 3, none⟩ = some (.int .i64 0) := ag (aa NR) 3
    have fr3 := ai (aa NR) 3
    have r4 : W2.cell? ⟨w.heap.size, 4, none⟩ = some (.bool false) := ag (aa NR) 4
    have fr4 := ai (aa NR) 4
    have r5 : W2.cell? ⟨w.heap.size, 5, none⟩ = some (.slice none 0 0) := ag (aa NR) 5
    have fr5 := ai (aa NR) 5
    have qr := lt_of_block (aa NR)
    go_wp2_with (first | (go_at_call_of 156 (Value.string a); refine ((aa Ig) _).mono ?_; rintro e w' ⟨rfl, rfl⟩))
    exact bodyPost_ret (v := .tuple #[(Value.agg #[.int .i64 0, .bool false, .slice none 0 0, .int .i64 0, .bool false, .slice none 0 0]), .bool false]) (by simp [results, Tryz.results86, go_sem, r0, r1, r2, r3, r4, r5, qr]) rfl
     (.inl ⟨HN.out, rfl, HB.out.grown (jw _ _ _ _ _ _ _ _) HB.out.size (fun k hk => by injection hk with hk; omega)⟩)
  ·
   have Ig := hide (fun W => Gy a W (by have := aa Ry; rw [ha]; omega))
   by_cases na : Wd.Bt a.data.toList = true
   ·
    obtain ⟨g4, g5, g6⟩ := Wd.wh.1 (Wd.zx.1 na).1
    rw [ry] at g5
    have hb0 : b.size = 0 := by rw [← ry, hbn]; rfl
    have Xk : (a.data.toList ++ b.data.toList).all Wd.Ac = true := by rw [hbn, List.append_nil]; exact g6
    have agh : b.size ≤ 12 := by omega
    have auv : a.size ≤ 20 := by omega
    have Iu := Lib.hid (show Wd.Ar s.data.toList = some (Rat.divInt (Wd.uy (a.data.toList ++ b.data.toList) : Nat) ((10 ^ b.size : Nat) : Int)) by
     rw [Wd.Qq hn hn2, ← ha, na, hbn, List.append_nil, hb0]; rfl)
    rw [na] at Ig
    clear na g4 g5 g6 ha hbn hn hn2 hb0
    have Sa := hide (fun W => Js (a ++ b) W (by rw [ahc]; exact Xk) (by rw [aeb]; omega))
    rw [ahc] at Sa
    have hadd : ∀ W, (Op.stringOp .add a b).run Tryz.prog W = .ok (.string (a ++ b)) W := fun W => run_string_add_sum W a b om
    have hno : ¬ (a.size + b.size > 9223372036854775807) := by omega
    obtain ⟨y, hy⟩ : ∃ y, a ++ b = y := ⟨_, rfl⟩
    rw [hy] at Sa hadd
    clear hy
    have Si := sz3 Xk (by rw [List.length_append, ry, ry]; omega)
    have Sg := adu (n := b.size) agh
    obtain ⟨z1, hz1⟩ : ∃ z : Int, z = (Wd.uy (a.data.toList ++ b.data.toList) : Nat) := ⟨_, rfl⟩
    obtain ⟨z2, hz2⟩ : ∃ z : Int, z = ((10 ^ b.size : Nat) : Int) := ⟨_, rfl⟩
    have hz0 : z2 ≠ 0 := by have := Nat.pow_pos (n := b.size) (show 0 < 10 by decide); omega
    have hz3 : (10 : Int) ^ b.size = z2 := by rw [hz2, Int.natCast_pow]; rfl
    rw [← hz1] at Sa Iu Si
    rw [← hz2] at Iu Sg
    have HNR := hide (fun s2 cu A2 c2 l2 s3 pq A3 c3 l3 W (hW : qm W) (g2 : fq W s2 cu A2 c2 l2 z1) (g3 : fq W s3 pq A3 c3 l3 z2) => Xd (K := 3) s2 cu A2 c2 l2 s3 pq A3 c3 l3 z1 z2 W hW g2 g3 hz0 Si Sg (by rw [Al]; omega))
    have awe := hide (fun W => zm 10 om om W)
    have HPW := hide (fun s2 cu A2 c2 l2 W (g2 : fq W s2 cu A2 c2 l2 10) => afn s2 cu A2 c2 l2 10 b.size 1 W g2 Ye (by rw [Al]; omega) (by rw [Al]; omega) om)
    rw [hz3] at HPW
    clear Xk agh auv Si Sg hz1 hz2 hz0 hz3 Pt Sc
    go_wp2_with (first | (go_at_call_of 156 (Value.string a); refine ((aa Ig) _).mono ?_; rintro e w' ⟨rfl, rfl⟩))
    refine ((aa awe) _).mono ?_
    rintro e V2 ⟨s2, cu, A2, c2, l2, rfl, f2, hb⟩
    have F2 := hide f2
    clear f2
    replace NR := hide ((hb.block _ (lt_of_block (aa NR))).trans (aa NR))
    replace HB := Lib.hid (bg HB.out hb)
    clear hb
    go_wp2_with fail
    refine ((aa HPW) s2 cu A2 c2 l2 _ (aa F2)).mono ?_
    rintro e V3 ⟨s3, pq, A3, c3, l3, rfl, f3, hb⟩
    have F3 := hide f3
    clear f3 F2
    replace NR := hide ((hb.block _ (lt_of_block (aa NR))).trans (aa NR))
    replace HB := Lib.hid (bg HB.out hb)
    clear hb
    go_upto_region 10 with fail
    have nu := heap_alloc_new V3 (.cells #[.int .i64 s3, .bool pq, .slice A3 l3.length c3] 77)
    have hb := gy (Below.refl V3.heap.size V3) (.cells #[.int .i64 s3, .bool pq, .slice A3 l3.length c3] 77)
    generalize V3.alloc (.cells #[.int .i64 s3, .bool pq, .slice A3 l3.length c3] 77) = V4 at *
    obtain ⟨bu, hbu⟩ : ∃ b, b = V3.heap.size := ⟨_, rfl⟩
    rw [← hbu] at nu ⊢
    have obu : w.heap.size < bu := by rw [hbu]; exact lt_of_block (aa NR)
    clear hbu
    replace NR := hide ((hb.block _ (lt_of_block (aa NR))).trans (aa NR))
    replace HB := Lib.hid (bg HB.out hb)
    replace F3 := hide ((aa F3).below hb)
    clear hb
    have bmh : V4.cell? ⟨bu, 0, none⟩ = some (.int .i64 s3) := ag nu 0
    have bmg : V4.cell? ⟨bu, 1, none⟩ = some (.bool pq) := ag nu 1
    have bmf : V4.cell? ⟨bu, 2, none⟩ = some (.slice A3 l3.length c3) := ag nu 2
    have qu := lt_of_block nu
    have r0 : V4.cell? ⟨w.heap.size, 0, none⟩ = some (.int .i64 0) := ag (aa NR) 0
    have Ny := ai (aa NR) 0
    have r1 : V4.cell? ⟨w.heap.size, 1, none⟩ = some (.bool false) := ag (aa NR) 1
    have Nw := ai (aa NR) 1
    have r2 : V4.cell? ⟨w.heap.size, 2, none⟩ = some (.slice none 0 0) := ag (aa NR) 2
    have Wj := ai (aa NR) 2
    have r3 : V4.cell? ⟨w.heap.size, 3, none⟩ = some (.int .i64 0) := ag (aa NR) 3
    have fr3 := ai (aa NR) 3
    have r4 : V4.cell? ⟨w.heap.size, 4, none⟩ = some (.bool false) := ag (aa NR) 4
    have fr4 := ai (aa NR) 4
    have r5 : V4.cell? ⟨w.heap.size, 5, none⟩ = some (.slice none 0 0) := ag (aa NR) 5
    have fr5 := ai (aa NR) 5
    have qr := lt_of_block (aa NR)
    clear nu
    go_region_with (first | (go_at_call 157; refine ((aa Sa) _).mono ?_; rintro e w' ⟨s4, xm, A4, c4, l4, rfl, f4, hb4⟩; have hbw := bz (w := V4) (by (first | with_reducible assumption | (repeat (first | with_reducible exact Below.refl _ _ | with_reducible assumption | refine Below.drew ?_ | (refine Below.alloc ?_ (by simp <;> omega) _) | refine mi ?_ _)))) hb4; obtain ⟨hc, hfz⟩ := dz hbw) | (go_at_call 136; refine ((aa HNR) s4 xm A4 c4 l4 s3 pq A3 c3 l3 _ ((aa HT).below (bg HB.out (by (first | with_reducible assumption | (repeat (first | with_reducible exact Below.refl _ _ | with_reducible assumption | refine Below.drew ?_ | (refine Below.alloc ?_ (by simp <;> omega) _) | refine mi ?_ _)))))) (by first | exact f4 | exact fq.below f4 (by (first | with_reducible assumption | (repeat (first | with_reducible exact Below.refl _ _ | with_reducible assumption | refine Below.drew ?_ | (refine Below.alloc ?_ (by simp <;> omega) _) | refine mi ?_ _))))) (fq.below (aa F3) (by (first | with_reducible assumption | (repeat (first | with_reducible exact Below.refl _ _ | with_reducible assumption | refine Below.drew ?_ | (refine Below.alloc ?_ (by simp <;> omega) _) | refine mi ?_ _)))))).mono ?_; rintro e w' ⟨s5, qa, A5, c5, l5, s6, su, A6, c6, l6, rfl, f5, f6, hb5⟩; have hbw := bz (w := V4) (by (first | with_reducible assumption | (repeat (first | with_reducible exact Below.refl _ _ | with_reducible assumption | refine Below.drew ?_ | (refine Below.alloc ?_ (by simp <;> omega) _) | refine mi ?_ _)))) hb5; obtain ⟨hc, hfz⟩ := dz hbw))
    all_goals
     replace NR := hide ((hbw.block _ (lt_of_block (aa NR))).trans (aa NR))
     replace HB := Lib.hid (bg HB.out hbw)
     have jy := Lib.hid (aa NR)
     have F5 := hide f5; have F6 := hide f6
     go_wp2_with fail
     exact bodyPost_ret (v := .tuple #[(Value.agg #[.int .i64 s5, .bool qa, .slice A5 l5.length c5, .int .i64 s6, .bool su, .slice A6 l6.length c6]), .bool true]) (by simp [results, Tryz.results86, go_sem, hc, r0, r1, r2, r3, r4, r5, qr]) rfl
      (.inr ⟨_, s5, qa, A5, c5, l5, s6, su, A6, c6, l6, Iu.out, rfl, (aa F5).upto jy.out (tu _ _ _ _ _ _ _ _ _ _) (jw _ _ _ _ _ _ _ _), (aa F6).upto jy.out (tu _ _ _ _ _ _ _ _ _ _) (jw _ _ _ _ _ _ _ _), HB.out.grown (jw _ _ _ _ _ _ _ _) HB.out.size (fun k hk => by injection hk with hk; omega)⟩)
   ·
    have HN := Lib.hid (show Wd.Ar s.data.toList = none by rw [Wd.Qq hn hn2, ← ha, Ol na]; rfl)
    rw [Ol na] at Ig
    clear na ha hbn hn hn2 Pt Sc
    have r0 : W2.cell? ⟨w.heap.size, 0, none⟩ = some (.int .i64 0) := ag (aa NR) 0
    have Ny := ai (aa NR) 0
    have r1 : W2.cell? ⟨w.heap.size, 1, none⟩ = some (.bool false) := ag (aa NR) 1
    have Nw := ai (aa NR) 1
    have r2 : W2.cell? ⟨w.heap.size, 2, none⟩ = some (.slice none 0 0) := ag (aa NR) 2
    have Wj := ai (aa NR) 2
    have r3 : W2.cell? ⟨w.heap.size, 3, none⟩ = some (.int .i64 0) := ag (aa NR) 3
    have fr3 := ai (aa NR) 3
    have r4 : W2.cell? ⟨w.heap.size, 4, none⟩ = some (.bool false) := ag (aa NR) 4
    have fr4 := ai (aa NR) 4
    have r5 : W2.cell? ⟨w.heap.size, 5, none⟩ = some (.slice none 0 0) := ag (aa NR) 5
    have fr5 := ai (aa NR) 5
    have qr := lt_of_block (aa NR)
    go_wp2_with (first | (go_at_call_of 156 (Value.string a); refine ((aa Ig) _).mono ?_; rintro e w' ⟨rfl, rfl⟩))
    exact bodyPost_ret (v := .tuple #[(Value.agg #[.int .i64 0, .bool false, .slice none 0 0, .int .i64 0, .bool false, .slice none 0 0]), .bool false]) (by simp [results, Tryz.results86, go_sem, r0, r1, r2, r3, r4, r5, qr]) rfl
     (.inl ⟨HN.out, rfl, HB.out.grown (jw _ _ _ _ _ _ _ _) HB.out.size (fun k hk => by injection hk with hk; omega)⟩)


namespace Wd
def tellT (m : Bool) (o : Option Rat) : Told := match o with
 | none => ⟨0, 0, 2⟩
 | some q => if m = true ∧ q = 0 then ⟨0, 0, 2⟩ else told (if m = true then -q else q)
theorem apw (l : List UInt8) : Td l = if l.head? = some 45 then tellT true (Ar l.tail) else tellT false (Ar l) := by
 unfold Td tellT
 split
 ·
  cases Ar l.tail with
  | none => rfl
  | some q => simp
 ·
  cases Ar l with
  | none => rfl
  | some q => simp
end Wd
theorem Zf (s : ByteArray) : (⟨s.data.toList.toArray⟩ : ByteArray) = s := by cases s; simp
theorem avn (s : ByteArray) (h : s.data.toList.head? = some 45) (W : World) :
  Calls Tryz.prog 85 #[.string s, .string ⟨#[45]⟩] W fun e w' => e = .returned (.tuple #[.string ⟨s.data.toList.tail.toArray⟩, .bool true]) ∧ w' = W := by
 have h1 : Lib.hasPrefix s.data.toList [45] = true := by
  unfold Lib.hasPrefix
  cases hl : s.data.toList with
  | nil => rw [hl] at h; cases h
  | cons c l => rw [hl] at h; have := Option.some.inj h; rw [this]; rfl
 have h2 : Lib.trimPrefix s.data.toList [45] = s.data.toList.tail := by
  unfold Lib.trimPrefix; rw [if_pos h1]
  cases s.data.toList with
  | nil => rfl
  | cons c l => rfl
 refine (Tryz.strings_CutPrefix s ⟨#[45]⟩ W).mono ?_
 rintro e w' ⟨he, hw⟩
 refine ⟨he.trans ?_, hw⟩
 show Ending.returned (.tuple #[.string ⟨(Lib.trimPrefix s.data.toList [45]).toArray⟩, .bool (Lib.hasPrefix s.data.toList [45])]) = _
 rw [h1, h2]
theorem ajv (s : ByteArray) (h : ¬ s.data.toList.head? = some 45) (W : World) :
  Calls Tryz.prog 85 #[.string s, .string ⟨#[45]⟩] W fun e w' => e = .returned (.tuple #[.string s, .bool false]) ∧ w' = W := by
 have h1 : Lib.hasPrefix s.data.toList [45] = false := by
  unfold Lib.hasPrefix
  cases hl : s.data.toList with
  | nil => rfl
  | cons c l =>
   rw [hl] at h
   have hc : ¬ 45 = c := fun e => h (by rw [← e]; rfl)
   simp [List.isPrefixOf, hc]
 have h2 : Lib.trimPrefix s.data.toList [45] = s.data.toList := by
  unfold Lib.trimPrefix; rw [h1]; rfl
 refine (Tryz.strings_CutPrefix s ⟨#[45]⟩ W).mono ?_
 rintro e w' ⟨he, hw⟩
 refine ⟨he.trans ?_, hw⟩
 show Ending.returned (.tuple #[.string ⟨(Lib.trimPrefix s.data.toList [45]).toArray⟩, .bool (Lib.hasPrefix s.data.toList [45])]) = _
 rw [h1, h2, Zf]

theorem aoz (s1 : Int) (cz : Bool) (A1 : Option Addr) (c1 : Nat) (l1 : List Nat) (s2 : Int) (cu : Bool) (A2 : Option Addr) (c2 : Nat) (l2 : List Nat) (z : Int) (w : World) (h1 : fq w s1 cz A1 c1 l1 z) :
  Calls Tryz.prog 87 #[(Value.agg #[.int .i64 s1, .bool cz, .slice A1 l1.length c1, .int .i64 s2, .bool cu, .slice A2 l2.length c2])] w fun e w' => e = .returned (.int .i64 (lh z)) ∧ Below w.heap.size w w' := by
 have HS := hide (fun W (hW : Below w.heap.size w W) => ve s1 cz A1 c1 l1 z W (h1.below hW))
 obtain ⟨o, ho⟩ : ∃ o, o = lh z := ⟨_, rfl⟩
 rw [← ho] at HS ⊢
 clear h1 ho
 go_enter Tryz.func87, Tryz.ntmps87
 go_upto_region 1 with fail
 obtain ⟨nr, hsz, hw0⟩ := Jf w (.cells #[.int .i64 s1, .bool cz, .slice A1 l1.length c1, .int .i64 s2, .bool cu, .slice A2 l2.length c2] 79)
 generalize w.alloc (.cells #[.int .i64 s1, .bool cz, .slice A1 l1.length c1, .int .i64 s2, .bool cu, .slice A2 l2.length c2] 79) = W0 at *
 have k0 : W0.cell? ⟨w.heap.size, 0, none⟩ = some (.int .i64 s1) := ag nr 0
 have k1 : W0.cell? ⟨w.heap.size, 1, none⟩ = some (.bool cz) := ag nr 1
 have k2 : W0.cell? ⟨w.heap.size, 2, none⟩ = some (.slice A1 l1.length c1) := ag nr 2
 have k3 : W0.cell? ⟨w.heap.size, 3, none⟩ = some (.int .i64 s2) := ag nr 3
 have k4 : W0.cell? ⟨w.heap.size, 4, none⟩ = some (.bool cu) := ag nr 4
 have k5 : W0.cell? ⟨w.heap.size, 5, none⟩ = some (.slice A2 l2.length c2) := ag nr 5
 clear hsz nr
 go_wp2_with fail
 refine ((aa HS) _ hw0).mono ?_
 rintro e w' ⟨rfl, hb⟩
 have jh := bg hw0 hb
 clear hb
 go_wp2_with fail
 all_goals first | go_ret | skip
 exact ⟨rfl, jh⟩

theorem Lh (s B : ByteArray) (m : Bool) (o : Option Rat) (ho : Wd.Ar B.data.toList = o) (w : World) (hT : qm w)
  (hcut : ∀ W, Calls Tryz.prog 85 #[.string s, .string ⟨#[45]⟩] W fun e w' => e = .returned (.tuple #[.string B, .bool m]) ∧ w' = W)
  (hpos : ∀ W, qm W → Calls Tryz.prog 86 #[.string B] W fun e w' => bgj W B.data.toList e w') :
  Calls Tryz.prog 24 #[.string s] w fun e w' => bgg w (Wd.tellT m o) e w' := by
 obtain ⟨t, ht⟩ : ∃ t, t = Wd.tellT m o := ⟨_, rfl⟩
 rw [← ht]
 have HT := hide hT; have HC := hide hcut; have HP := hide hpos; have HO := Lib.hid ho; have HTE := Lib.hid ht
 clear hT hcut hpos ho ht
 go_enter Tryz.func24, Tryz.ntmps24
 go_upto_region 1 with fail
 obtain ⟨nr, hsz, hw0⟩ := Jf w (.cells #[.int .i64 0, .int .i64 0] 23)
 generalize w.alloc (.cells #[.int .i64 0, .int .i64 0] 23) = W0 at *
 have NR := hide nr; have HB := Lib.hid hw0
 clear hsz nr hw0
 go_wp2_with (go_at_call 85; refine ((aa HC) _).mono ?_; rintro e w' ⟨rfl, rfl⟩)
 refine ((aa HP) _ ((aa HT).below HB.out)).mono ?_
 rintro e V1 hpr
 rcases hpr with ⟨hpn, rfl, hb⟩ | ⟨q, s1, cz, A1, c1, l1, s2, cu, A2, c2, l2, hpn, rfl, f1, f2, hb⟩
 ·
  have Pq := Lib.hid (show t = ⟨0, 0, 2⟩ by rw [HTE.out, ← HO.out, hpn]; rfl)
  replace NR := hide ((hb.block _ (lt_of_block (aa NR))).trans (aa NR))
  replace HB := Lib.hid (bg HB.out hb)
  clear hb hpn HP HC
  go_upto_region 3 with fail
  have hn := heap_alloc_new V1 (.cells #[.int .i64 0, .bool false, .slice none 0 0, .int .i64 0, .bool false, .slice none 0 0] 79)
  have hb := gy (Below.refl V1.heap.size V1) (.cells #[.int .i64 0, .bool false, .slice none 0 0, .int .i64 0, .bool false, .slice none 0 0] 79)
  generalize V1.alloc (.cells #[.int .i64 0, .bool false, .slice none 0 0, .int .i64 0, .bool false, .slice none 0 0] 79) = W2 at *
  obtain ⟨bx, hbx⟩ : ∃ b, b = V1.heap.size := ⟨_, rfl⟩
  rw [← hbx] at hn ⊢
  have obx : w.heap.size < bx := by rw [hbx]; exact lt_of_block (aa NR)
  clear hbx
  have kx0 : W2.cell? ⟨bx, 0, none⟩ = some (.int .i64 0) := ag hn 0
  have kx1 : W2.cell? ⟨bx, 1, none⟩ = some (.bool false) := ag hn 1
  have kx2 : W2.cell? ⟨bx, 2, none⟩ = some (.slice none 0 0) := ag hn 2
  have kx3 : W2.cell? ⟨bx, 3, none⟩ = some (.int .i64 0) := ag hn 3
  have kx4 : W2.cell? ⟨bx, 4, none⟩ = some (.bool false) := ag hn 4
  have kx5 : W2.cell? ⟨bx, 5, none⟩ = some (.slice none 0 0) := ag hn 5
  replace NR := hide ((hb.block _ (lt_of_block (aa NR))).trans (aa NR))
  replace HB := Lib.hid (bg HB.out hb)
  clear hb hn
  have r0 : W2.cell? ⟨w.heap.size, 0, none⟩ = some (.int .i64 0) := ag (aa NR) 0
  have Ny := ai (aa NR) 0
  have r1 : W2.cell? ⟨w.heap.size, 1, none⟩ = some (.int .i64 0) := ag (aa NR) 1
  have Nw := ai (aa NR) 1
  have qr := lt_of_block (aa NR)
  go_wp2_with fail
  exact bodyPost_ret (v := .tuple #[.agg #[.int .i64 0, .int .i64 0], .int .i64 2]) (by simp [results, Tryz.results24, go_sem, r0, r1, qr]) rfl
   ⟨by rw [Pq.out], HB.out.grown (mh _ _ _ _) HB.out.size (fun k hk => by injection hk with hk; omega)⟩
 ·
  have HQ := Lib.hid (show o = some q from HO.out.symm.trans hpn)
  have F1 := hide f1; have F2 := hide f2
  replace NR := hide ((hb.block _ (lt_of_block (aa NR))).trans (aa NR))
  replace HB := Lib.hid (bg HB.out hb)
  clear hb hpn HP HC f1 f2
  go_upto_region 3 with fail
  have hn := heap_alloc_new V1 (.cells #[.int .i64 s1, .bool cz, .slice A1 l1.length c1, .int .i64 s2, .bool cu, .slice A2 l2.length c2] 79)
  have hb := gy (Below.refl V1.heap.size V1) (.cells #[.int .i64 s1, .bool cz, .slice A1 l1.length c1, .int .i64 s2, .bool cu, .slice A2 l2.length c2] 79)
  generalize V1.alloc (.cells #[.int .i64 s1, .bool cz, .slice A1 l1.length c1, .int .i64 s2, .bool cu, .slice A2 l2.length c2] 79) = W2 at *
  obtain ⟨bx, hbx⟩ : ∃ b, b = V1.heap.size := ⟨_, rfl⟩
  rw [← hbx] at hn ⊢
  have obx : w.heap.size < bx := by rw [hbx]; exact lt_of_block (aa NR)
  clear hbx
  have JX := hide hn
  replace NR := hide ((hb.block _ (lt_of_block (aa NR))).trans (aa NR))
  replace HB := Lib.hid (bg HB.out hb)
  replace F1 := hide ((aa F1).below hb)
  replace F2 := hide ((aa F2).below hb)
  clear hb hn
  have kx0 : W2.cell? ⟨bx, 0, none⟩ = some (.int .i64 s1) := ag (aa JX) 0
  have ux0 := ai (aa JX) 0
  have kx1 : W2.cell? ⟨bx, 1, none⟩ = some (.bool cz) := ag (aa JX) 1
  have ux1 := ai (aa JX) 1
  have kx2 : W2.cell? ⟨bx, 2, none⟩ = some (.slice A1 l1.length c1) := ag (aa JX) 2
  have ux2 := ai (aa JX) 2
  have kx3 : W2.cell? ⟨bx, 3, none⟩ = some (.int .i64 s2) := ag (aa JX) 3
  have ux3 := ai (aa JX) 3
  have kx4 : W2.cell? ⟨bx, 4, none⟩ = some (.bool cu) := ag (aa JX) 4
  have ux4 := ai (aa JX) 4
  have kx5 : W2.cell? ⟨bx, 5, none⟩ = some (.slice A2 l2.length c2) := ag (aa JX) 5
  have ux5 := ai (aa JX) 5
  have qx := lt_of_block (aa JX)
  cases m
  ·
   have Pq := Lib.hid (show t = Wd.told q by rw [HTE.out, HQ.out]; simp [Wd.tellT])
   have ht2 : Wd.told q = t := Pq.out.symm
   have HR := hide (fun s5 qa A5 c5 l5 s6 su A6 c6 l6 W (g1 : fq W s5 qa A5 c5 l5 (q).num) (g2 : fq W s6 su A6 c6 l6 ((q).den : Int)) => Xa s5 qa A5 c5 l5 _ s6 su A6 c6 l6 _ W g1 g2 (q) rfl rfl)
   rw [ht2] at HR
   replace Pq := Lib.hid (show t = t from rfl)
   clear ht2 HQ HTE HO
   go_wp2_with fail
   refine ((aa HR) s1 cz A1 c1 l1 s2 cu A2 c2 l2 _ (aa F1) (aa F2)).mono ?_
   rintro e V9 ⟨rfl, hb⟩
   replace NR := hide ((hb.block _ (lt_of_block (aa NR))).trans (aa NR))
   replace HB := Lib.hid (bg HB.out hb)
   clear hb
   have r0 : V9.cell? ⟨w.heap.size, 0, none⟩ = some (.int .i64 0) := ag (aa NR) 0
   have Ny := ai (aa NR) 0
   have r1 : V9.cell? ⟨w.heap.size, 1, none⟩ = some (.int .i64 0) := ag (aa NR) 1
   have Nw := ai (aa NR) 1
   have qr := lt_of_block (aa NR)
   go_wp2_with fail
   exact bodyPost_ret (v := .tuple #[.agg #[.int .i64 t.n, .int .i64 t.d], .int .i64 t.e]) (by simp [results, Tryz.results24, go_sem, r0, r1, qr]) rfl
    ⟨rfl, HB.out.grown (mh _ _ _ _) HB.out.size (fun k hk => by injection hk with hk; omega)⟩
  ·
   have HS := hide (fun W (hW : Below W2.heap.size W2 W) => aoz s1 cz A1 c1 l1 s2 cu A2 c2 l2 q.num W ((aa F1).below hW))
   by_cases hz : q = 0
   ·
    have Pq := Lib.hid (show t = ⟨0, 0, 2⟩ by rw [HTE.out, HQ.out]; unfold Wd.tellT; dsimp only; rw [if_pos ⟨rfl, hz⟩])
    have hs0 : lh q.num = 0 := by rw [hz]; rfl
    rw [hs0] at HS
    clear hs0 hz HQ HTE HO
    go_wp2_with fail
    refine ((aa HS) _ (Below.refl _ _)).mono ?_
    rintro e V3 ⟨rfl, hb⟩
    clear kx0 ux0 kx1 ux1 kx2 ux2 kx3 ux3 kx4 ux4 kx5 ux5 qx
    replace NR := hide ((hb.block _ (lt_of_block (aa NR))).trans (aa NR))
    replace HB := Lib.hid (bg HB.out hb)
    replace JX := hide ((hb.block _ (lt_of_block (aa JX))).trans (aa JX))
    clear hb
    have r0 : V3.cell? ⟨w.heap.size, 0, none⟩ = some (.int .i64 0) := ag (aa NR) 0
    have Ny := ai (aa NR) 0
    have r1 : V3.cell? ⟨w.heap.size, 1, none⟩ = some (.int .i64 0) := ag (aa NR) 1
    have Nw := ai (aa NR) 1
    have qr := lt_of_block (aa NR)
    go_wp2_with fail
    exact bodyPost_ret (v := .tuple #[.agg #[.int .i64 0, .int .i64 0], .int .i64 2]) (by simp [results, Tryz.results24, go_sem, r0, r1, qr]) rfl
     ⟨by rw [Pq.out], HB.out.grown (mh _ _ _ _) HB.out.size (fun k hk => by injection hk with hk; omega)⟩
   ·
    have Pq := Lib.hid (show t = Wd.told (-q) by rw [HTE.out, HQ.out]; unfold Wd.tellT; dsimp only; rw [if_neg (fun h => hz h.2)]; rfl)
    have hs0 : ¬ lh q.num = 0 := fun h => hz (by
     have : q.num = 0 := by unfold lh at h; split at h <;> (try split at h) <;> omega
     exact Rat.num_eq_zero.1 this)
    obtain ⟨so, hso⟩ : ∃ so, so = lh q.num := ⟨_, rfl⟩
    rw [← hso] at HS hs0
    have e1 : (so == 0) = false := beq_eq_false_iff_ne.2 hs0
    have ht2 : Wd.told (-q) = t := Pq.out.symm
    have HR := hide (fun s5 qa A5 c5 l5 s6 su A6 c6 l6 W (g1 : fq W s5 qa A5 c5 l5 ((-q)).num) (g2 : fq W s6 su A6 c6 l6 (((-q)).den : Int)) => Xa s5 qa A5 c5 l5 _ s6 su A6 c6 l6 _ W g1 g2 ((-q)) rfl rfl)
    rw [ht2] at HR
    have HNG := hide (fun s5 qa A5 c5 l5 s6 su A6 c6 l6 W (g1 : fq W s5 qa A5 c5 l5 q.num) (g2 : fq W s6 su A6 c6 l6 (q.den : Int)) => aek s5 qa A5 c5 l5 _ s6 su A6 c6 l6 _ W g1 g2)
    rw [← Rat.neg_num, show (q.den : Int) = ((-q).den : Int) from by rw [Rat.neg_den]] at HNG
    replace F2 := hide (show fq W2 s2 cu A2 c2 l2 ((-q).den : Int) by rw [Rat.neg_den]; exact aa F2)
    replace Pq := Lib.hid (show t = t from rfl)
    clear ht2 HQ HTE HO hso hz
    go_wp2_with fail
    refine ((aa HS) _ (Below.refl _ _)).mono ?_
    rintro e V3 ⟨rfl, hb⟩
    clear kx0 ux0 kx1 ux1 kx2 ux2 kx3 ux3 kx4 ux4 kx5 ux5 qx
    replace NR := hide ((hb.block _ (lt_of_block (aa NR))).trans (aa NR))
    replace HB := Lib.hid (bg HB.out hb)
    replace F1 := hide ((aa F1).below hb)
    replace F2 := hide ((aa F2).below hb)
    replace JX := hide ((hb.block _ (lt_of_block (aa JX))).trans (aa JX))
    clear hb
    have kx0 : V3.cell? ⟨bx, 0, none⟩ = some (.int .i64 s1) := ag (aa JX) 0
    have ux0 := ai (aa JX) 0
    have kx1 : V3.cell? ⟨bx, 1, none⟩ = some (.bool cz) := ag (aa JX) 1
    have ux1 := ai (aa JX) 1
    have kx2 : V3.cell? ⟨bx, 2, none⟩ = some (.slice A1 l1.length c1) := ag (aa JX) 2
    have ux2 := ai (aa JX) 2
    have kx3 : V3.cell? ⟨bx, 3, none⟩ = some (.int .i64 s2) := ag (aa JX) 3
    have ux3 := ai (aa JX) 3
    have kx4 : V3.cell? ⟨bx, 4, none⟩ = some (.bool cu) := ag (aa JX) 4
    have ux4 := ai (aa JX) 4
    have kx5 : V3.cell? ⟨bx, 5, none⟩ = some (.slice A2 l2.length c2) := ag (aa JX) 5
    have ux5 := ai (aa JX) 5
    have qx := lt_of_block (aa JX)
    go_wp2_with fail
    refine ((aa HNG) s1 cz A1 c1 l1 s2 cu A2 c2 l2 _ (aa F1) (aa F2)).mono ?_
    rintro e V4 ⟨s3, pq, A3, c3, l3, s4, xm, A4, c4, l4, rfl, f3, f4, hb⟩
    have F3 := hide f3; have F4 := hide f4
    clear kx0 ux0 kx1 ux1 kx2 ux2 kx3 ux3 kx4 ux4 kx5 ux5 qx
    replace NR := hide ((hb.block _ (lt_of_block (aa NR))).trans (aa NR))
    replace HB := Lib.hid (bg HB.out hb)
    replace JX := hide ((hb.block _ (lt_of_block (aa JX))).trans (aa JX))
    clear hb f3 f4 F1 F2
    have kx0 : V4.cell? ⟨bx, 0, none⟩ = some (.int .i64 s1) := ag (aa JX) 0
    have ux0 := ai (aa JX) 0
    have kx1 : V4.cell? ⟨bx, 1, none⟩ = some (.bool cz) := ag (aa JX) 1
    have ux1 := ai (aa JX) 1
    have kx2 : V4.cell? ⟨bx, 2, none⟩ = some (.slice A1 l1.length c1) := ag (aa JX) 2
    have ux2 := ai (aa JX) 2
    have kx3 : V4.cell? ⟨bx, 3, none⟩ = some (.int .i64 s2) := ag (aa JX) 3
    have ux3 := ai (aa JX) 3
    have kx4 : V4.cell? ⟨bx, 4, none⟩ = some (.bool cu) := ag (aa JX) 4
    have ux4 := ai (aa JX) 4
    have kx5 : V4.cell? ⟨bx, 5, none⟩ = some (.slice A2 l2.length c2) := ag (aa JX) 5
    have ux5 := ai (aa JX) 5
    have qx := lt_of_block (aa JX)
    go_upto_region 7 with fail
    have hg := jw V4 bx (.int .i64 s3) (.bool pq) (.slice A3 l3.length c3) (.int .i64 s4) (.bool xm) (.slice A4 l4.length c4)
    have hblk := akx (u0 := .int .i64 s3) (u1 := .bool pq) (u2 := .slice A3 l3.length c3) (u3 := .int .i64 s4) (u4 := .bool xm) (u5 := .slice A4 l4.length c4) (aa JX)
    have hjr := (hg.block w.heap.size (lt_of_block (aa NR)) (fun e => by injection e with e; omega)).trans (aa NR)
    replace F3 := hide ((aa F3).upto (aa JX) (tu _ _ _ _ _ _ _ _ _ _) hg)
    replace F4 := hide ((aa F4).upto (aa JX) (tu _ _ _ _ _ _ _ _ _ _) hg)
    replace HB := Lib.hid (HB.out.grown hg HB.out.size (fun k hk => by injection hk with hk; omega))
    clear kx0 ux0 kx1 ux1 kx2 ux2 kx3 ux3 kx4 ux4 kx5 ux5 qx
    generalize ((((((V4.setCell ⟨bx, 0, none⟩ (.int .i64 s3)).setCell ⟨bx, 1, none⟩ (.bool pq)).setCell ⟨bx, 2, none⟩ (.slice A3 l3.length c3)).setCell ⟨bx, 3, none⟩ (.int .i64 s4)).setCell ⟨bx, 4, none⟩ (.bool xm)).setCell ⟨bx, 5, none⟩ (.slice A4 l4.length c4)) = W5 at *
    replace NR := hide hjr
    clear JX hg hjr
    have kx0 : W5.cell? ⟨bx, 0, none⟩ = some (.int .i64 s3) := ag hblk 0
    have kx1 : W5.cell? ⟨bx, 1, none⟩ = some (.bool pq) := ag hblk 1
    have kx2 : W5.cell? ⟨bx, 2, none⟩ = some (.slice A3 l3.length c3) := ag hblk 2
    have kx3 : W5.cell? ⟨bx, 3, none⟩ = some (.int .i64 s4) := ag hblk 3
    have kx4 : W5.cell? ⟨bx, 4, none⟩ = some (.bool xm) := ag hblk 4
    have kx5 : W5.cell? ⟨bx, 5, none⟩ = some (.slice A4 l4.length c4) := ag hblk 5
    clear hblk
    go_wp2_with fail
    refine ((aa HR) s3 pq A3 c3 l3 s4 xm A4 c4 l4 _ (aa F3) (aa F4)).mono ?_
    rintro e V9 ⟨rfl, hb⟩
    replace NR := hide ((hb.block _ (lt_of_block (aa NR))).trans (aa NR))
    replace HB := Lib.hid (bg HB.out hb)
    clear hb
    have r0 : V9.cell? ⟨w.heap.size, 0, none⟩ = some (.int .i64 0) := ag (aa NR) 0
    have Ny := ai (aa NR) 0
    have r1 : V9.cell? ⟨w.heap.size, 1, none⟩ = some (.int .i64 0) := ag (aa NR) 1
    have Nw := ai (aa NR) 1
    have qr := lt_of_block (aa NR)
    go_wp2_with fail
    exact bodyPost_ret (v := .tuple #[.agg #[.int .i64 t.n, .int .i64 t.d], .int .i64 t.e]) (by simp [results, Tryz.results24, go_sem, r0, r1, qr]) rfl
     ⟨rfl, HB.out.grown (mh _ _ _ _) HB.out.size (fun k hk => by injection hk with hk; omega)⟩

theorem apv (s : ByteArray) (w : World) (hT : qm w) (hs : s.size ≤ 9223372036854775806) :
  Calls Tryz.prog 24 #[.string s] w fun e w' => bgg w (Wd.Td s.data.toList) e w' := by
 rw [Wd.apw]
 by_cases h : s.data.toList.head? = some 45
 ·
  rw [if_pos h]
  have hl : (⟨s.data.toList.tail.toArray⟩ : ByteArray).size ≤ 9223372036854775806 := by
   rw [← ry]
   show s.data.toList.tail.length ≤ _
   rw [List.length_tail, ry]; omega
  exact Lh s ⟨s.data.toList.tail.toArray⟩ true _ rfl w hT (fun W => avn s h W) (fun W hW => aeo _ W hW hl)
 ·
  rw [if_neg h]
  exact Lh s s false _ rfl w hT (fun W => ajv s h W) (fun W hW => aeo s W hW hs)


namespace Sb
theorem bco (s : ByteArray) (c : UInt8) (w : World) (hs : s.size < 4294967281) :
  Calls Tryz.prog 208 #[.string s, .string ⟨#[c]⟩] w fun e w' =>
   e = .returned (.slice (some ⟨w.heap.size, 0, none⟩) (Lib.countB s ⟨#[c]⟩ + 1) (Lib.countB s ⟨#[c]⟩ + 1)) ∧ w' = w.alloc (.cells ((Lib.splitB ⟨#[c]⟩ 0 (Lib.countB s ⟨#[c]⟩) s).map Value.string).toArray 9) := by
 have h1 : 1 ≤ (⟨#[c]⟩ : ByteArray).size := Nat.le_refl 1
 have hle := Lib.countB_le ⟨#[c]⟩ h1 s.size s (Nat.le_refl _)
 have hlen := Lib.splitB_all ⟨#[c]⟩ h1 0 _ s rfl
 have c0 := Any.strings_genSplit_core (P := Tryz.prog) Tryz.lays221 kr s ⟨#[c]⟩ 0 (-1) (Lib.countB s ⟨#[c]⟩ + 1) w hs h1 (Nat.zero_le _)
  (fun x cs hx => (Tryz.strings_Index_one x c _).mono fun e w' ⟨he, hw⟩ => ⟨he.trans (by
   show _ = Ending.returned (Value.int .i64 (Lib.index x.data.toList [c]))
   rw [Lib.index_one]), hw⟩)
  ((Tryz.strings_Count_one s c w).mono fun e w' ⟨he, hw⟩ => ⟨he.trans (by
   show _ = Ending.returned (Value.int .i64 ((Lib.count s.data.toList [c] : Nat) : Int))
   rw [Lib.count_one]
   rfl), hw⟩) de de (by rw [if_pos de]; omega)
 rw [Nat.add_sub_cancel, hlen] at c0
 have e2 : Lib.cellsOf (Lib.splitB ⟨#[c]⟩ 0 (Lib.countB s ⟨#[c]⟩) s) (Lib.countB s ⟨#[c]⟩ + 1) = ((Lib.splitB ⟨#[c]⟩ 0 (Lib.countB s ⟨#[c]⟩) s).map Value.string).toArray := by rw [← hlen]; exact Lib.cellsOf_full _
 rw [e2] at c0
 go_enter Tryz.func208, Tryz.ntmps208
 go_wp2_with (go_at_call 234; refine c0.mono ?_; rintro e w' ⟨rfl, hw⟩; rw [hw])
 go_ret
 exact ⟨rfl, rfl⟩
example : Lib.splitB ⟨#[46]⟩ 0 (Lib.countB ⟨#[107, 78, 46, 109]⟩ ⟨#[46]⟩) ⟨#[107, 78, 46, 109]⟩ = [⟨#[107, 78]⟩, ⟨#[109]⟩] := by kernel_rfl
example : Lib.splitB ⟨#[46]⟩ 0 (Lib.countB ⟨#[115, 50]⟩ ⟨#[46]⟩) ⟨#[115, 50]⟩ = [⟨#[115, 50]⟩] := by kernel_rfl

theorem Yo (b : Int) (w : World) : Calls Tryz.prog 235 #[.int .u8 b] w fun e w' => e = .returned (.bool (Ji b)) ∧ w' = w := by
 obtain ⟨v, hv⟩ : ∃ v, v = Ji b := ⟨_, rfl⟩
 rw [← hv]
 unfold Ji at hv
 have HV := hide hv
 clear hv
 by_cases h1 : 97 ≤ b <;> by_cases h2 : b ≤ 122 <;> by_cases h3 : 65 ≤ b <;> by_cases h4 : b ≤ 90
 all_goals
  have hv := aa HV
  clear HV
  simp only [h1, h2, h3, h4, decide_true, decide_false, Bool.and_true, Bool.and_false, Bool.true_and, Bool.false_and, Bool.or_true, Bool.or_false, Bool.true_or, Bool.false_or] at hv
  subst hv
  go_enter Tryz.func235, Tryz.ntmps235
  go_wp2_with fail
  go_ret
  exact ⟨rfl, rfl⟩
def Xw (n : ByteArray) (p : Int) (b : Bool) : World → Value → Prop := kz [ax [.v (.string n), iv p], Rg.au (.bool b)]
theorem aju {w : World} {n : ByteArray} {p : Int} {b : Bool} : Xw n p b w (.tuple #[.agg #[.string n, .int .i64 p], .bool b]) :=
 ⟨[_, _], rfl, _, _, rfl, ⟨_, rfl, fo.v (aes _) (fo.v (kg _) rfl)⟩, _, _, rfl, rfl, rfl⟩
theorem ajf (s : ByteArray) (hl : ∀ j (h : j < s.size), Ji (s[j].toNat : Int) = true) (h0 : 0 < s.size) (hs : s.size ≤ 1000000) (w : World) :
  Calls Tryz.prog 209 #[.string s] w (ib (Xw s 1 true) w) := by
 have HL := hide (fun W b => Yo b W)
 have HH := hide hl
 clear hl
 have z0 : ((s.size : Int) == 0) = false := beq_eq_false_iff_ne.2 om
 go_enter Tryz.func209, Tryz.ntmps209
 go_wp2_with fail
 go_loop [4] (fun i => ∃ k : Nat, k ≤ s.size ∧ i = .int .i64 k) (fun i => s.size - (intOf i).toNat)
 case atStart => exact ⟨0, Nat.zero_le _, rfl⟩
 case round =>
  obtain ⟨k, hk, rfl⟩ := hrel
  by_cases hlt : k < s.size
  ·
   have e1 := (aa HH) k hlt
   go_wp2_with (go_at_call 235; refine ((aa HL) _ _).mono ?_; rintro e w' ⟨rfl, rfl⟩; rw [e1])
   go_round
   case rel => exact ⟨k + 1, by omega, by go_num⟩
   case measure => simp [intOf]; omega
  ·
   obtain rfl : k = s.size := by omega
   go_wp2_with fail
   exact bodyPost_ret (v := .tuple #[.agg #[.string s, .int .i64 1], .bool true]) (by simp [results, Tryz.results209, go_sem]) rfl ⟨_, rfl, gy (Below.refl _ _) _, aju⟩
end Sb

namespace Sb
def facC : List (ByteArray × Int) → List Value
 | [] => []
 | f :: l => .string f.1 :: .int .i64 f.2 :: facC l
theorem agq : ∀ l k : List (ByteArray × Int), facC (l ++ k) = facC l ++ facC k
 | [], _ => rfl
 | f :: l, k => by rw [List.cons_append, facC, facC, agq l k]; rfl
def Eu (w : World) (base : Nat) (v : Value) (l : List (ByteArray × Int)) : Prop := w.ownsRow base 181 2 v l.length (facC l)
theorem Eu.nil (w : World) (base : Nat) : Eu w base (.slice none 0 0) [] := World.ownsRow_nil _ _ _ _
theorem Eu.ge {w : World} {base : Nat} {v : Value} {l : List (ByteArray × Int)} (h : Eu w base v l) : ∀ g, v.ownBlock = some g → base ≤ g := fun g hg => (h.lt g hg).1
theorem Eu.below {w w' : World} {base : Nat} {v : Value} {l : List (ByteArray × Int)} (h : Eu w base v l) (hb : Below w.heap.size w w') : Eu w' base v l := by
 obtain ⟨h1, h2 | ⟨g, cap, cur, e, h3, h4, h5⟩⟩ := h
 ·
  exact ⟨h1, .inl h2⟩
 ·
  exact ⟨h1, .inr ⟨g, cap, cur, e, h3, (hb.block _ (lt_of_block h4)).trans h4, h5⟩⟩
theorem Eu.ne {w : World} {base b : Nat} {v : Value} {l : List (ByteArray × Int)} {cs : Array Value} (h : Eu w base v l) (hb : w.heap[b]? = some (.cells cs 9 (0, 0))) : some b ≠ v.ownBlock := by
 intro e
 obtain ⟨_, ⟨rfl, _⟩ | ⟨g, cap, cur, rfl, _, h4, _⟩⟩ := h
 ·
  cases e
 ·
  injection e with e
  subst e
  have h5 := hb.symm.trans h4
  injection h5 with h5
  injection h5 with _ h5 _
  exact absurd h5 de
theorem bau : (Tryz.prog.info? 181).map (fun i => (i.zero, i.size, i.bytes)) = some (some (.agg #[.string ⟨#[]⟩, .int .i64 0]), 2, 24) := by kernel_rfl
theorem ave {w : World} {n : ByteArray} {p : Int} {b : Bool} {u : Value} (h : Xw n p b w u) : u = .tuple #[.agg #[.string n, .int .i64 p], .bool b] := by
 obtain ⟨vs, rfl, u1, r, rfl, ⟨cs, rfl, h1⟩, u2, r2, rfl, h2, rfl⟩ := h
 obtain ⟨r1, rfl, _, h3⟩ := fo.Ev h1
 obtain ⟨r2, rfl, _, h4⟩ := fo.Ev h3
 cases h4
 have h2' : u2 = .bool b := h2
 subst h2'
 rfl
def anf (w0 : World) (l : List (ByteArray × Int)) (e : Ending) (w' : World) : Prop := ∃ v', e = .returned (.tuple #[v', .bool true]) ∧ Eu w' w0.heap.size v' l ∧ Below w0.heap.size w0 w'
theorem anu {w : World} {n : ByteArray} {p : Int} {T : TypeId} {b : Nat} (hb : b = w.heap.size) : ∀ (j : Nat) u, [Value.string n, .int .i64 p][j]? = some u → (w.alloc (.cells #[.string n, .int .i64 p] T)).cell? ((⟨b, 0, none⟩ : Addr).add j) = some u := by
 intro j u h
 subst hb
 have h1 := ag (heap_alloc_new w (.cells #[.string n, .int .i64 p] T)) j
 rw [show (⟨w.heap.size, 0, none⟩ : Addr).add j = ⟨w.heap.size, j, none⟩ by (simp [Addr.add]; try omega), h1]
 simpa using h
theorem azc {n : ByteArray} {p : Int} : ∀ u ∈ [Value.string n, .int .i64 p], u.oneCell' = true := by
 intro u hu
 simp only [List.mem_cons, List.not_mem_nil, or_false] at hu
 rcases hu with rfl | rfl <;> rfl
theorem ajh (s : ByteArray) (ps : List ByteArray) (fs : List (ByteArray × Int)) (l : List (ByteArray × Int)) (sg : Int) (v : Value) (w0 w : World)
  (hsp : Lib.splitB ⟨#[46]⟩ 0 (Lib.countB s ⟨#[46]⟩) s = ps) (hs : s.size ≤ 600) (hlen : fs.length = ps.length) (hl : l.length ≤ 1000000)
  (hrf : ∀ (k : Nat) (p : ByteArray) (f : ByteArray × Int), ps[k]? = some p → fs[k]? = some f → ∀ W, Calls Tryz.prog 209 #[.string p] W (ib (Xw f.1 f.2 true) W))
  (hown : Eu w w0.heap.size v l) (hb0 : Below w0.heap.size w0 w) :
  Calls Tryz.prog 170 #[v, .string s, .int .i64 sg] w fun e w' => anf w0 (l ++ fs.map (fun (f : ByteArray × Int) => (f.1, wrap64 (f.2 * sg)))) e w' := by
 have hcount : Lib.countB s ⟨#[46]⟩ + 1 = ps.length := by rw [← hsp]; exact (Lib.splitB_all ⟨#[46]⟩ (Nat.le_refl 1) 0 _ s rfl).symm
 have hps : ps.length ≤ 601 := by
  have := Lib.countB_le ⟨#[46]⟩ (Nat.le_refl 1) s.size s (Nat.le_refl _)
  omega
 have HS := hide (bco s 46 w om)
 rw [hsp, hcount] at HS
 obtain ⟨gs, hgs⟩ : ∃ gs, gs = fs.map (fun (f : ByteArray × Int) => (f.1, wrap64 (f.2 * sg))) := ⟨_, rfl⟩
 have hg : ∀ (k : Nat) (f : ByteArray × Int), fs[k]? = some f → gs[k]? = some (f.1, wrap64 (f.2 * sg)) := fun k f hf => by rw [hgs, List.getElem?_map, hf]; rfl
 have hgl : gs.length = ps.length := by rw [hgs, List.length_map, hlen]
 rw [← hgs]
 obtain ⟨n, hn⟩ : ∃ n, n = ps.length := ⟨_, rfl⟩
 rw [← hn] at HS hgl hlen hps
 have HRF := hide hrf
 have HG := hide (And.intro hg (And.intro hgl hlen))
 have HN := hide hn
 obtain ⟨i0, hi0, hz0, hz1, hz2⟩ := info_parts bau
 clear hsp hcount hrf hgs hg hgl hlen hn hs
 go_enter Tryz.func170, Tryz.ntmps170
 go_wp2_with fail
 refine (aa HS).mono ?_
 rintro e W1 ⟨rfl, hW1⟩
 have hP : W1.heap[w.heap.size]? = some (.cells (ps.map Value.string).toArray 9 (0, 0)) := by rw [hW1]; exact heap_alloc_new w _
 have hbW : Below w.heap.size w W1 := by rw [hW1]; exact gy (Below.refl _ _) _
 replace hown := hown.below hbW
 replace hb0 := bg hb0 hbW
 obtain ⟨pb, hpb⟩ : ∃ pb, pb = w.heap.size := ⟨_, rfl⟩
 rw [← hpb] at hP
 rw [← hpb]
 clear hW1 hbW HS hpb
 try dsimp only
 go_wp2_with fail
 go_loopw [0, 15] (fun lv kv wr => ∃ k : Nat, k ≤ n ∧ kv = .int .i64 ((k : Nat) : Int) ∧ Eu wr w0.heap.size lv (l ++ gs.take k) ∧ wr.heap[pb]? = some (.cells (ps.map Value.string).toArray 9 (0, 0)) ∧ Below w0.heap.size w0 wr) (fun _ kv _ => n - (intOf kv).toNat)
 case atStart => exact ⟨0, Nat.zero_le _, rfl, by simpa using hown, hP, hb0⟩
 case round =>
  clear hown hP hb0
  obtain ⟨k, hk, rfl, hown, hP, hb0⟩ := hrel
  by_cases hlt : k < n
  ·
   obtain ⟨p, hp⟩ : ∃ p, ps[k]? = some p := ⟨_, List.getElem?_eq_getElem (by have := aa HN; omega)⟩
   obtain ⟨f, hf⟩ : ∃ f, fs[k]? = some f := ⟨_, List.getElem?_eq_getElem (by have := (aa HG).2.2; omega)⟩
   have Cb := hide ((aa HG).1 k f hf)
   have HR := hide ((aa HRF) k p f hp hf)
   have hc : wr.cell? ⟨pb, k, none⟩ = some (.string p) := by rw [ag hP]; simp [hp]
   clear hp hf
   go_wp2_with fail
   refine ((aa HR) _).mono ?_
   rintro e W2 ⟨u, rfl, hb2, hu⟩
   obtain rfl := ave hu
   replace hown := hown.below hb2
   replace hP := (hb2.block _ (lt_of_block hP)).trans hP
   replace hb0 := bg hb0 hb2
   clear hu hb2 hc
   try dsimp only
   go_wp2_with (first | (at_builtin; go_loud (refine wpList_append_own _ rfl _ _ 127 rfl w0.heap.size 181 i0 (.agg #[.string ⟨#[]⟩, .int .i64 0]) 2 24 Tryz.underlying127 hi0 hz0 hz1 hz2 rfl de _ _ _ rfl ((hown.alloc _).alloc _) ⟨_, 0, none⟩ 1 1 [.string f.1, .int .i64 (wrap64 (f.2 * sg))] rfl rfl (anu (by simp only [World.size_alloc])) azc (by unfold maxLen; simp; omega) (by simp; omega) (by simp; have := hb0.size; omega) ?_; intro v' w1 hown1 hgrow1 _)) | fail)
   have hbX : Below W2.heap.size W2 ((W2.alloc (.cells #[.string f.1, .int .i64 (wrap64 (f.2 * sg))] 181)).alloc (.cells #[.string f.1, .int .i64 (wrap64 (f.2 * sg))] 181)) := gy (gy (Below.refl _ _) _) _
   have hne := hown.ne hP
   have hb1 := bg hb0 hbX
   have ht : gs.take (k + 1) = gs.take k ++ [(f.1, wrap64 (f.2 * sg))] := by rw [List.take_add_one, aa Cb]; rfl
   refine ⟨⟨k + 1, by omega, by push_cast; rfl, ?_, ?_, hb1.grown hgrow1 hb1.size hown.ge⟩, by simp [intOf]; omega⟩
   ·
    rw [ht, ← List.append_assoc]
    unfold Eu
    rw [agq (l ++ gs.take k), show (l ++ gs.take k ++ [(f.1, wrap64 (f.2 * sg))]).length = (l ++ gs.take k).length + 1 from List.length_append]
    exact hown1
   ·
    have hlt1 : pb < W2.heap.size := lt_of_block hP
    exact (hgrow1.block pb (Nat.lt_of_lt_of_le hlt1 hbX.size) hne).trans ((hbX.block pb hlt1).trans hP)
  ·
   obtain rfl : k = n := by omega
   have htk : gs.take k = gs := List.take_of_length_le (by have := (aa HG).2.1; omega)
   rw [htk] at hown
   clear htk hP
   go_wp2_with fail
   go_ret2
   exact ⟨_, rfl, hown, hb0⟩
def Lt (W : World) (g i : Nat) (nm : ByteArray) (p : Int) : Prop := W.cell? ⟨g, 2 * i, none⟩ = some (.string nm) ∧ W.cell? ⟨g, 2 * i + 1, none⟩ = some (.int .i64 p)
theorem Lt.below {W W' : World} {g i : Nat} {nm : ByteArray} {p : Int} {B : Nat} (h : Lt W g i nm p) (hb : Below B W W') (hg : g < B) : Lt W' g i nm p := by
 have e := hb.block g hg
 exact ⟨(World.cell?_of_block e).trans h.1, (World.cell?_of_block e).trans h.2⟩
theorem Lt.lt {W : World} {g i : Nat} {nm : ByteArray} {p : Int} (h : Lt W g i nm p) : g < W.heap.size := World.block_lt_of_cell? W _ h.1
def Px (W : World) (g : Nat) (fs : List (ByteArray × Int)) : Prop := ∀ k f, fs[k]? = some f → Lt W g k f.1 f.2
theorem Px.below {W W' : World} {g : Nat} {fs : List (ByteArray × Int)} (h : Px W g fs) (hb : eu W W') : Px W' g fs := fun k f hf => (h k f hf).below hb (h k f hf).lt
def Kw (fs : List (ByteArray × Int)) : World → Value → Prop := fun W v => ∃ g c, v = .slice (some ⟨g, 0, none⟩) fs.length c ∧ Px W g fs
theorem Qg (fs : List (ByteArray × Int)) : Rg.Fu eu (Kw fs) := by
 rintro w w' v hb ⟨g, c, rfl, h⟩
 exact ⟨g, c, rfl, h.below hb⟩
theorem agp : ∀ (l : List (ByteArray × Int)) (k : Nat) (f : ByteArray × Int), l[k]? = some f → (facC l)[2 * k]? = some (.string f.1) ∧ (facC l)[2 * k + 1]? = some (.int .i64 f.2)
 | [], k, f, h => by simp at h
 | a :: l, 0, f, h => by
  simp only [List.getElem?_cons_zero, Option.some.injEq] at h
  subst h
  exact ⟨rfl, rfl⟩
 | a :: l, k + 1, f, h => by
  have h1 := agp l k f (by simpa using h)
  rw [facC, show 2 * (k + 1) = 2 * k + 1 + 1 by omega, show 2 * k + 1 + 1 + 1 = (2 * k + 1) + 1 + 1 by omega]
  exact ⟨by simpa using h1.1, by simpa using h1.2⟩
theorem Eu.bnk {W : World} {base : Nat} {v : Value} {l : List (ByteArray × Int)} (h : Eu W base v l) (hne : l ≠ []) : Kw l W v := by
 have h0 := h
 obtain ⟨_, ⟨rfl, h2⟩ | ⟨g, cap, cur, rfl, h3⟩⟩ := h
 ·
  exact absurd (List.length_eq_zero_iff.1 h2) hne
 ·
  refine ⟨g, cap, rfl, fun k f hf => ?_⟩
  have hc := World.ownsRow.cells (g := g) h0 rfl
  obtain ⟨h4, h5⟩ := agp l k f hf
  have e : ∀ j, (⟨g, 0, none⟩ : Addr).add j = ⟨g, j, none⟩ := fun j => by (simp [Addr.add]; try omega)
  have h6 := hc _ _ h4
  have h7 := hc _ _ h5
  rw [e] at h6 h7
  exact ⟨h6, h7⟩
theorem bae (s a b : ByteArray) (l1 l2 : List (ByteArray × Int)) (w : World)
  (hcut : ∀ W, Calls Tryz.prog 155 #[.string s, .string ⟨#[47]⟩] W fun e w' => e = .returned (.tuple #[.string a, .string b, .bool true]) ∧ Below W.heap.size W w') (ha : (a.toList == [49]) = false)
  (h1 : ∀ w0 W v, Eu W w0.heap.size v [] → Below w0.heap.size w0 W → Calls Tryz.prog 170 #[v, .string a, .int .i64 1] W fun e w' => anf w0 l1 e w')
  (h2 : ∀ w0 W v, Eu W w0.heap.size v l1 → Below w0.heap.size w0 W → Calls Tryz.prog 170 #[v, .string b, .int .i64 (-1)] W fun e w' => anf w0 l2 e w') (hne : l2 ≠ []) :
  Calls Tryz.prog 115 #[.string s] w (ib (kz [Kw l2, Rg.au (.bool true)]) w) := by
 have HC := hide hcut
 have H1 := hide h1
 have H2 := hide h2
 have HNE := hide hne
 clear hcut h1 h2 hne
 go_enter Tryz.func115, Tryz.ntmps115
 go_wp2_with fail
 refine ((aa HC) _).mono ?_
 rintro e W1 ⟨rfl, hb⟩
 try dsimp only
 go_wp2_with fail
 refine ((aa H1) w W1 _ (Eu.nil _ _) hb).mono ?_
 rintro e W2 ⟨v1, rfl, hf1, hb1⟩
 clear hb
 try dsimp only
 go_wp2_with fail
 refine ((aa H2) w W2 _ hf1 hb1).mono ?_
 rintro e W3 ⟨v2, rfl, hf2, hb2⟩
 clear hb1 hf1
 try dsimp only
 go_wp2_with fail
 go_ret2
 exact ⟨_, rfl, hb2, [_, _], rfl, _, _, rfl, hf2.bnk (aa HNE), _, _, rfl, rfl, rfl⟩
end Sb
end Go.Proofs.YtfgeaakhlcaibaaGreatDoor
