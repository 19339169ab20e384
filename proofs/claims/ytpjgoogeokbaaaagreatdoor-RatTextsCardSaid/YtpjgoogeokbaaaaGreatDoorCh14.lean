/- Part 14 of the texts beneath a law of layer 1: TxP, TrR, TrT, TlW, Frame. -/
import Derived.Test.YtpjgoogeokbaaaaGreatDoorCh13
import Derived.Test.YtpjgoogeokbaaaaGreatDoorRows
import Derived.ProofKit
import Derived.OpenShut
import Derived.LaidMore
import Derived.Lay
import Derived.Lib.SmallJoins
import Derived.Stop.Joined
/- Texts: the program. -/
namespace Go.Proofs.YtpjgoogeokbaaaaGreatDoor
open Go.RowKit

namespace Wd
/-- What is told of a number of a text, with its sign. -/
def tellT (m : Bool) (o : Option Rat) : Told := match o with
  | none => ⟨0, 0, 2⟩
  | some q => if m = true ∧ q = 0 then ⟨0, 0, 2⟩ else told (if m = true then -q else q)
theorem parseT_eq (l : List UInt8) : parseT l = if l.head? = some 45 then tellT true (posT l.tail) else tellT false (posT l) := by
  unfold parseT tellT
  split
  · cases posT l.tail with
    | none => rfl
    | some q => simp
  · cases posT l with
    | none => rfl
    | some q => simp
end Wd
theorem eta_b (s : ByteArray) : (⟨s.data.toList.toArray⟩ : ByteArray) = s := by cases s; simp
theorem cutp_yes (s : ByteArray) (h : s.data.toList.head? = some 45) (W : World) :
    Calls Tryz.prog 84 #[.string s, .string ⟨#[45]⟩] W fun e w' => e = .returned (.tuple #[.string ⟨s.data.toList.tail.toArray⟩, .bool true]) ∧ w' = W := by
  have h1 : Lib.hasPrefix s.data.toList [45] = true := by
    unfold Lib.hasPrefix
    cases hl : s.data.toList with
    | nil => rw [hl] at h; cases h
    | cons c l => rw [hl] at h; have := Option.some.inj h; rw [this]; rfl
  have h2 : Lib.trimPrefix s.data.toList [45] = s.data.toList.tail := by
    unfold Lib.trimPrefix; rw [if_pos h1]
    cases s.data.toList with
    | nil => rfl
    | cons c l => rfl
  refine (Tryz.strings_CutPrefix s ⟨#[45]⟩ W).mono ?_
  rintro e w' ⟨he, hw⟩
  refine ⟨he.trans ?_, hw⟩
  show Ending.returned (.tuple #[.string ⟨(Lib.trimPrefix s.data.toList [45]).toArray⟩, .bool (Lib.hasPrefix s.data.toList [45])]) = _
  rw [h1, h2]
theorem cutp_no (s : ByteArray) (h : ¬ s.data.toList.head? = some 45) (W : World) :
    Calls Tryz.prog 84 #[.string s, .string ⟨#[45]⟩] W fun e w' => e = .returned (.tuple #[.string s, .bool false]) ∧ w' = W := by
  have h1 : Lib.hasPrefix s.data.toList [45] = false := by
    unfold Lib.hasPrefix
    cases hl : s.data.toList with
    | nil => rfl
    | cons c l =>
      rw [hl] at h
      have hc : ¬ 45 = c := fun e => h (by rw [← e]; rfl)
      simp [List.isPrefixOf, hc]
  have h2 : Lib.trimPrefix s.data.toList [45] = s.data.toList := by
    unfold Lib.trimPrefix; rw [h1]; rfl
  refine (Tryz.strings_CutPrefix s ⟨#[45]⟩ W).mono ?_
  rintro e w' ⟨he, hw⟩
  refine ⟨he.trans ?_, hw⟩
  show Ending.returned (.tuple #[.string ⟨(Lib.trimPrefix s.data.toList [45]).toArray⟩, .bool (Lib.hasPrefix s.data.toList [45])]) = _
  rw [h1, h2, eta_b]

set_option maxRecDepth 100000 in
set_option maxHeartbeats 16000000 in
theorem rsign_any (s1 : Int) (neg1 : Bool) (A1 : Option Addr) (c1 : Nat) (l1 : List Nat) (s2 : Int) (neg2 : Bool) (A2 : Option Addr) (c2 : Nat) (l2 : List Nat) (z : Int) (w : World) (h1 : IntF w s1 neg1 A1 c1 l1 z) :
    Calls Tryz.prog 86 #[(Value.agg #[.int .i64 s1, .bool neg1, .slice A1 l1.length c1, .int .i64 s2, .bool neg2, .slice A2 l2.length c2])] w fun e w' => e = .returned (.int .i64 (sgn z)) ∧ Below w.heap.size w w' := by
  have HS := hide (fun W (hW : Below w.heap.size w W) => sign_any s1 neg1 A1 c1 l1 z W (h1.below hW))
  obtain ⟨o, ho⟩ : ∃ o, o = sgn z := ⟨_, rfl⟩
  rw [← ho] at HS ⊢
  clear h1 ho
  go_enter Tryz.func86, Tryz.ntmps86
  go_upto_region 1 with fail
  obtain ⟨nr, hsz, hw0⟩ := one_new w (.cells #[.int .i64 s1, .bool neg1, .slice A1 l1.length c1, .int .i64 s2, .bool neg2, .slice A2 l2.length c2] 63)
  generalize w.alloc (.cells #[.int .i64 s1, .bool neg1, .slice A1 l1.length c1, .int .i64 s2, .bool neg2, .slice A2 l2.length c2] 63) = W0 at *
  have k0 : W0.cell? ⟨w.heap.size, 0, none⟩ = some (.int .i64 s1) := cells_of nr 0
  have k1 : W0.cell? ⟨w.heap.size, 1, none⟩ = some (.bool neg1) := cells_of nr 1
  have k2 : W0.cell? ⟨w.heap.size, 2, none⟩ = some (.slice A1 l1.length c1) := cells_of nr 2
  have k3 : W0.cell? ⟨w.heap.size, 3, none⟩ = some (.int .i64 s2) := cells_of nr 3
  have k4 : W0.cell? ⟨w.heap.size, 4, none⟩ = some (.bool neg2) := cells_of nr 4
  have k5 : W0.cell? ⟨w.heap.size, 5, none⟩ = some (.slice A2 l2.length c2) := cells_of nr 5
  clear hsz nr
  go_wp2_with fail
  refine ((unhide HS) _ hw0).mono ?_
  rintro e w' ⟨rfl, hb⟩
  have hb9 := below_step' hw0 hb
  clear hb
  go_wp2_with fail
  all_goals first | go_ret | skip
  exact ⟨rfl, hb9⟩

set_option maxRecDepth 100000 in
set_option maxHeartbeats 16000000 in
theorem parse_walk (s B : ByteArray) (m : Bool) (o : Option Rat) (ho : Wd.posT B.data.toList = o) (w : World) (hT : Tab w)
    (hcut : ∀ W, Calls Tryz.prog 84 #[.string s, .string ⟨#[45]⟩] W fun e w' => e = .returned (.tuple #[.string B, .bool m]) ∧ w' = W)
    (hpos : ∀ W, Tab W → Calls Tryz.prog 85 #[.string B] W fun e w' => PosR W B.data.toList e w') :
    Calls Tryz.prog 34 #[.string s] w fun e w' => TolR w (Wd.tellT m o) e w' := by
  obtain ⟨t, ht⟩ : ∃ t, t = Wd.tellT m o := ⟨_, rfl⟩
  rw [← ht]
  have HT := hide hT; have HC := hide hcut; have HP := hide hpos; have HO := Lib.hid ho; have HTE := Lib.hid ht
  clear hT hcut hpos ho ht
  go_enter Tryz.func34, Tryz.ntmps34
  go_upto_region 1 with fail
  obtain ⟨nr, hsz, hw0⟩ := one_new w (.cells #[.int .i64 0, .int .i64 0] 23)
  generalize w.alloc (.cells #[.int .i64 0, .int .i64 0] 23) = W0 at *
  have NR := hide nr; have HB := Lib.hid hw0
  clear hsz nr hw0
  go_wp2_with (go_at_call 84; refine ((unhide HC) _).mono ?_; rintro e w' ⟨rfl, rfl⟩)
  refine ((unhide HP) _ ((unhide HT).below HB.out)).mono ?_
  rintro e V1 hpr
  rcases hpr with ⟨hpn, rfl, hb⟩ | ⟨q, s1, neg1, A1, c1, l1, s2, neg2, A2, c2, l2, hpn, rfl, f1, f2, hb⟩
  · have HTT := Lib.hid (show t = ⟨0, 0, 2⟩ by rw [HTE.out, ← HO.out, hpn]; rfl)
    replace NR := hide ((hb.block _ (lt_of_block (unhide NR))).trans (unhide NR))
    replace HB := Lib.hid (below_step' HB.out hb)
    clear hb hpn HP HC
    go_upto_region 3 with fail
    have hn := heap_alloc_new V1 (.cells #[.int .i64 0, .bool false, .slice none 0 0, .int .i64 0, .bool false, .slice none 0 0] 63)
    have hb := below_alloc (Below.refl V1.heap.size V1) (.cells #[.int .i64 0, .bool false, .slice none 0 0, .int .i64 0, .bool false, .slice none 0 0] 63)
    generalize V1.alloc (.cells #[.int .i64 0, .bool false, .slice none 0 0, .int .i64 0, .bool false, .slice none 0 0] 63) = W2 at *
    obtain ⟨bx, hbx⟩ : ∃ b, b = V1.heap.size := ⟨_, rfl⟩
    rw [← hbx] at hn ⊢
    have obx : w.heap.size < bx := by rw [hbx]; exact lt_of_block (unhide NR)
    clear hbx
    have kx0 : W2.cell? ⟨bx, 0, none⟩ = some (.int .i64 0) := cells_of hn 0
    have kx1 : W2.cell? ⟨bx, 1, none⟩ = some (.bool false) := cells_of hn 1
    have kx2 : W2.cell? ⟨bx, 2, none⟩ = some (.slice none 0 0) := cells_of hn 2
    have kx3 : W2.cell? ⟨bx, 3, none⟩ = some (.int .i64 0) := cells_of hn 3
    have kx4 : W2.cell? ⟨bx, 4, none⟩ = some (.bool false) := cells_of hn 4
    have kx5 : W2.cell? ⟨bx, 5, none⟩ = some (.slice none 0 0) := cells_of hn 5
    replace NR := hide ((hb.block _ (lt_of_block (unhide NR))).trans (unhide NR))
    replace HB := Lib.hid (below_step' HB.out hb)
    clear hb hn
    have r0 : W2.cell? ⟨w.heap.size, 0, none⟩ = some (.int .i64 0) := cells_of (unhide NR) 0
    have fr0 := unfrozen_of (unhide NR) 0
    have r1 : W2.cell? ⟨w.heap.size, 1, none⟩ = some (.int .i64 0) := cells_of (unhide NR) 1
    have fr1 := unfrozen_of (unhide NR) 1
    have qr := lt_of_block (unhide NR)
    go_wp2_with fail
    exact bodyPost_ret (v := .tuple #[.agg #[.int .i64 0, .int .i64 0], .int .i64 2]) (by simp [results, Tryz.results34, go_sem, r0, r1, qr]) rfl
      ⟨by rw [HTT.out], HB.out.grown (set2_grown _ _ _ _) HB.out.size (fun k hk => by injection hk with hk; omega)⟩
  · have HQ := Lib.hid (show o = some q from HO.out.symm.trans hpn)
    have F1 := hide f1; have F2 := hide f2
    replace NR := hide ((hb.block _ (lt_of_block (unhide NR))).trans (unhide NR))
    replace HB := Lib.hid (below_step' HB.out hb)
    clear hb hpn HP HC f1 f2
    go_upto_region 3 with fail
    have hn := heap_alloc_new V1 (.cells #[.int .i64 s1, .bool neg1, .slice A1 l1.length c1, .int .i64 s2, .bool neg2, .slice A2 l2.length c2] 63)
    have hb := below_alloc (Below.refl V1.heap.size V1) (.cells #[.int .i64 s1, .bool neg1, .slice A1 l1.length c1, .int .i64 s2, .bool neg2, .slice A2 l2.length c2] 63)
    generalize V1.alloc (.cells #[.int .i64 s1, .bool neg1, .slice A1 l1.length c1, .int .i64 s2, .bool neg2, .slice A2 l2.length c2] 63) = W2 at *
    obtain ⟨bx, hbx⟩ : ∃ b, b = V1.heap.size := ⟨_, rfl⟩
    rw [← hbx] at hn ⊢
    have obx : w.heap.size < bx := by rw [hbx]; exact lt_of_block (unhide NR)
    clear hbx
    have JX := hide hn
    replace NR := hide ((hb.block _ (lt_of_block (unhide NR))).trans (unhide NR))
    replace HB := Lib.hid (below_step' HB.out hb)
    replace F1 := hide ((unhide F1).below hb)
    replace F2 := hide ((unhide F2).below hb)
    clear hb hn
    have kx0 : W2.cell? ⟨bx, 0, none⟩ = some (.int .i64 s1) := cells_of (unhide JX) 0
    have ux0 := unfrozen_of (unhide JX) 0
    have kx1 : W2.cell? ⟨bx, 1, none⟩ = some (.bool neg1) := cells_of (unhide JX) 1
    have ux1 := unfrozen_of (unhide JX) 1
    have kx2 : W2.cell? ⟨bx, 2, none⟩ = some (.slice A1 l1.length c1) := cells_of (unhide JX) 2
    have ux2 := unfrozen_of (unhide JX) 2
    have kx3 : W2.cell? ⟨bx, 3, none⟩ = some (.int .i64 s2) := cells_of (unhide JX) 3
    have ux3 := unfrozen_of (unhide JX) 3
    have kx4 : W2.cell? ⟨bx, 4, none⟩ = some (.bool neg2) := cells_of (unhide JX) 4
    have ux4 := unfrozen_of (unhide JX) 4
    have kx5 : W2.cell? ⟨bx, 5, none⟩ = some (.slice A2 l2.length c2) := cells_of (unhide JX) 5
    have ux5 := unfrozen_of (unhide JX) 5
    have qx := lt_of_block (unhide JX)
    cases m
    · have HTT := Lib.hid (show t = Wd.told q by rw [HTE.out, HQ.out]; simp [Wd.tellT])
      have ht2 : Wd.told q = t := HTT.out.symm
      have HR := hide (fun s5 neg5 A5 c5 l5 s6 neg6 A6 c6 l6 W (g1 : IntF W s5 neg5 A5 c5 l5 (q).num) (g2 : IntF W s6 neg6 A6 c6 l6 ((q).den : Int)) => rrat_any s5 neg5 A5 c5 l5 _ s6 neg6 A6 c6 l6 _ W g1 g2 (q) rfl rfl)
      rw [ht2] at HR
      replace HTT := Lib.hid (show t = t from rfl)
      clear ht2 HQ HTE HO
      go_wp2_with fail
      refine ((unhide HR) s1 neg1 A1 c1 l1 s2 neg2 A2 c2 l2 _ (unhide F1) (unhide F2)).mono ?_
      rintro e V9 ⟨rfl, hb⟩
      replace NR := hide ((hb.block _ (lt_of_block (unhide NR))).trans (unhide NR))
      replace HB := Lib.hid (below_step' HB.out hb)
      clear hb
      have r0 : V9.cell? ⟨w.heap.size, 0, none⟩ = some (.int .i64 0) := cells_of (unhide NR) 0
      have fr0 := unfrozen_of (unhide NR) 0
      have r1 : V9.cell? ⟨w.heap.size, 1, none⟩ = some (.int .i64 0) := cells_of (unhide NR) 1
      have fr1 := unfrozen_of (unhide NR) 1
      have qr := lt_of_block (unhide NR)
      go_wp2_with fail
      exact bodyPost_ret (v := .tuple #[.agg #[.int .i64 t.n, .int .i64 t.d], .int .i64 t.e]) (by simp [results, Tryz.results34, go_sem, r0, r1, qr]) rfl
        ⟨rfl, HB.out.grown (set2_grown _ _ _ _) HB.out.size (fun k hk => by injection hk with hk; omega)⟩
    · have HS := hide (fun W (hW : Below W2.heap.size W2 W) => rsign_any s1 neg1 A1 c1 l1 s2 neg2 A2 c2 l2 q.num W ((unhide F1).below hW))
      by_cases hz : q = 0
      · have HTT := Lib.hid (show t = ⟨0, 0, 2⟩ by rw [HTE.out, HQ.out]; unfold Wd.tellT; dsimp only; rw [if_pos ⟨rfl, hz⟩])
        have hs0 : sgn q.num = 0 := by rw [hz]; rfl
        rw [hs0] at HS
        clear hs0 hz HQ HTE HO
        go_wp2_with fail
        refine ((unhide HS) _ (Below.refl _ _)).mono ?_
        rintro e V3 ⟨rfl, hb⟩
        clear kx0 ux0 kx1 ux1 kx2 ux2 kx3 ux3 kx4 ux4 kx5 ux5 qx
        replace NR := hide ((hb.block _ (lt_of_block (unhide NR))).trans (unhide NR))
        replace HB := Lib.hid (below_step' HB.out hb)
        replace JX := hide ((hb.block _ (lt_of_block (unhide JX))).trans (unhide JX))
        clear hb
        have r0 : V3.cell? ⟨w.heap.size, 0, none⟩ = some (.int .i64 0) := cells_of (unhide NR) 0
        have fr0 := unfrozen_of (unhide NR) 0
        have r1 : V3.cell? ⟨w.heap.size, 1, none⟩ = some (.int .i64 0) := cells_of (unhide NR) 1
        have fr1 := unfrozen_of (unhide NR) 1
        have qr := lt_of_block (unhide NR)
        go_wp2_with fail
        exact bodyPost_ret (v := .tuple #[.agg #[.int .i64 0, .int .i64 0], .int .i64 2]) (by simp [results, Tryz.results34, go_sem, r0, r1, qr]) rfl
          ⟨by rw [HTT.out], HB.out.grown (set2_grown _ _ _ _) HB.out.size (fun k hk => by injection hk with hk; omega)⟩
      · have HTT := Lib.hid (show t = Wd.told (-q) by rw [HTE.out, HQ.out]; unfold Wd.tellT; dsimp only; rw [if_neg (fun h => hz h.2)]; rfl)
        have hs0 : ¬ sgn q.num = 0 := fun h => hz (by
          have : q.num = 0 := by unfold sgn at h; split at h <;> (try split at h) <;> omega
          exact Rat.num_eq_zero.1 this)
        obtain ⟨so, hso⟩ : ∃ so, so = sgn q.num := ⟨_, rfl⟩
        rw [← hso] at HS hs0
        have e1 : (so == 0) = false := beq_eq_false_iff_ne.2 hs0
        have ht2 : Wd.told (-q) = t := HTT.out.symm
        have HR := hide (fun s5 neg5 A5 c5 l5 s6 neg6 A6 c6 l6 W (g1 : IntF W s5 neg5 A5 c5 l5 ((-q)).num) (g2 : IntF W s6 neg6 A6 c6 l6 (((-q)).den : Int)) => rrat_any s5 neg5 A5 c5 l5 _ s6 neg6 A6 c6 l6 _ W g1 g2 ((-q)) rfl rfl)
        rw [ht2] at HR
        have HNG := hide (fun s5 neg5 A5 c5 l5 s6 neg6 A6 c6 l6 W (g1 : IntF W s5 neg5 A5 c5 l5 q.num) (g2 : IntF W s6 neg6 A6 c6 l6 (q.den : Int)) => rneg_any s5 neg5 A5 c5 l5 _ s6 neg6 A6 c6 l6 _ W g1 g2)
        rw [← Rat.neg_num, show (q.den : Int) = ((-q).den : Int) from by rw [Rat.neg_den]] at HNG
        replace F2 := hide (show IntF W2 s2 neg2 A2 c2 l2 ((-q).den : Int) by rw [Rat.neg_den]; exact unhide F2)
        replace HTT := Lib.hid (show t = t from rfl)
        clear ht2 HQ HTE HO hso hz
        go_wp2_with fail
        refine ((unhide HS) _ (Below.refl _ _)).mono ?_
        rintro e V3 ⟨rfl, hb⟩
        clear kx0 ux0 kx1 ux1 kx2 ux2 kx3 ux3 kx4 ux4 kx5 ux5 qx
        replace NR := hide ((hb.block _ (lt_of_block (unhide NR))).trans (unhide NR))
        replace HB := Lib.hid (below_step' HB.out hb)
        replace F1 := hide ((unhide F1).below hb)
        replace F2 := hide ((unhide F2).below hb)
        replace JX := hide ((hb.block _ (lt_of_block (unhide JX))).trans (unhide JX))
        clear hb
        have kx0 : V3.cell? ⟨bx, 0, none⟩ = some (.int .i64 s1) := cells_of (unhide JX) 0
        have ux0 := unfrozen_of (unhide JX) 0
        have kx1 : V3.cell? ⟨bx, 1, none⟩ = some (.bool neg1) := cells_of (unhide JX) 1
        have ux1 := unfrozen_of (unhide JX) 1
        have kx2 : V3.cell? ⟨bx, 2, none⟩ = some (.slice A1 l1.length c1) := cells_of (unhide JX) 2
        have ux2 := unfrozen_of (unhide JX) 2
        have kx3 : V3.cell? ⟨bx, 3, none⟩ = some (.int .i64 s2) := cells_of (unhide JX) 3
        have ux3 := unfrozen_of (unhide JX) 3
        have kx4 : V3.cell? ⟨bx, 4, none⟩ = some (.bool neg2) := cells_of (unhide JX) 4
        have ux4 := unfrozen_of (unhide JX) 4
        have kx5 : V3.cell? ⟨bx, 5, none⟩ = some (.slice A2 l2.length c2) := cells_of (unhide JX) 5
        have ux5 := unfrozen_of (unhide JX) 5
        have qx := lt_of_block (unhide JX)
        go_wp2_with fail
        refine ((unhide HNG) s1 neg1 A1 c1 l1 s2 neg2 A2 c2 l2 _ (unhide F1) (unhide F2)).mono ?_
        rintro e V4 ⟨s3, neg3, A3, c3, l3, s4, neg4, A4, c4, l4, rfl, f3, f4, hb⟩
        have F3 := hide f3; have F4 := hide f4
        clear kx0 ux0 kx1 ux1 kx2 ux2 kx3 ux3 kx4 ux4 kx5 ux5 qx
        replace NR := hide ((hb.block _ (lt_of_block (unhide NR))).trans (unhide NR))
        replace HB := Lib.hid (below_step' HB.out hb)
        replace JX := hide ((hb.block _ (lt_of_block (unhide JX))).trans (unhide JX))
        clear hb f3 f4 F1 F2
        have kx0 : V4.cell? ⟨bx, 0, none⟩ = some (.int .i64 s1) := cells_of (unhide JX) 0
        have ux0 := unfrozen_of (unhide JX) 0
        have kx1 : V4.cell? ⟨bx, 1, none⟩ = some (.bool neg1) := cells_of (unhide JX) 1
        have ux1 := unfrozen_of (unhide JX) 1
        have kx2 : V4.cell? ⟨bx, 2, none⟩ = some (.slice A1 l1.length c1) := cells_of (unhide JX) 2
        have ux2 := unfrozen_of (unhide JX) 2
        have kx3 : V4.cell? ⟨bx, 3, none⟩ = some (.int .i64 s2) := cells_of (unhide JX) 3
        have ux3 := unfrozen_of (unhide JX) 3
        have kx4 : V4.cell? ⟨bx, 4, none⟩ = some (.bool neg2) := cells_of (unhide JX) 4
        have ux4 := unfrozen_of (unhide JX) 4
        have kx5 : V4.cell? ⟨bx, 5, none⟩ = some (.slice A2 l2.length c2) := cells_of (unhide JX) 5
        have ux5 := unfrozen_of (unhide JX) 5
        have qx := lt_of_block (unhide JX)
        go_upto_region 7 with fail
        have hg := set6_grown V4 bx (.int .i64 s3) (.bool neg3) (.slice A3 l3.length c3) (.int .i64 s4) (.bool neg4) (.slice A4 l4.length c4)
        have hblk := set6_block (u0 := .int .i64 s3) (u1 := .bool neg3) (u2 := .slice A3 l3.length c3) (u3 := .int .i64 s4) (u4 := .bool neg4) (u5 := .slice A4 l4.length c4) (unhide JX)
        have hjr := (hg.block w.heap.size (lt_of_block (unhide NR)) (fun e => by injection e with e; omega)).trans (unhide NR)
        replace F3 := hide ((unhide F3).upto (unhide JX) (noWord6 _ _ _ _ _ _ _ _ _ _) hg)
        replace F4 := hide ((unhide F4).upto (unhide JX) (noWord6 _ _ _ _ _ _ _ _ _ _) hg)
        replace HB := Lib.hid (HB.out.grown hg HB.out.size (fun k hk => by injection hk with hk; omega))
        clear kx0 ux0 kx1 ux1 kx2 ux2 kx3 ux3 kx4 ux4 kx5 ux5 qx
        generalize ((((((V4.setCell ⟨bx, 0, none⟩ (.int .i64 s3)).setCell ⟨bx, 1, none⟩ (.bool neg3)).setCell ⟨bx, 2, none⟩ (.slice A3 l3.length c3)).setCell ⟨bx, 3, none⟩ (.int .i64 s4)).setCell ⟨bx, 4, none⟩ (.bool neg4)).setCell ⟨bx, 5, none⟩ (.slice A4 l4.length c4)) = W5 at *
        replace NR := hide hjr
        clear JX hg hjr
        have kx0 : W5.cell? ⟨bx, 0, none⟩ = some (.int .i64 s3) := cells_of hblk 0
        have kx1 : W5.cell? ⟨bx, 1, none⟩ = some (.bool neg3) := cells_of hblk 1
        have kx2 : W5.cell? ⟨bx, 2, none⟩ = some (.slice A3 l3.length c3) := cells_of hblk 2
        have kx3 : W5.cell? ⟨bx, 3, none⟩ = some (.int .i64 s4) := cells_of hblk 3
        have kx4 : W5.cell? ⟨bx, 4, none⟩ = some (.bool neg4) := cells_of hblk 4
        have kx5 : W5.cell? ⟨bx, 5, none⟩ = some (.slice A4 l4.length c4) := cells_of hblk 5
        clear hblk
        go_wp2_with fail
        refine ((unhide HR) s3 neg3 A3 c3 l3 s4 neg4 A4 c4 l4 _ (unhide F3) (unhide F4)).mono ?_
        rintro e V9 ⟨rfl, hb⟩
        replace NR := hide ((hb.block _ (lt_of_block (unhide NR))).trans (unhide NR))
        replace HB := Lib.hid (below_step' HB.out hb)
        clear hb
        have r0 : V9.cell? ⟨w.heap.size, 0, none⟩ = some (.int .i64 0) := cells_of (unhide NR) 0
        have fr0 := unfrozen_of (unhide NR) 0
        have r1 : V9.cell? ⟨w.heap.size, 1, none⟩ = some (.int .i64 0) := cells_of (unhide NR) 1
        have fr1 := unfrozen_of (unhide NR) 1
        have qr := lt_of_block (unhide NR)
        go_wp2_with fail
        exact bodyPost_ret (v := .tuple #[.agg #[.int .i64 t.n, .int .i64 t.d], .int .i64 t.e]) (by simp [results, Tryz.results34, go_sem, r0, r1, qr]) rfl
          ⟨rfl, HB.out.grown (set2_grown _ _ _ _) HB.out.size (fun k hk => by injection hk with hk; omega)⟩

theorem parse_any (s : ByteArray) (w : World) (hT : Tab w) (hs : s.size ≤ 9223372036854775806) :
    Calls Tryz.prog 34 #[.string s] w fun e w' => TolR w (Wd.parseT s.data.toList) e w' := by
  rw [Wd.parseT_eq]
  by_cases h : s.data.toList.head? = some 45
  · rw [if_pos h]
    have hl : (⟨s.data.toList.tail.toArray⟩ : ByteArray).size ≤ 9223372036854775806 := by
      rw [← sizeB]
      show s.data.toList.tail.length ≤ _
      rw [List.length_tail, sizeB]; omega
    exact parse_walk s ⟨s.data.toList.tail.toArray⟩ true _ rfl w hT (fun W => cutp_yes s h W) (fun W hW => ppos_any _ W hW hl)
  · rw [if_neg h]
    exact parse_walk s s false _ rfl w hT (fun W => cutp_no s h W) (fun W hW => ppos_any s W hW hs)

end Go.Proofs.YtpjgoogeokbaaaaGreatDoor
/- Texts: the reference reads. -/
namespace Go.Proofs.YtpjgoogeokbaaaaGreatDoor
open Go.RowKit

/-- What Read answers. -/
def ReadR (w : World) (m : Bool) (o : Option Rat) (e : Ending) (w' : World) : Prop := ∃ A1 c1 l1 m1 A2 c2 l2 m2 ok, e = .returned (.tuple #[(Value.agg #[.slice A1 (List.length l1) c1, .bool m1, .slice A2 (List.length l2) c2, .bool m2]), .bool ok]) ∧ Below w.heap.size w w' ∧
  ((ok = true ∧ ∃ q, o = some q ∧ ¬ (m = true ∧ q = 0) ∧ QV w' A1 c1 l1 m1 A2 c2 l2 m2 (if m = true then -q else q)) ∨ (ok = false ∧ Wd.tellT m o = ⟨0, 0, 2⟩))
/-- Where the digits of a text end. -/
structure SplK (B : ByteArray) (k : Nat) : Prop where
  le : k ≤ B.size
  dig : (B.data.toList.take k).all Wd.isDg = true
  stop : ∀ c, (B.data.toList.drop k).head? = some c → Wd.isDg c = false
theorem SplK.spl {B : ByteArray} {k : Nat} (h : SplK B k) : Wd.Spl B.data.toList (B.data.toList.take k) (B.data.toList.drop k) := ⟨(List.take_append_drop k _).symm, h.dig, h.stop⟩
theorem ext_take (B : ByteArray) (k : Nat) : (B.extract 0 k).data.toList = B.data.toList.take k := by rw [Lib.extract_eq]; simp
theorem ext_drop (B : ByteArray) (k : Nat) : (B.extract k B.size).data.toList = B.data.toList.drop k := by
  rw [Lib.extract_eq]
  show List.take (B.size - k) (List.drop k B.data.toList) = _
  exact List.take_of_length_le (by rw [List.length_drop, sizeB]; exact Nat.le_refl _)
theorem drop_at (B : ByteArray) {k : Nat} (h : k < B.size) : B.data.toList.drop k = B[k] :: B.data.toList.drop (k + 1) := by
  have h1 : k < B.data.toList.length := by rw [sizeB]; exact h
  rw [List.drop_eq_getElem_cons h1]; rfl
theorem byte_ne {c d : UInt8} (h : ¬ (c.toNat : Int) = (d.toNat : Int)) : c ≠ d := fun e => h (by rw [e])
theorem byte_eq {c d : UInt8} (h : (c.toNat : Int) = (d.toNat : Int)) : c = d := UInt8.toNat_inj.1 (by omega)
theorem div_ints {a b : Int} : Rat.divInt a 1 / Rat.divInt b 1 = Rat.divInt a b := by
  rw [Rat.div_def, Rat.inv_divInt, Rat.divInt_mul_divInt, Int.mul_one, Int.one_mul]
theorem pt_value (a t : List UInt8) : Rat.divInt (Wd.valD a : Nat) 1 + Rat.divInt (Wd.valD t : Nat) ((10 ^ t.length : Nat) : Int) = Rat.divInt (Wd.valD (a ++ t) : Nat) ((10 ^ t.length : Nat) : Int) := by
  have h := Nat.pow_pos (n := t.length) (show 0 < 10 by decide)
  rw [Rat.divInt_add_divInt _ _ (by omega) (by omega), Wd.valD_append, Int.one_mul, Int.mul_one, Int.natCast_add, Int.natCast_mul]
theorem int_num (z : Int) : (Rat.divInt z 1).num = z := (Wd.one_parts z).1
theorem szq_int {K : Nat} {z : Int} (h : Wd.Sz B32 K z) (hK : 1 ≤ K) : Wd.SzQ B32 K (Rat.divInt z 1) :=
  Wd.szq_div (by omega) h ((sz_small (by decide)).mono B32_pos hK)

theorem first_qv {w w' : World} {A1 : Option Addr} {c1 : Nat} {l1 : List Nat} {m1 : Bool} {A2 : Option Addr} {c2 : Nat} {l2 : List Nat} {m2 : Bool} {q : Rat} (h : QV w A1 c1 l1 m1 A2 c2 l2 m2 (q)) (hb : Below w.heap.size w w') : QV w' A1 c1 l1 m1 A2 c2 l2 m2 (q) := h.below hb
theorem read_end {w' : World} {A1 : Option Addr} {c1 : Nat} {l1 : List Nat} {m1 : Bool} {A2 : Option Addr} {c2 : Nat} {l2 : List Nat} {m2 : Bool} {q : Rat} {o : Option Rat} {zb : Bool} (hq : o = some q) (hz : zb = decide (q.num = 0)) (h : QV w' A1 c1 l1 m1 A2 c2 l2 m2 (-q)) :
    ((!zb) = true ∧ ∃ q, o = some q ∧ ¬ (true = true ∧ q = 0) ∧ QV w' A1 c1 l1 m1 A2 c2 l2 m2 (if true = true then -q else q)) ∨ ((!zb) = false ∧ Wd.tellT true o = ⟨0, 0, 2⟩) := by
  by_cases h0 : q.num = 0
  · right
    rw [hz, decide_eq_true h0]
    refine ⟨rfl, ?_⟩
    rw [hq]
    unfold Wd.tellT
    dsimp only
    rw [if_pos ⟨rfl, Rat.num_eq_zero.1 h0⟩]
  · left
    rw [hz, decide_eq_false h0]
    exact ⟨rfl, q, hq, fun h2 => h0 (by rw [h2.2]; rfl), h⟩

set_option maxRecDepth 100000 in
set_option maxHeartbeats 16000000 in
theorem tread_walk (s B : ByteArray) (m : Bool) (w : World) (hs : s.size ≤ 140737488351232) (hBs : B.size ≤ s.size)
    (hm : (m = false ∧ B = s ∧ (s.size = 0 ∨ ∃ h : 0 < s.size, ¬ (s[0].toNat : Int) = 45)) ∨ (m = true ∧ B = s.extract 1 s.size ∧ ∃ h : 0 < s.size, (s[0].toNat : Int) = 45)) :
    Calls Tryz.prog 88 #[.string s] w fun e w' => ReadR w m (Wd.posT B.data.toList) e w' := by
  have HM := hide hm
  have HSZ := hide (And.intro hs hBs)
  clear hm hs hBs
  go_enter Tryz.func88, Tryz.ntmps88
  go_upto_region 1 with fail
  obtain ⟨nr, hsz, hw0⟩ := one_new w (.cells #[.slice none 0 0, .bool false, .slice none 0 0, .bool false] 52)
  generalize w.alloc (.cells #[.slice none 0 0, .bool false, .slice none 0 0, .bool false] 52) = W0 at *
  have NR := hide nr; have HB := Lib.hid hw0
  clear hsz nr hw0
  go_cut [4] (fun v wx => v = .bool m ∧ wx = W0)
  case first =>
    rcases unhide HM with ⟨rfl, hB, h0 | ⟨h0, h45⟩⟩ | ⟨rfl, hB, h0, h45⟩
    · have d1 : decide (0 < (s.size : Int)) = false := decide_eq_false (by omega)
      have d1' : decide (0 < s.size) = false := decide_eq_false (by omega)
      clear h0 hB HM
      go_wp2_with fail
      all_goals (go_meet; exact ⟨rfl, rfl⟩)
    · have d1 : decide (0 < (s.size : Int)) = true := decide_eq_true (by omega)
      have d1' : decide (0 < s.size) = true := decide_eq_true h0
      have d2 : ((s[0].toNat : Int) == 45) = false := beq_eq_false_iff_ne.2 h45
      clear hB HM h45
      go_wp2_with fail
      all_goals (go_meet; exact ⟨rfl, rfl⟩)
    · have d1 : decide (0 < (s.size : Int)) = true := decide_eq_true (by omega)
      have d1' : decide (0 < s.size) = true := decide_eq_true h0
      have d2 : ((s[0].toNat : Int) == 45) = true := by rw [h45]; rfl
      clear hB HM h45
      go_wp2_with fail
      all_goals (go_meet; exact ⟨rfl, rfl⟩)
  case rest =>
    obtain ⟨rfl, rfl⟩ := hcut
    go_upto_if 21 with (fail)
    go_cut [0] (fun v wx => v = .string B ∧ wx = wc)
    case first =>
      rcases unhide HM with ⟨rfl, rfl, -⟩ | ⟨rfl, hB, h0, -⟩
      · clear HM
        go_wp2_with fail
        all_goals (go_meet; exact ⟨rfl, rfl⟩)
      · have c1 : (1 : Int) ≤ (s.size : Int) := by omega
        have HBE := Lib.hid hB
        clear HM h0 hB
        go_wp2_with fail
        all_goals (go_meet; exact ⟨by rw [HBE.out], rfl⟩)
    case rest =>
      obtain ⟨rfl, rfl⟩ := hcut
      clear HM
      go_upto_block 0 with (fail)
      go_cut [5] (fun v wx => ∃ k : Nat, v = .int .i64 (k : Int) ∧ wx = wc ∧ Hid (SplK B k))
      case first =>
        go_wp2_with fail
        go_loop [5] (fun iv => ∃ k : Nat, k ≤ B.size ∧ iv = .int .i64 (k : Int) ∧ Hid ((B.data.toList.take k).all Wd.isDg = true)) (fun iv => B.size - (intOf iv).toNat)
        case atStart => exact ⟨0, Nat.zero_le _, by first | rfl | go_num, hide rfl⟩
        case round =>
          obtain ⟨k, hk, rfl, hall⟩ := hrel
          have hBz : B.size ≤ 140737488351232 := by have := unhide HSZ; omega
          by_cases hlt : k < B.size
          · have d1 : decide ((k : Int) < (B.size : Int)) = true := decide_eq_true (by omega)
            have d2 : decide (k < B.size) = true := decide_eq_true hlt
            cases hdg : Wd.isDg B[k] with
            | false =>
              have HID := hide (fun W => tisDigit_any B[k].toNat false W (by rw [← hdg]; rfl))
              have HK := hide (show SplK B k from ⟨hk, unhide hall, fun c hc => by rw [drop_at B hlt] at hc; rw [← Option.some.inj hc]; exact hdg⟩)
              clear hdg hall
              go_wp2_with (go_at_call 135; refine ((unhide HID) _).mono ?_; rintro e w' ⟨rfl, hww⟩; replace hww := hww.symm; subst hww)
              all_goals (go_meet; exact ⟨k, rfl, rfl, HK⟩)
            | true =>
              have HID := hide (fun W => tisDigit_any B[k].toNat true W (by rw [← hdg]; rfl))
              have HALL := hide (show (B.data.toList.take (k + 1)).all Wd.isDg = true by
                rw [take_snocB B k hlt, List.all_append, unhide hall, List.all_cons, hdg]; rfl)
              clear hdg hall
              go_wp2_with (go_at_call 135; refine ((unhide HID) _).mono ?_; rintro e w' ⟨rfl, hww⟩; replace hww := hww.symm; subst hww)
              go_round
              case rel => exact ⟨k + 1, by omega, by go_num, HALL⟩
              case measure => simp [intOf] <;> omega
          · have d1 : decide ((k : Int) < (B.size : Int)) = false := decide_eq_false (by omega)
            have d2 : decide (k < B.size) = false := decide_eq_false hlt
            have HK := hide (show SplK B k from ⟨hk, unhide hall, fun c hc => by rw [List.drop_of_length_le (by rw [sizeB]; omega)] at hc; cases hc⟩)
            clear hall
            go_wp2_with fail
            all_goals (go_meet; exact ⟨k, rfl, rfl, HK⟩)
      case rest =>
        obtain ⟨k, rfl, rfl, HK⟩ := hcut
        have hk := (unhide HK).le
        have c1 : (k : Int) ≤ (B.size : Int) := by omega
        have hBz : B.size ≤ 140737488351232 := by have := unhide HSZ; omega
        obtain ⟨a, ha⟩ : ∃ a, a = B.extract 0 k := ⟨_, rfl⟩
        have la : a.data.toList = B.data.toList.take k := by rw [ha]; exact ext_take B k
        have hna := fun W => tnumeral_any a W (by rw [← sizeB, la, List.length_take, sizeB]; omega)
        have HA := Lib.hid la
        rw [ha] at hna
        have HNA := hide hna
        have HEA := Lib.hid ha
        clear ha la hna
        go_wp2_with fail
        refine ((unhide HNA) _).mono ?_
        rintro e V1 hnr
        rw [← HEA.out] at hnr
        rcases hnr with ⟨hok, A1, c1, l1, m1, A2, c2, l2, m2, rfl, f1, hb⟩ | ⟨hok, rfl, hb⟩
        rotate_left
        · have HP := Lib.hid (show Wd.posT B.data.toList = none from Wd.posT_bad (unhide HK).spl (by rw [← HA.out]; exact hok))
          replace NR := hide ((hb.block _ (lt_of_block (unhide NR))).trans (unhide NR))
          replace HB := Lib.hid (below_step' HB.out hb)
          clear hb hok
          go_upto_region 8 with fail
          have hn := heap_alloc_new V1 (.cells #[.slice none 0 0, .bool false, .slice none 0 0, .bool false] 52)
          have hb := below_alloc (Below.refl V1.heap.size V1) (.cells #[.slice none 0 0, .bool false, .slice none 0 0, .bool false] 52)
          generalize V1.alloc (.cells #[.slice none 0 0, .bool false, .slice none 0 0, .bool false] 52) = W1 at *
          obtain ⟨bo, hbn⟩ : ∃ b, b = V1.heap.size := ⟨_, rfl⟩
          rw [← hbn] at hn ⊢
          have obbo : w.heap.size < bo := by rw [hbn]; exact lt_of_block (unhide NR)
          clear hbn
          replace NR := hide ((hb.block _ (lt_of_block (unhide NR))).trans (unhide NR))
          replace HB := Lib.hid (below_step' HB.out hb)
          clear hb hn
          have r0 : W1.cell? ⟨w.heap.size, 0, none⟩ = some (.slice none 0 0) := cells_of (unhide NR) 0
          have fr0 := unfrozen_of (unhide NR) 0
          have r1 : W1.cell? ⟨w.heap.size, 1, none⟩ = some (.bool false) := cells_of (unhide NR) 1
          have fr1 := unfrozen_of (unhide NR) 1
          have r2 : W1.cell? ⟨w.heap.size, 2, none⟩ = some (.slice none 0 0) := cells_of (unhide NR) 2
          have fr2 := unfrozen_of (unhide NR) 2
          have r3 : W1.cell? ⟨w.heap.size, 3, none⟩ = some (.bool false) := cells_of (unhide NR) 3
          have fr3 := unfrozen_of (unhide NR) 3
          have qr := lt_of_block (unhide NR)
          go_wp2_with fail
          exact bodyPost_ret (v := .tuple #[(Value.agg #[.slice none 0 0, .bool false, .slice none 0 0, .bool false]), .bool false]) (by simp [results, Tryz.results88, go_sem, r0, r1, r2, r3, qr]) rfl
            ⟨none, 0, [], false, none, 0, [], false, false, rfl, HB.out.grown (set4_grown _ _ _ _ _ _) HB.out.size (fun k hk => by injection hk with hk; omega), .inr ⟨rfl, by rw [HP.out]; rfl⟩⟩
        have F1 := hide f1
        have HOK := Lib.hid hok
        replace NR := hide ((hb.block _ (lt_of_block (unhide NR))).trans (unhide NR))
        replace HB := Lib.hid (below_step' HB.out hb)
        clear hb f1 hok
        go_upto_region 8 with fail
        have hn := heap_alloc_new V1 (.cells #[.slice A1 l1.length c1, .bool m1, .slice A2 l2.length c2, .bool m2] 52)
        have hb := below_alloc (Below.refl V1.heap.size V1) (.cells #[.slice A1 l1.length c1, .bool m1, .slice A2 l2.length c2, .bool m2] 52)
        generalize V1.alloc (.cells #[.slice A1 l1.length c1, .bool m1, .slice A2 l2.length c2, .bool m2] 52) = W1 at *
        obtain ⟨bo, hbn⟩ : ∃ b, b = V1.heap.size := ⟨_, rfl⟩
        rw [← hbn] at hn ⊢
        have obbo : w.heap.size < bo := by rw [hbn]; exact lt_of_block (unhide NR)
        clear hbn
        have hbq : BoxQ W1 bo (Rat.divInt ((Wd.valD a.data.toList : Nat)) 1) := ⟨_, _, _, _, _, _, _, _, hn, (unhide F1).below hb⟩
        replace NR := hide ((hb.block _ (lt_of_block (unhide NR))).trans (unhide NR))
        replace HB := Lib.hid (below_step' HB.out hb)
        have HBQ := hide hbq
        clear hb hn hbq HNA
        go_upto_if 49 with (fail)
        go_cut [] (fun wx => ∃ q, Wd.posT B.data.toList = some q ∧ BoxQ wx bo q ∧ Below (w.heap.size + 1) W1 wx)
        case first =>
          by_cases hlt : k < B.size
          · have d1 : decide ((k : Int) < (B.size : Int)) = true := decide_eq_true (by omega)
            have d2 : decide (k < B.size) = true := decide_eq_true hlt
            have c2 : (k : Int) + 1 ≤ (B.size : Int) := by omega
            have c3 : (0 : Int) ≤ (k : Int) + 1 := by omega
            have hspl := (unhide HK).spl
            rw [← HA.out] at hspl
            have hdr := drop_at B hlt
            obtain ⟨t, ht⟩ : ∃ t, t = B.extract (k + 1) B.size := ⟨_, rfl⟩
            have lt_ : t.data.toList = B.data.toList.drop (k + 1) := by rw [ht]; exact ext_drop B (k + 1)
            rw [hdr, ← lt_] at hspl
            have tz : t.size ≤ 140737488351232 := by rw [← sizeB, lt_, List.length_drop, sizeB]; omega
            have HSP := hide hspl
            have HTE := Lib.hid ht
            clear hdr lt_ hspl ht
            by_cases c47 : (B[k].toNat : Int) = 47
            · have e47 : ((B[k].toNat : Int) == 47) = true := by rw [c47]; rfl
              have hB47 : B[k] = 47 := byte_eq (by rw [c47]; rfl)
              have hsp := unhide HSP
              rw [hB47] at hsp
              have hps := Wd.posT_sl hsp
              rw [HOK.out, Bool.true_and] at hps
              have HPS := Lib.hid hps
              have hnt := fun W => tnumeral_any t W tz
              rw [HTE.out] at hnt
              have HNT := hide hnt
              clear hsp hps hnt HSP hB47 c47 tz
              go_wp2_with fail
              refine ((unhide HNT) _).mono ?_
              rintro e V2 hnr
              rw [← HTE.out] at hnr
              rcases hnr with ⟨hok, A3, c3, l3, m3, A4, c4, l4, m4, rfl, f3, hb⟩ | ⟨hok, rfl, hb⟩
              rotate_left
              · have HP := Lib.hid (show Wd.posT B.data.toList = none by rw [HPS.out, hok]; rfl)
                replace NR := hide ((hb.block _ (lt_of_block (unhide NR))).trans (unhide NR))
                replace HB := Lib.hid (below_step' HB.out hb)
                clear hb hok
                go_upto_region 16 with fail
                have hn := heap_alloc_new V2 (.cells #[.slice none 0 0, .bool false, .slice none 0 0, .bool false] 52)
                have hb := below_alloc (Below.refl V2.heap.size V2) (.cells #[.slice none 0 0, .bool false, .slice none 0 0, .bool false] 52)
                generalize V2.alloc (.cells #[.slice none 0 0, .bool false, .slice none 0 0, .bool false] 52) = W2 at *
                obtain ⟨bd, hbn⟩ : ∃ b, b = V2.heap.size := ⟨_, rfl⟩
                rw [← hbn] at hn ⊢
                have obbd : w.heap.size < bd := by rw [hbn]; exact lt_of_block (unhide NR)
                clear hbn
                replace NR := hide ((hb.block _ (lt_of_block (unhide NR))).trans (unhide NR))
                replace HB := Lib.hid (below_step' HB.out hb)
                clear hb hn
                have r0 : W2.cell? ⟨w.heap.size, 0, none⟩ = some (.slice none 0 0) := cells_of (unhide NR) 0
                have fr0 := unfrozen_of (unhide NR) 0
                have r1 : W2.cell? ⟨w.heap.size, 1, none⟩ = some (.bool false) := cells_of (unhide NR) 1
                have fr1 := unfrozen_of (unhide NR) 1
                have r2 : W2.cell? ⟨w.heap.size, 2, none⟩ = some (.slice none 0 0) := cells_of (unhide NR) 2
                have fr2 := unfrozen_of (unhide NR) 2
                have r3 : W2.cell? ⟨w.heap.size, 3, none⟩ = some (.bool false) := cells_of (unhide NR) 3
                have fr3 := unfrozen_of (unhide NR) 3
                have qr := lt_of_block (unhide NR)
                go_wp2_with fail
                exact bodyPost_ret (v := .tuple #[(Value.agg #[.slice none 0 0, .bool false, .slice none 0 0, .bool false]), .bool false]) (by simp [results, Tryz.results88, go_sem, r0, r1, r2, r3, qr]) rfl
                  ⟨none, 0, [], false, none, 0, [], false, false, rfl, HB.out.grown (set4_grown _ _ _ _ _ _) HB.out.size (fun k hk => by injection hk with hk; omega), .inr ⟨rfl, by rw [HP.out]; rfl⟩⟩
              have F3 := hide f3
              have HOT := Lib.hid hok
              replace HBQ := hide ((unhide HBQ).below hb)
              have hbl : Below (w.heap.size + 1) W1 V2 := hb.mono (by have := lt_of_block (unhide NR); omega)
              replace NR := hide ((hb.block _ (lt_of_block (unhide NR))).trans (unhide NR))
              replace HB := Lib.hid (below_step' HB.out hb)
              clear hb f3 hok HNT
              go_upto_region 16 with fail
              have hn := heap_alloc_new V2 (.cells #[.slice A3 l3.length c3, .bool m3, .slice A4 l4.length c4, .bool m4] 52)
              have hb := below_alloc (Below.refl V2.heap.size V2) (.cells #[.slice A3 l3.length c3, .bool m3, .slice A4 l4.length c4, .bool m4] 52)
              generalize V2.alloc (.cells #[.slice A3 l3.length c3, .bool m3, .slice A4 l4.length c4, .bool m4] 52) = W2 at *
              obtain ⟨bd, hbn⟩ : ∃ b, b = V2.heap.size := ⟨_, rfl⟩
              rw [← hbn] at hn ⊢
              have obbd : w.heap.size < bd := by rw [hbn]; exact lt_of_block (unhide NR)
              clear hbn
              replace F3 := hide ((unhide F3).below hb)
              replace HBQ := hide ((unhide HBQ).below hb)
              replace hbl := hbl.trans (hb.mono (by have := lt_of_block (unhide NR); omega))
              replace NR := hide ((hb.block _ (lt_of_block (unhide NR))).trans (unhide NR))
              replace HB := Lib.hid (below_step' HB.out hb)
              have kd0 : W2.cell? ⟨bd, 0, none⟩ = some (.slice A3 l3.length c3) := cells_of hn 0
              have kd1 : W2.cell? ⟨bd, 1, none⟩ = some (.bool m3) := cells_of hn 1
              have kd2 : W2.cell? ⟨bd, 2, none⟩ = some (.slice A4 l4.length c4) := cells_of hn 2
              have kd3 : W2.cell? ⟨bd, 3, none⟩ = some (.bool m4) := cells_of hn 3
              have HZ := hide (fun W (hW : Below W2.heap.size W2 W) => tqzero_any A3 c3 l3 m3 A4 c4 l4 m4 _ W ((unhide F3).below hW))
              rw [int_num] at HZ
              have JD := hide hn
              clear hb hn
              by_cases hz : t.data.toList = [48]
              · have HP := Lib.hid (show Wd.posT B.data.toList = none by rw [HPS.out, hz]; simp)
                have hv0 : (Wd.valD t.data.toList : Int) = 0 := by rw [hz]; rfl
                rw [hv0, decide_eq_true rfl] at HZ
                clear hv0 hz
                go_wp2_with fail
                refine ((unhide HZ) _ (Below.refl _ _)).mono ?_
                rintro e V3 ⟨rfl, hb⟩
                replace NR := hide ((hb.block _ (lt_of_block (unhide NR))).trans (unhide NR))
                replace HB := Lib.hid (below_step' HB.out hb)
                clear hb
                have r0 : V3.cell? ⟨w.heap.size, 0, none⟩ = some (.slice none 0 0) := cells_of (unhide NR) 0
                have fr0 := unfrozen_of (unhide NR) 0
                have r1 : V3.cell? ⟨w.heap.size, 1, none⟩ = some (.bool false) := cells_of (unhide NR) 1
                have fr1 := unfrozen_of (unhide NR) 1
                have r2 : V3.cell? ⟨w.heap.size, 2, none⟩ = some (.slice none 0 0) := cells_of (unhide NR) 2
                have fr2 := unfrozen_of (unhide NR) 2
                have r3 : V3.cell? ⟨w.heap.size, 3, none⟩ = some (.bool false) := cells_of (unhide NR) 3
                have fr3 := unfrozen_of (unhide NR) 3
                have qr := lt_of_block (unhide NR)
                go_wp2_with fail
                exact bodyPost_ret (v := .tuple #[(Value.agg #[.slice none 0 0, .bool false, .slice none 0 0, .bool false]), .bool false]) (by simp [results, Tryz.results88, go_sem, r0, r1, r2, r3, qr]) rfl
                  ⟨none, 0, [], false, none, 0, [], false, false, rfl, HB.out.grown (set4_grown _ _ _ _ _ _) HB.out.size (fun k hk => by injection hk with hk; omega), .inr ⟨rfl, by rw [HP.out]; rfl⟩⟩
              · have hv0 : ¬ (Wd.valD t.data.toList : Int) = 0 := fun h => hz ((Wd.valD_zero_iff HOT.out).1 (by omega))
                have hps2 : Wd.posT B.data.toList = some (Rat.divInt (Wd.valD a.data.toList : Nat) (Wd.valD t.data.toList : Nat)) := by
                  rw [HPS.out, HOT.out, beq_eq_false_iff_ne.2 hz]; rfl
                rw [decide_eq_false hv0] at HZ
                have na := num_facts HOK.out; have nt := num_facts HOT.out
                have za := (sz_dec (Wd.valD_lt _ (Wd.numOk_dig HOK.out))).mono B32_pos (show a.data.toList.length / 9 + 1 ≤ 4 by omega)
                have zt := (sz_dec (Wd.valD_lt _ (Wd.numOk_dig HOT.out))).mono B32_pos (show t.data.toList.length / 9 + 1 ≤ 4 by omega)
                obtain ⟨x, hx⟩ : ∃ x : Int, x = (Wd.valD a.data.toList : Nat) := ⟨_, rfl⟩
                obtain ⟨y, hy⟩ : ∃ y : Int, y = (Wd.valD t.data.toList : Nat) := ⟨_, rfl⟩
                rw [← hx] at HBQ hps2 za
                rw [← hy] at F3 hps2 zt hv0
                have HPQ := Lib.hid hps2
                have HDV : Hid (∀ (A1 : Option Addr) (c1 : Nat) (l1 : List Nat) (m1 : Bool) (A2 : Option Addr) (c2 : Nat) (l2 : List Nat) (m2 : Bool) (A3 : Option Addr) (c3 : Nat) (l3 : List Nat) (m3 : Bool) (A4 : Option Addr) (c4 : Nat) (l4 : List Nat) (m4 : Bool) W, QV W A1 c1 l1 m1 A2 c2 l2 m2 (Rat.divInt (x) 1) → QV W A3 c3 l3 m3 A4 c4 l4 m4 (Rat.divInt (y) 1) → Calls Tryz.prog 47 #[(Value.agg #[.slice A1 l1.length c1, .bool m1, .slice A2 l2.length c2, .bool m2]), (Value.agg #[.slice A3 l3.length c3, .bool m3, .slice A4 l4.length c4, .bool m4])] W fun e w' => QR W (Rat.divInt x y) e w') := fun A1 c1 l1 m1 A2 c2 l2 m2 A3 c3 l3 m3 A4 c4 l4 m4 W g1 g3 => by have h := tqdiv_any 4 A1 c1 l1 m1 A2 c2 l2 m2 A3 c3 l3 m3 A4 c4 l4 m4 _ _ W g1 g3 (szq_int za (by omega)) (szq_int zt (by omega)) (by omega) (by rw [int_num]; exact hv0); rwa [div_ints] at h
                clear hz hv0 hps2 na nt za zt hx hy
                go_wp2_with fail
                refine ((unhide HZ) _ (Below.refl _ _)).mono ?_
                rintro e V3 ⟨rfl, hb⟩
                replace F3 := hide ((unhide F3).below hb)
                replace HBQ := hide ((unhide HBQ).below hb)
                replace hbl := hbl.trans (hb.mono (by have := lt_of_block (unhide NR); omega))
                have jd := (hb.block _ (lt_of_block (unhide JD))).trans (unhide JD)
                clear kd0 kd1 kd2 kd3
                replace NR := hide ((hb.block _ (lt_of_block (unhide NR))).trans (unhide NR))
                replace HB := Lib.hid (below_step' HB.out hb)
                clear hb
                obtain ⟨A5, c5, l5, m5, A6, c6, l6, m6, j1, f5⟩ := unhide HBQ
                have kd0 : V3.cell? ⟨bd, 0, none⟩ = some (.slice A3 l3.length c3) := cells_of jd 0
                have kd1 : V3.cell? ⟨bd, 1, none⟩ = some (.bool m3) := cells_of jd 1
                have kd2 : V3.cell? ⟨bd, 2, none⟩ = some (.slice A4 l4.length c4) := cells_of jd 2
                have kd3 : V3.cell? ⟨bd, 3, none⟩ = some (.bool m4) := cells_of jd 3
                have kx_0 : V3.cell? ⟨bo, 0, none⟩ = some (.slice A5 l5.length c5) := cells_of j1 0
                have ux_0 := unfrozen_of j1 0
                have kx_1 : V3.cell? ⟨bo, 1, none⟩ = some (.bool m5) := cells_of j1 1
                have ux_1 := unfrozen_of j1 1
                have kx_2 : V3.cell? ⟨bo, 2, none⟩ = some (.slice A6 l6.length c6) := cells_of j1 2
                have ux_2 := unfrozen_of j1 2
                have kx_3 : V3.cell? ⟨bo, 3, none⟩ = some (.bool m6) := cells_of j1 3
                have ux_3 := unfrozen_of j1 3
                have qx := lt_of_block j1
                have J1 := hide j1; have F5 := hide f5
                clear jd j1 f5 JD
                go_wp2_with fail
                refine ((unhide HDV) A5 c5 l5 m5 A6 c6 l6 m6 A3 c3 l3 m3 A4 c4 l4 m4 _ (unhide F5) (unhide F3)).mono ?_
                rintro e V4 ⟨A7, c7, l7, m7, A8, c8, l8, m8, rfl, g7, g8, hb⟩
                have hst := boxq_st (boxq_below ⟨_, _, _, _, _, _, _, _, unhide J1, unhide F5⟩ hb) (QV.of g7 g8) (hbl.trans (hb.mono (by have := lt_of_block (unhide NR); omega))) (by omega) (by have := hb.size; have := lt_of_block (unhide NR); omega)
                obtain ⟨hc, hfz⟩ := bcell hb
                replace kx_0 := (hc _ _ qx).trans kx_0
                replace ux_0 := (hfz _ _ qx).trans ux_0
                replace kx_1 := (hc _ _ qx).trans kx_1
                replace ux_1 := (hfz _ _ qx).trans ux_1
                replace kx_2 := (hc _ _ qx).trans kx_2
                replace ux_2 := (hfz _ _ qx).trans ux_2
                replace kx_3 := (hc _ _ qx).trans kx_3
                replace ux_3 := (hfz _ _ qx).trans ux_3
                clear g7 g8 hb hc hfz
                go_wp2_with fail
                all_goals (go_meet; exact ⟨_, HPQ.out, hst.1, hst.2⟩)
            · have e47 : ((B[k].toNat : Int) == 47) = false := beq_eq_false_iff_ne.2 c47
              by_cases c46 : (B[k].toNat : Int) = 46
              · have e46 : ((B[k].toNat : Int) == 46) = true := by rw [c46]; rfl
                have hB46 : B[k] = 46 := byte_eq (by rw [c46]; rfl)
                have hsp := unhide HSP
                rw [hB46] at hsp
                have hps := Wd.posT_pt hsp
                rw [HOK.out, Bool.true_and] at hps
                have HPS := Lib.hid hps
                have hnt := fun W => tdigits_any t W tz
                rw [HTE.out] at hnt
                have HNT := hide hnt
                clear hsp hps hnt HSP hB46 c46 c47
                go_wp2_with fail
                refine ((unhide HNT) _).mono ?_
                rintro e V2 hnr
                rw [← HTE.out] at hnr
                rcases hnr with ⟨hok, A3, c3, l3, m3, A4, c4, l4, m4, rfl, f3, hb⟩ | ⟨hok, rfl, hb⟩
                rotate_left
                · have HP := Lib.hid (show Wd.posT B.data.toList = none by
                    rw [HPS.out, if_neg (fun h => by rw [(Wd.digsOk_iff.1 h).2.2] at hok; cases hok)])
                  replace NR := hide ((hb.block _ (lt_of_block (unhide NR))).trans (unhide NR))
                  replace HB := Lib.hid (below_step' HB.out hb)
                  clear hb hok tz
                  go_upto_region 21 with fail
                  have hn := heap_alloc_new V2 (.cells #[.slice none 0 0, .bool false, .slice none 0 0, .bool false] 52)
                  have hb := below_alloc (Below.refl V2.heap.size V2) (.cells #[.slice none 0 0, .bool false, .slice none 0 0, .bool false] 52)
                  generalize V2.alloc (.cells #[.slice none 0 0, .bool false, .slice none 0 0, .bool false] 52) = W2 at *
                  obtain ⟨bd, hbn⟩ : ∃ b, b = V2.heap.size := ⟨_, rfl⟩
                  rw [← hbn] at hn ⊢
                  have obbd : w.heap.size < bd := by rw [hbn]; exact lt_of_block (unhide NR)
                  clear hbn
                  replace NR := hide ((hb.block _ (lt_of_block (unhide NR))).trans (unhide NR))
                  replace HB := Lib.hid (below_step' HB.out hb)
                  clear hb hn
                  have r0 : W2.cell? ⟨w.heap.size, 0, none⟩ = some (.slice none 0 0) := cells_of (unhide NR) 0
                  have fr0 := unfrozen_of (unhide NR) 0
                  have r1 : W2.cell? ⟨w.heap.size, 1, none⟩ = some (.bool false) := cells_of (unhide NR) 1
                  have fr1 := unfrozen_of (unhide NR) 1
                  have r2 : W2.cell? ⟨w.heap.size, 2, none⟩ = some (.slice none 0 0) := cells_of (unhide NR) 2
                  have fr2 := unfrozen_of (unhide NR) 2
                  have r3 : W2.cell? ⟨w.heap.size, 3, none⟩ = some (.bool false) := cells_of (unhide NR) 3
                  have fr3 := unfrozen_of (unhide NR) 3
                  have qr := lt_of_block (unhide NR)
                  go_wp2_with fail
                  exact bodyPost_ret (v := .tuple #[(Value.agg #[.slice none 0 0, .bool false, .slice none 0 0, .bool false]), .bool false]) (by simp [results, Tryz.results88, go_sem, r0, r1, r2, r3, qr]) rfl
                    ⟨none, 0, [], false, none, 0, [], false, false, rfl, HB.out.grown (set4_grown _ _ _ _ _ _) HB.out.size (fun k hk => by injection hk with hk; omega), .inr ⟨rfl, by rw [HP.out]; rfl⟩⟩
                have F3 := hide f3
                have HOT := Lib.hid hok
                replace HBQ := hide ((unhide HBQ).below hb)
                have hbl : Below (w.heap.size + 1) W1 V2 := hb.mono (by have := lt_of_block (unhide NR); omega)
                replace NR := hide ((hb.block _ (lt_of_block (unhide NR))).trans (unhide NR))
                replace HB := Lib.hid (below_step' HB.out hb)
                clear hb f3 hok HNT
                obtain ⟨lb, hlb⟩ : ∃ b : Bool, b = decide (0 < t.data.toList.length) := ⟨_, rfl⟩
                rw [← hlb]
                have HLB := Lib.hid hlb
                clear hlb
                go_upto_region 21 with fail
                have hn := heap_alloc_new V2 (.cells #[.slice A3 l3.length c3, .bool m3, .slice A4 l4.length c4, .bool m4] 52)
                have hb := below_alloc (Below.refl V2.heap.size V2) (.cells #[.slice A3 l3.length c3, .bool m3, .slice A4 l4.length c4, .bool m4] 52)
                generalize V2.alloc (.cells #[.slice A3 l3.length c3, .bool m3, .slice A4 l4.length c4, .bool m4] 52) = W2 at *
                obtain ⟨bd, hbn⟩ : ∃ b, b = V2.heap.size := ⟨_, rfl⟩
                rw [← hbn] at hn ⊢
                have obbd : w.heap.size < bd := by rw [hbn]; exact lt_of_block (unhide NR)
                clear hbn
                replace F3 := hide ((unhide F3).below hb)
                replace HBQ := hide ((unhide HBQ).below hb)
                replace hbl := hbl.trans (hb.mono (by have := lt_of_block (unhide NR); omega))
                replace NR := hide ((hb.block _ (lt_of_block (unhide NR))).trans (unhide NR))
                replace HB := Lib.hid (below_step' HB.out hb)
                have JD := hide hn
                clear hb hn
                cases lb with
                | false =>
                  have HP := Lib.hid (show Wd.posT B.data.toList = none by
                    rw [HPS.out, if_neg (fun h => by have h1 := (Wd.digsOk_iff.1 h).1; have h2 := of_decide_eq_false HLB.out.symm; omega)])
                  clear tz
                  have r0 : W2.cell? ⟨w.heap.size, 0, none⟩ = some (.slice none 0 0) := cells_of (unhide NR) 0
                  have fr0 := unfrozen_of (unhide NR) 0
                  have r1 : W2.cell? ⟨w.heap.size, 1, none⟩ = some (.bool false) := cells_of (unhide NR) 1
                  have fr1 := unfrozen_of (unhide NR) 1
                  have r2 : W2.cell? ⟨w.heap.size, 2, none⟩ = some (.slice none 0 0) := cells_of (unhide NR) 2
                  have fr2 := unfrozen_of (unhide NR) 2
                  have r3 : W2.cell? ⟨w.heap.size, 3, none⟩ = some (.bool false) := cells_of (unhide NR) 3
                  have fr3 := unfrozen_of (unhide NR) 3
                  have qr := lt_of_block (unhide NR)
                  go_wp2_with fail
                  exact bodyPost_ret (v := .tuple #[(Value.agg #[.slice none 0 0, .bool false, .slice none 0 0, .bool false]), .bool false]) (by simp [results, Tryz.results88, go_sem, r0, r1, r2, r3, qr]) rfl
                    ⟨none, 0, [], false, none, 0, [], false, false, rfl, HB.out.grown (set4_grown _ _ _ _ _ _) HB.out.size (fun k hk => by injection hk with hk; omega), .inr ⟨rfl, by rw [HP.out]; rfl⟩⟩
                | true =>
                  have ets : (B.extract (k + 1) B.size).size = t.size := by rw [← HTE.out]
                  by_cases h12 : 12 < (t.size : Int)
                  · have HP := Lib.hid (show Wd.posT B.data.toList = none by
                      rw [HPS.out, if_neg (fun h => by have h1 := (Wd.digsOk_iff.1 h).2.1; rw [sizeB] at h1; omega)])
                    have d5 : decide (12 < ((B.extract (k + 1) B.size).size : Int)) = true := decide_eq_true (by rw [ets]; exact h12)
                    rw [← HTE.out] at d5
                    clear tz h12 ets
                    rw [← HTE.out]
                    have r0 : W2.cell? ⟨w.heap.size, 0, none⟩ = some (.slice none 0 0) := cells_of (unhide NR) 0
                    have fr0 := unfrozen_of (unhide NR) 0
                    have r1 : W2.cell? ⟨w.heap.size, 1, none⟩ = some (.bool false) := cells_of (unhide NR) 1
                    have fr1 := unfrozen_of (unhide NR) 1
                    have r2 : W2.cell? ⟨w.heap.size, 2, none⟩ = some (.slice none 0 0) := cells_of (unhide NR) 2
                    have fr2 := unfrozen_of (unhide NR) 2
                    have r3 : W2.cell? ⟨w.heap.size, 3, none⟩ = some (.bool false) := cells_of (unhide NR) 3
                    have fr3 := unfrozen_of (unhide NR) 3
                    have qr := lt_of_block (unhide NR)
                    go_wp2_with fail
                    exact bodyPost_ret (v := .tuple #[(Value.agg #[.slice none 0 0, .bool false, .slice none 0 0, .bool false]), .bool false]) (by simp [results, Tryz.results88, go_sem, r0, r1, r2, r3, qr]) rfl
                      ⟨none, 0, [], false, none, 0, [], false, false, rfl, HB.out.grown (set4_grown _ _ _ _ _ _) HB.out.size (fun k hk => by injection hk with hk; omega), .inr ⟨rfl, by rw [HP.out]; rfl⟩⟩
                  · have d5 : decide (12 < (t.size : Int)) = false := decide_eq_false h12
                    have hl : 1 ≤ t.data.toList.length := by have := of_decide_eq_true HLB.out.symm; omega
                    have hps2 : Wd.posT B.data.toList = some (Rat.divInt (Wd.valD (a.data.toList ++ t.data.toList) : Nat) ((10 ^ t.data.toList.length : Nat) : Int)) := by
                      rw [HPS.out, if_pos (Wd.digsOk_iff.2 ⟨hl, by rw [sizeB]; omega, HOT.out⟩)]
                    rw [← pt_value] at hps2
                    have na := num_facts HOK.out
                    have za := (sz_dec (Wd.valD_lt _ (Wd.numOk_dig HOK.out))).mono B32_pos (show a.data.toList.length / 9 + 1 ≤ 4 by omega)
                    have hl12 : t.data.toList.length ≤ 12 := by rw [sizeB]; omega
                    have zt := (sz_dec (Wd.valD_lt _ HOT.out)).mono B32_pos (show t.data.toList.length / 9 + 1 ≤ 4 by omega)
                    have zp : Wd.Sz B32 4 ((10 ^ t.data.toList.length : Nat) : Int) := (sz_dec (k := 13) (Nat.lt_of_le_of_lt (Nat.pow_le_pow_right (by omega) hl12) (by decide))).mono B32_pos (by omega)
                    have hp0 : (10 ^ t.data.toList.length : Nat) ≠ 0 := by have := Nat.pow_pos (n := t.data.toList.length) (show 0 < 10 by decide); omega
                    have hpw := fun A7 c7 l7 m7 A8 c8 l8 m8 W (g : QV W A7 c7 l7 m7 A8 c8 l8 m8 (Rat.divInt (10) 1)) => tpow_any A7 c7 l7 m7 A8 c8 l8 m8 (Rat.divInt 10 1) t.size 1 W g (szq_int (sz_small (by decide)) (by omega)) (by omega) (by omega)
                    rw [Wd.qpow_ten, ← sizeB] at hpw
                    rw [sizeB] at hpw
                    obtain ⟨x, hx⟩ : ∃ x : Int, x = (Wd.valD a.data.toList : Nat) := ⟨_, rfl⟩
                    obtain ⟨y, hy⟩ : ∃ y : Int, y = (Wd.valD t.data.toList : Nat) := ⟨_, rfl⟩
                    obtain ⟨z, hz⟩ : ∃ z : Int, z = ((10 ^ t.data.toList.length : Nat) : Int) := ⟨_, rfl⟩
                    have hz2 : ((10 ^ t.size : Nat) : Int) = z := by rw [hz, sizeB]
                    rw [hz2] at hpw
                    have hz0 : z ≠ 0 := by omega
                    rw [← hx] at HBQ hps2 za
                    rw [← hy] at F3 hps2 zt
                    rw [← hz] at hps2 zp
                    have HPQ := Lib.hid hps2
                    have HPW := hide hpw
                    have HT10 := hide (fun W => tint_any 10 W (by omega) (by omega))
                    have HDV : Hid (∀ (A3 : Option Addr) (c3 : Nat) (l3 : List Nat) (m3 : Bool) (A4 : Option Addr) (c4 : Nat) (l4 : List Nat) (m4 : Bool) (A9 : Option Addr) (c9 : Nat) (l9 : List Nat) (m9 : Bool) (A10 : Option Addr) (c10 : Nat) (l10 : List Nat) (m10 : Bool) W, QV W A3 c3 l3 m3 A4 c4 l4 m4 (Rat.divInt (y) 1) → QV W A9 c9 l9 m9 A10 c10 l10 m10 (Rat.divInt (z) 1) → Calls Tryz.prog 47 #[(Value.agg #[.slice A3 l3.length c3, .bool m3, .slice A4 l4.length c4, .bool m4]), (Value.agg #[.slice A9 l9.length c9, .bool m9, .slice A10 l10.length c10, .bool m10])] W fun e w' => QR W (Rat.divInt y z) e w') := fun A3 c3 l3 m3 A4 c4 l4 m4 A9 c9 l9 m9 A10 c10 l10 m10 W g3 g9 => by have h := tqdiv_any 4 A3 c3 l3 m3 A4 c4 l4 m4 A9 c9 l9 m9 A10 c10 l10 m10 _ _ W g3 g9 (szq_int zt (by omega)) (szq_int zp (by omega)) (by omega) (by rw [int_num]; exact hz0); rwa [div_ints] at h
                    have HAD : Hid (∀ (A5 : Option Addr) (c5 : Nat) (l5 : List Nat) (m5 : Bool) (A6 : Option Addr) (c6 : Nat) (l6 : List Nat) (m6 : Bool) (A11 : Option Addr) (c11 : Nat) (l11 : List Nat) (m11 : Bool) (A12 : Option Addr) (c12 : Nat) (l12 : List Nat) (m12 : Bool) W, QV W A5 c5 l5 m5 A6 c6 l6 m6 (Rat.divInt (x) 1) → QV W A11 c11 l11 m11 A12 c12 l12 m12 (Rat.divInt y z) → Calls Tryz.prog 43 #[(Value.agg #[.slice A5 l5.length c5, .bool m5, .slice A6 l6.length c6, .bool m6]), (Value.agg #[.slice A11 l11.length c11, .bool m11, .slice A12 l12.length c12, .bool m12])] W fun e w' => QR W (Rat.divInt x 1 + Rat.divInt y z) e w') := fun A5 c5 l5 m5 A6 c6 l6 m6 A11 c11 l11 m11 A12 c12 l12 m12 W g5 g11 => tqadd_any 4 A5 c5 l5 m5 A6 c6 l6 m6 A11 c11 l11 m11 A12 c12 l12 m12 _ _ W g5 g11 (szq_int za (by omega)) (Wd.szq_div hz0 zt zp) (by omega)
                    obtain ⟨A5, c5, l5, m5, A6, c6, l6, m6, j1, f5⟩ := unhide HBQ
                    have kd0 : W2.cell? ⟨bd, 0, none⟩ = some (.slice A3 l3.length c3) := cells_of (unhide JD) 0
                    have kd1 : W2.cell? ⟨bd, 1, none⟩ = some (.bool m3) := cells_of (unhide JD) 1
                    have kd2 : W2.cell? ⟨bd, 2, none⟩ = some (.slice A4 l4.length c4) := cells_of (unhide JD) 2
                    have kd3 : W2.cell? ⟨bd, 3, none⟩ = some (.bool m4) := cells_of (unhide JD) 3
                    have kx_0 : W2.cell? ⟨bo, 0, none⟩ = some (.slice A5 l5.length c5) := cells_of j1 0
                    have ux_0 := unfrozen_of j1 0
                    have kx_1 : W2.cell? ⟨bo, 1, none⟩ = some (.bool m5) := cells_of j1 1
                    have ux_1 := unfrozen_of j1 1
                    have kx_2 : W2.cell? ⟨bo, 2, none⟩ = some (.slice A6 l6.length c6) := cells_of j1 2
                    have ux_2 := unfrozen_of j1 2
                    have kx_3 : W2.cell? ⟨bo, 3, none⟩ = some (.bool m6) := cells_of j1 3
                    have ux_3 := unfrozen_of j1 3
                    have qx := lt_of_block j1
                    have qd := lt_of_block (unhide JD)
                    have J1 := hide j1; have F5 := hide f5
                    clear j1 f5 h12 hl hps2 na za hl12 zt zp hp0 hpw hx hy hz hz2 hz0 tz ets
                    rw [← HTE.out]
                    go_upto_region 23 with fail
                    go_region_with (first | (go_at_call 72; refine ((unhide HT10) _).mono ?_; rintro e w' ⟨A7, c7, l7, m7, A8, c8, l8, m8, rfl, g1, g2, hb7⟩; have iq7 := QV.of g1 g2; clear g1 g2; have hbw := below_step (w := W2) (by (first | with_reducible assumption | (repeat (first | with_reducible exact Below.refl _ _ | with_reducible assumption | refine Below.drew ?_ | (refine Below.alloc ?_ (by simp <;> omega) _) | refine belowN ?_ _)))) hb7; obtain ⟨hc, hfz⟩ := bcell hbw) | (go_at_call 54; refine ((unhide HPW) A7 c7 l7 m7 A8 c8 l8 m8 _ (by first | exact iq7 | exact QV.below iq7 (by (first | with_reducible assumption | (repeat (first | with_reducible exact Below.refl _ _ | with_reducible assumption | refine Below.drew ?_ | (refine Below.alloc ?_ (by simp <;> omega) _) | refine belowN ?_ _)))))).mono ?_; rintro e w' ⟨A9, c9, l9, m9, A10, c10, l10, m10, rfl, iq9, hb9⟩; have hbw := below_step (w := W2) (by (first | with_reducible assumption | (repeat (first | with_reducible exact Below.refl _ _ | with_reducible assumption | refine Below.drew ?_ | (refine Below.alloc ?_ (by simp <;> omega) _) | refine belowN ?_ _)))) hb9; obtain ⟨hc, hfz⟩ := bcell hbw) | (go_at_call 47; refine ((unhide HDV) A3 c3 l3 m3 A4 c4 l4 m4 A9 c9 l9 m9 A10 c10 l10 m10 _ (QV.below (unhide F3) (by (first | with_reducible assumption | (repeat (first | with_reducible exact Below.refl _ _ | with_reducible assumption | refine Below.drew ?_ | (refine Below.alloc ?_ (by simp <;> omega) _) | refine belowN ?_ _))))) (by first | exact iq9 | exact QV.below iq9 (by (first | with_reducible assumption | (repeat (first | with_reducible exact Below.refl _ _ | with_reducible assumption | refine Below.drew ?_ | (refine Below.alloc ?_ (by simp <;> omega) _) | refine belowN ?_ _)))))).mono ?_; rintro e w' ⟨A11, c11, l11, m11, A12, c12, l12, m12, rfl, g1, g2, hb11⟩; have iq11 := QV.of g1 g2; clear g1 g2; have hbw := below_step (w := W2) (by (first | with_reducible assumption | (repeat (first | with_reducible exact Below.refl _ _ | with_reducible assumption | refine Below.drew ?_ | (refine Below.alloc ?_ (by simp <;> omega) _) | refine belowN ?_ _)))) hb11; obtain ⟨hc, hfz⟩ := bcell hbw) | (go_at_call 43; refine ((unhide HAD) A5 c5 l5 m5 A6 c6 l6 m6 A11 c11 l11 m11 A12 c12 l12 m12 _ (QV.below (unhide F5) (by (first | with_reducible assumption | (repeat (first | with_reducible exact Below.refl _ _ | with_reducible assumption | refine Below.drew ?_ | (refine Below.alloc ?_ (by simp <;> omega) _) | refine belowN ?_ _))))) (by first | exact iq11 | exact QV.below iq11 (by (first | with_reducible assumption | (repeat (first | with_reducible exact Below.refl _ _ | with_reducible assumption | refine Below.drew ?_ | (refine Below.alloc ?_ (by simp <;> omega) _) | refine belowN ?_ _)))))).mono ?_; rintro e w' ⟨A13, c13, l13, m13, A14, c14, l14, m14, rfl, g1, g2, hb13⟩; have iq13 := QV.of g1 g2; clear g1 g2; have hbw := below_step (w := W2) (by (first | with_reducible assumption | (repeat (first | with_reducible exact Below.refl _ _ | with_reducible assumption | refine Below.drew ?_ | (refine Below.alloc ?_ (by simp <;> omega) _) | refine belowN ?_ _)))) hb13; obtain ⟨hc, hfz⟩ := bcell hbw))
                    all_goals
                      have hst := boxq_st (boxq_below ⟨_, _, _, _, _, _, _, _, unhide J1, unhide F5⟩ hbw) iq13 (hbl.trans (hbw.mono (by have := lt_of_block (unhide NR); omega))) (by omega) (by have := hbw.size; have := lt_of_block (unhide NR); omega)
                      go_wp2_with fail
                      all_goals (go_meet; exact ⟨_, HPQ.out, hst.1, hst.2⟩)
              · have e46 : ((B[k].toNat : Int) == 46) = false := beq_eq_false_iff_ne.2 c46
                have HP := Lib.hid (Wd.posT_other (unhide HSP) (byte_ne (by show ¬ (B[k].toNat : Int) = 47; exact c47)) (byte_ne (by show ¬ (B[k].toNat : Int) = 46; exact c46)))
                clear c46 c47 HSP tz
                have r0 : W1.cell? ⟨w.heap.size, 0, none⟩ = some (.slice none 0 0) := cells_of (unhide NR) 0
                have fr0 := unfrozen_of (unhide NR) 0
                have r1 : W1.cell? ⟨w.heap.size, 1, none⟩ = some (.bool false) := cells_of (unhide NR) 1
                have fr1 := unfrozen_of (unhide NR) 1
                have r2 : W1.cell? ⟨w.heap.size, 2, none⟩ = some (.slice none 0 0) := cells_of (unhide NR) 2
                have fr2 := unfrozen_of (unhide NR) 2
                have r3 : W1.cell? ⟨w.heap.size, 3, none⟩ = some (.bool false) := cells_of (unhide NR) 3
                have fr3 := unfrozen_of (unhide NR) 3
                have qr := lt_of_block (unhide NR)
                go_wp2_with fail
                exact bodyPost_ret (v := .tuple #[(Value.agg #[.slice none 0 0, .bool false, .slice none 0 0, .bool false]), .bool false]) (by simp [results, Tryz.results88, go_sem, r0, r1, r2, r3, qr]) rfl
                  ⟨none, 0, [], false, none, 0, [], false, false, rfl, HB.out.grown (set4_grown _ _ _ _ _ _) HB.out.size (fun k hk => by injection hk with hk; omega), .inr ⟨rfl, by rw [HP.out]; rfl⟩⟩
          · have d1 : decide ((k : Int) < (B.size : Int)) = false := decide_eq_false (by omega)
            have d2 : decide (k < B.size) = false := decide_eq_false hlt
            have hspl := (unhide HK).spl
            rw [← HA.out, List.drop_of_length_le (by rw [sizeB]; omega)] at hspl
            have hpe := Wd.posT_end hspl
            rw [if_pos HOK.out] at hpe
            have HPE := Lib.hid hpe
            clear hspl hpe
            go_wp2_with fail
            all_goals (go_meet; exact ⟨_, HPE.out, unhide HBQ, Below.refl _ _⟩)
        case rest =>
          revert hcut
          generalize wc = W5
          rintro ⟨q, hq, hbq, hbl⟩
          have HQ := Lib.hid hq
          have hbs := hbl.size
          have nr5 := (hbl.block w.heap.size (by omega)).trans (unhide NR)
          have hw5 : Below w.heap.size w W5 := HB.out.trans (hbl.mono (by omega))
          obtain ⟨A3, c3, l3, m3, A4, c4, l4, m4, j1, f3⟩ := hbq
          have ko0 : W5.cell? ⟨bo, 0, none⟩ = some (.slice A3 l3.length c3) := cells_of j1 0
          have ko1 : W5.cell? ⟨bo, 1, none⟩ = some (.bool m3) := cells_of j1 1
          have ko2 : W5.cell? ⟨bo, 2, none⟩ = some (.slice A4 l4.length c4) := cells_of j1 2
          have ko3 : W5.cell? ⟨bo, 3, none⟩ = some (.bool m4) := cells_of j1 3
          have r0 : W5.cell? ⟨w.heap.size, 0, none⟩ = some (.slice none 0 0) := cells_of nr5 0
          have fr0 := unfrozen_of nr5 0
          have r1 : W5.cell? ⟨w.heap.size, 1, none⟩ = some (.bool false) := cells_of nr5 1
          have fr1 := unfrozen_of nr5 1
          have r2 : W5.cell? ⟨w.heap.size, 2, none⟩ = some (.slice none 0 0) := cells_of nr5 2
          have fr2 := unfrozen_of nr5 2
          have r3 : W5.cell? ⟨w.heap.size, 3, none⟩ = some (.bool false) := cells_of nr5 3
          have fr3 := unfrozen_of nr5 3
          have qr := lt_of_block nr5
          have qo := lt_of_block j1
          have HBLK := Lib.hid nr5
          have F3 := hide f3
          clear nr5 j1 f3 hq hbl HBQ
          cases m
          · go_wp2_with fail
            exact bodyPost_ret (v := .tuple #[(Value.agg #[.slice A3 l3.length c3, .bool m3, .slice A4 l4.length c4, .bool m4]), .bool true]) (by simp [results, Tryz.results88, go_sem, r0, r1, r2, r3, qr]) rfl
              ⟨A3, c3, l3, m3, A4, c4, l4, m4, true, rfl, hw5.grown (set4_grown _ _ _ _ _ _) hw5.size (fun k hk => by injection hk with hk; omega), .inl ⟨rfl, q, HQ.out, by simp, (unhide F3).upto HBLK.out (noW2_4 _ _ _ _ _ _ _ _) (set4_grown _ _ _ _ _ _)⟩⟩
          · have HNG := hide (fun A5 c5 l5 m5 A6 c6 l6 m6 W (g : QV W A5 c5 l5 m5 A6 c6 l6 m6 (q)) => tqneg_any A5 c5 l5 m5 A6 c6 l6 m6 q W g)
            have HZ := hide (fun A5 c5 l5 m5 A6 c6 l6 m6 W (g : QV W A5 c5 l5 m5 A6 c6 l6 m6 (q)) => tqzero_any A5 c5 l5 m5 A6 c6 l6 m6 q W g)
            obtain ⟨zb, hzb⟩ : ∃ zb, zb = decide (q.num = 0) := ⟨_, rfl⟩
            rw [← hzb] at HZ
            have HZB := Lib.hid hzb
            clear hzb
            go_wp2_with fail
            go_region_with (first | (go_at_call 99; refine ((unhide HNG) A3 c3 l3 m3 A4 c4 l4 m4 _ (QV.below (unhide F3) (by (first | with_reducible assumption | (repeat (first | with_reducible exact Below.refl _ _ | with_reducible assumption | refine Below.drew ?_ | (refine Below.alloc ?_ (by simp <;> omega) _) | refine belowN ?_ _)))))).mono ?_; rintro e w' ⟨A7, c7, l7, m7, A8, c8, l8, m8, rfl, g1, g2, hb7⟩; have iq7 := QV.of g1 g2; clear g1 g2; have hbw := below_step (w := W5) (by (first | with_reducible assumption | (repeat (first | with_reducible exact Below.refl _ _ | with_reducible assumption | refine Below.drew ?_ | (refine Below.alloc ?_ (by simp <;> omega) _) | refine belowN ?_ _)))) hb7; obtain ⟨hc, hfz⟩ := bcell hbw) | (go_at_call 46; refine ((unhide HZ) A3 c3 l3 m3 A4 c4 l4 m4 _ (QV.below (unhide F3) (by (first | with_reducible assumption | (repeat (first | with_reducible exact Below.refl _ _ | with_reducible assumption | refine Below.drew ?_ | (refine Below.alloc ?_ (by simp <;> omega) _) | refine belowN ?_ _)))))).mono ?_; rintro e w' ⟨rfl, hb9⟩; (try (first | replace iq7 := QV.below iq7 hb9 | replace iq7 := (QV.below iq7 (Below.drew (Below.refl _ _))).below hb9)); have hbw := below_step (w := W5) (by (first | with_reducible assumption | (repeat (first | with_reducible exact Below.refl _ _ | with_reducible assumption | refine Below.drew ?_ | (refine Below.alloc ?_ (by simp <;> omega) _) | refine belowN ?_ _)))) hb9; obtain ⟨hc, hfz⟩ := bcell hbw))
            all_goals
              have hw9 := below_step' hw5 hbw
              have HBLK2 := Lib.hid ((hbw.block _ qr).trans HBLK.out)
              have iq := hide (first_qv iq7 (by (first | with_reducible assumption | (repeat (first | with_reducible exact Below.refl _ _ | with_reducible assumption | refine Below.drew ?_ | (refine Below.alloc ?_ (by simp <;> omega) _) | refine belowN ?_ _)))))
              go_wp2_with fail
              exact bodyPost_ret (v := .tuple #[(Value.agg #[.slice A7 l7.length c7, .bool m7, .slice A8 l8.length c8, .bool m8]), .bool (!zb)]) (by simp [results, Tryz.results88, go_sem, hc, r0, r1, r2, r3, qr]) rfl
                ⟨A7, c7, l7, m7, A8, c8, l8, m8, !zb, rfl, hw9.grown (set4_grown _ _ _ _ _ _) hw9.size (fun k hk => by injection hk with hk; omega), read_end HQ.out HZB.out ((unhide iq).upto HBLK2.out (noW2_4 _ _ _ _ _ _ _ _) (set4_grown _ _ _ _ _ _))⟩

end Go.Proofs.YtpjgoogeokbaaaaGreatDoor
/- Texts: what the reference tells. -/
namespace Go.Proofs.YtpjgoogeokbaaaaGreatDoor
open Go.RowKit

set_option maxRecDepth 100000 in
set_option maxHeartbeats 16000000 in
theorem tparse_walk (s : ByteArray) (m : Bool) (o : Option Rat) (w : World)
    (hrd : ∀ W, Calls Tryz.prog 88 #[.string s] W fun e w' => ReadR W m o e w') :
    Calls Tryz.prog 35 #[.string s] w fun e w' => TolR w (Wd.tellT m o) e w' := by
  have HR := hide hrd
  obtain ⟨t, ht⟩ : ∃ t, t = Wd.tellT m o := ⟨_, rfl⟩
  rw [← ht]
  have HTT := Lib.hid ht
  clear hrd ht
  go_enter Tryz.func35, Tryz.ntmps35
  go_upto_region 1 with fail
  obtain ⟨nr, hsz, hw0⟩ := one_new w (.cells #[.int .i64 0, .int .i64 0] 23)
  generalize w.alloc (.cells #[.int .i64 0, .int .i64 0] 23) = W0 at *
  have NR := hide nr; have HB := Lib.hid hw0
  clear hsz nr hw0
  go_wp2_with fail
  refine ((unhide HR) _).mono ?_
  rintro e V1 ⟨A1, c1, l1, m1, A2, c2, l2, m2, ok, rfl, hb, hcase⟩
  have HC := hide hcase
  replace NR := hide ((hb.block _ (lt_of_block (unhide NR))).trans (unhide NR))
  replace HB := Lib.hid (below_step' HB.out hb)
  clear hb hcase
  go_upto_region 2 with fail
  have hn := heap_alloc_new V1 (.cells #[.slice A1 l1.length c1, .bool m1, .slice A2 l2.length c2, .bool m2] 52)
  have hb := below_alloc (Below.refl V1.heap.size V1) (.cells #[.slice A1 l1.length c1, .bool m1, .slice A2 l2.length c2, .bool m2] 52)
  generalize V1.alloc (.cells #[.slice A1 l1.length c1, .bool m1, .slice A2 l2.length c2, .bool m2] 52) = W1 at *
  obtain ⟨bo, hbn⟩ : ∃ b, b = V1.heap.size := ⟨_, rfl⟩
  rw [← hbn] at hn ⊢
  have obbo : w.heap.size < bo := by rw [hbn]; exact lt_of_block (unhide NR)
  clear hbn
  have ko0 : W1.cell? ⟨bo, 0, none⟩ = some (.slice A1 l1.length c1) := cells_of hn 0
  have ko1 : W1.cell? ⟨bo, 1, none⟩ = some (.bool m1) := cells_of hn 1
  have ko2 : W1.cell? ⟨bo, 2, none⟩ = some (.slice A2 l2.length c2) := cells_of hn 2
  have ko3 : W1.cell? ⟨bo, 3, none⟩ = some (.bool m2) := cells_of hn 3
  have qo := lt_of_block hn
  replace NR := hide ((hb.block _ (lt_of_block (unhide NR))).trans (unhide NR))
  replace HB := Lib.hid (below_step' HB.out hb)
  clear hn
  rcases unhide HC with ⟨rfl, q, ho, hnz, hq⟩ | ⟨rfl, htl⟩
  · have htq : t = Wd.told (if m = true then -q else q) := by
      rw [HTT.out, ho]; unfold Wd.tellT; dsimp only; rw [if_neg hnz]
    have hq1 := hq.below hb
    have hrt := ttoldv_any A1 c1 l1 m1 A2 c2 l2 m2 _ W1 hq1
    rw [← htq] at hrt
    have HRT := hide hrt
    clear hrt hq1 htq ho hnz hq hb HC
    go_wp2_with fail
    refine (unhide HRT).mono ?_
    rintro e V2 ⟨rfl, hb⟩
    replace NR := hide ((hb.block _ (lt_of_block (unhide NR))).trans (unhide NR))
    replace HB := Lib.hid (below_step' HB.out hb)
    clear hb
    have r0 : V2.cell? ⟨w.heap.size, 0, none⟩ = some (.int .i64 0) := cells_of (unhide NR) 0
    have fr0 := unfrozen_of (unhide NR) 0
    have r1 : V2.cell? ⟨w.heap.size, 1, none⟩ = some (.int .i64 0) := cells_of (unhide NR) 1
    have fr1 := unfrozen_of (unhide NR) 1
    have qr := lt_of_block (unhide NR)
    go_wp2_with fail
    exact bodyPost_ret (v := .tuple #[.agg #[.int .i64 t.n, .int .i64 t.d], .int .i64 t.e]) (by simp [results, Tryz.results35, go_sem, r0, r1, qr]) rfl
      ⟨rfl, HB.out.grown (set2_grown _ _ _ _) HB.out.size (fun k hk => by injection hk with hk; omega)⟩
  · have HT2 := Lib.hid (show t = ⟨0, 0, 2⟩ from HTT.out.trans htl)
    clear htl hb HC
    have r0 : W1.cell? ⟨w.heap.size, 0, none⟩ = some (.int .i64 0) := cells_of (unhide NR) 0
    have fr0 := unfrozen_of (unhide NR) 0
    have r1 : W1.cell? ⟨w.heap.size, 1, none⟩ = some (.int .i64 0) := cells_of (unhide NR) 1
    have fr1 := unfrozen_of (unhide NR) 1
    have qr := lt_of_block (unhide NR)
    go_wp2_with fail
    exact bodyPost_ret (v := .tuple #[.agg #[.int .i64 0, .int .i64 0], .int .i64 2]) (by simp [results, Tryz.results35, go_sem, r0, r1, qr]) rfl
      ⟨by rw [HT2.out], HB.out.grown (set2_grown _ _ _ _) HB.out.size (fun k hk => by injection hk with hk; omega)⟩

theorem tparse_any (s : ByteArray) (w : World) (hs : s.size ≤ 140737488351232) :
    Calls Tryz.prog 35 #[.string s] w fun e w' => TolR w (Wd.parseT s.data.toList) e w' := by
  rw [Wd.parseT_eq]
  by_cases h : s.data.toList.head? = some 45
  · rw [if_pos h]
    have h0 : 0 < s.size := by
      rw [← sizeB]
      cases hl : s.data.toList with
      | nil => rw [hl] at h; cases h
      | cons c l => exact Nat.succ_pos _
    have h1 : 0 < s.data.toList.length := by rw [sizeB]; exact h0
    have hc : s[0] = 45 := by
      rw [List.head?_eq_getElem?, List.getElem?_eq_getElem h1] at h
      exact Option.some.inj h
    have ht : (s.extract 1 s.size).data.toList = s.data.toList.tail := by rw [ext_drop, List.drop_one]
    have hz : (s.extract 1 s.size).size ≤ s.size := by rw [← sizeB, ht, List.length_tail, sizeB]; omega
    rw [← ht]
    exact tparse_walk s true _ w (fun W => tread_walk s (s.extract 1 s.size) true W hs hz (.inr ⟨rfl, rfl, h0, by rw [hc]; rfl⟩))
  · rw [if_neg h]
    refine tparse_walk s false _ w (fun W => tread_walk s s false W hs (Nat.le_refl _) (.inl ⟨rfl, rfl, ?_⟩))
    rcases Nat.eq_zero_or_pos s.size with h0 | h0
    · exact .inl h0
    · refine .inr ⟨h0, fun hc => h ?_⟩
      have h1 : 0 < s.data.toList.length := by rw [sizeB]; exact h0
      rw [List.head?_eq_getElem?, List.getElem?_eq_getElem h1]
      exact congrArg some (UInt8.toNat_inj.1 (by show s[0].toNat = 45; omega))

end Go.Proofs.YtpjgoogeokbaaaaGreatDoor
/- The law of texts: its walk. -/
namespace Go.Proofs.YtpjgoogeokbaaaaGreatDoor
open Go.RowKit

set_option maxRecDepth 100000 in
set_option maxHeartbeats 16000000 in
theorem texts_walk (s : ByteArray) (rn rd re : Int) (w : World) (hT : Tab w)
    (c1 : ∀ W, Tab W → Calls Tryz.prog 34 #[.string s] W fun e w' => e = .returned (.tuple #[.agg #[.int .i64 rn, .int .i64 rd], .int .i64 re]) ∧ Below W.heap.size W w')
    (c2 : ∀ W, Calls Tryz.prog 35 #[.string s] W fun e w' => e = .returned (.tuple #[.agg #[.int .i64 rn, .int .i64 rd], .int .i64 re]) ∧ Below W.heap.size W w') :
    Calls Tryz.prog 8 #[.string s] w fun e w' => e = .returned (.bool true) ∧ Below w.heap.size w w' := by
  have C1 := hide c1; have C2 := hide c2
  have HT := hide hT; have HKN := hide known_any
  clear c1 c2 hT
  go_enter Tryz.func8, Tryz.ntmps8
  go_wp2_with fail
  refine ((unhide C1) _ (unhide HT)).mono ?_
  rintro e V1 ⟨rfl, hb⟩
  go_upto_region 2 with fail
  have hn := heap_alloc_new V1 (.cells #[.int .i64 rn, .int .i64 rd] 23)
  replace hb := below_step' hb (below_alloc (Below.refl V1.heap.size V1) (.cells #[.int .i64 rn, .int .i64 rd] 23))
  generalize V1.alloc (.cells #[.int .i64 rn, .int .i64 rd] 23) = W1 at *
  obtain ⟨ba, hbn⟩ : ∃ b, b = V1.heap.size := ⟨_, rfl⟩
  rw [← hbn] at hn ⊢
  clear hbn
  have HB := Lib.hid hb
  have ja := hide hn
  clear hn hb
  go_wp2_with fail
  refine ((unhide C2) _).mono ?_
  rintro e V2 ⟨rfl, hb⟩
  go_upto_region 3 with fail
  have hn := heap_alloc_new V2 (.cells #[.int .i64 rn, .int .i64 rd] 23)
  replace hb := below_step' hb (below_alloc (Below.refl V2.heap.size V2) (.cells #[.int .i64 rn, .int .i64 rd] 23))
  generalize V2.alloc (.cells #[.int .i64 rn, .int .i64 rd] 23) = W2 at *
  obtain ⟨bb, hbn⟩ : ∃ b, b = V2.heap.size := ⟨_, rfl⟩
  rw [← hbn] at hn ⊢
  clear hbn
  replace ja := hide ((hb.block _ (lt_of_block (unhide ja))).trans (unhide ja))
  replace HB := Lib.hid (below_step' HB.out hb)
  have ka0 : W2.cell? ⟨ba, 0, none⟩ = some (.int .i64 rn) := cells_of (unhide ja) 0
  have ka1 : W2.cell? ⟨ba, 1, none⟩ = some (.int .i64 rd) := cells_of (unhide ja) 1
  have kb0 : W2.cell? ⟨bb, 0, none⟩ = some (.int .i64 rn) := cells_of hn 0
  have kb1 : W2.cell? ⟨bb, 1, none⟩ = some (.int .i64 rd) := cells_of hn 1
  clear ja hn hb
  go_wp2_with fail
  refine ((unhide HKN) _ ((unhide HT).below HB.out)).mono ?_
  rintro e V3 ⟨rfl, hb⟩
  have hb9 := below_step' HB.out hb
  clear hb
  go_wp2_with fail
  all_goals first | go_ret | skip
  exact ⟨rfl, hb9⟩

end Go.Proofs.YtpjgoogeokbaaaaGreatDoor
/- The frame of the laws' rows: numbers as arguments; the listed table; a call that only makes new memory. -/
namespace Go.Proofs.YtpjgoogeokbaaaaGreatDoor
open Go.Joins Go.ChangeShapes Go.WideShapes Go.ChangeAt Go.RowKit

theorem own : ownKnob Tryz.prog.godebug = none := by kernel_rfl
/-- What the rows list: one table. -/
def laidL {H : Type} : List (String × DataW H) := [("math/bits.deBruijn64tab", Rows.laid_math_bits_deBruijn64tab)]
theorem tab_list : (Rows.laid_math_bits_deBruijn64tab : DataW Unit) = .agg (Lib.deBruijn64tab.map fun (n : Nat) => .lit (.int .u8 (n : Int))) := by kernel_rfl
theorem tab_of {W : World} (h : laidMetH Tryz.prog laidL W) : Tab W := by
  rw [MakeChecks.laidMetH_plain _ _ _ (by kernel_rfl)] at h
  obtain ⟨ps, ⟨g, t, cs, fuel, p, q, hg, ht, hv, hd, _, _⟩, _, _⟩ := h
  obtain rfl := Option.some.inj ((show Tryz.prog.globalNamed "math/bits.deBruijn64tab" = some 0 by kernel_rfl).symm.trans hg)
  obtain rfl := Option.some.inj ((show (Tryz.prog.globals[0]?).map (·.type) = some 163 by kernel_rfl).symm.trans ht)
  obtain ⟨xs, m, _, ex, hcl, hl, hel⟩ := DataW.trod_array Tryz.underlying163 hd
  have c5 : Tryz.prog.cellsOf 5 = 1 := by kernel_rfl
  have hlen : Lib.deBruijn64tab.length = 64 := by kernel_rfl
  rw [tab_list] at ex
  have e3 : (xs.map (·.1)) = Lib.deBruijn64tab.map fun (n : Nat) => .lit (.int .u8 (n : Int)) := (DataW.agg.inj (Prod.mk.inj ex).1).symm
  have cell : ∀ r : Nat, r < 64 → W.cell? ⟨0, r, none⟩ = some (.int .u8 (Lib.deBruijn64tab.getD r 0)) := fun r hr => by
    have hE := hel r hr
    rw [c5, Nat.mul_one, List.getElem?_eq_getElem (by omega)] at hE
    obtain ⟨z, e1, e2, _⟩ := DataW.trod_int Tryz.underlying5 hE
    have e4 : (xs.map (·.1))[r]? = (Lib.deBruijn64tab.map fun (n : Nat) => (DataW.lit (.int .u8 (n : Int)) : DataW Unit))[r]? := by rw [e3]
    rw [List.getElem?_map, List.getElem?_map, List.getElem?_eq_getElem (by omega : r < xs.length), List.getElem?_eq_getElem (by omega : r < Lib.deBruijn64tab.length), e2] at e4
    have hz : z = (Lib.deBruijn64tab.getD r 0 : Nat) := by
      simp only [Option.map_some, Option.some.injEq, DataW.lit.injEq, Lit.int.injEq, true_and] at e4
      rw [e4, List.getD, List.getElem?_eq_getElem (by omega : r < Lib.deBruijn64tab.length)]; rfl
    rw [World.var?_cell hg hv r, ← hz]
    have : cs.toList[r]? = some (.int .u8 z) := by
      have h0 : ((cs.toList.drop r).take 1)[0]? = some (.int .u8 z) := by rw [e1]; rfl
      simpa using h0
    simpa using this
  refine ⟨fun j hj => cell j (by omega), ?_⟩
  have h0 := cell 0 (by omega)
  rcases Nat.lt_or_ge 0 W.heap.size with hlt | hge
  · exact hlt
  · simp [World.cell?, Array.getElem?_eq_none hge] at h0

/-- A call that only makes new memory, and hands back what the law asks. -/
theorem post_below {H : Type} {enc : TypeId × Value → H} {P : Program} {f : Func} {s : ChangeSpec} {apart : Bool} {W W' : World} {args : Array Value} {v : Value} {ds gs : List (DataW H)}
    (hW : DataW.Whole enc P f.params.toList s.vars apart W args.toList ds gs [])
    (hres : DataW.TrodAll enc P W' W.heap.size (fun _ => false) false f.resultTypes.toList (v.resultList f.resultTypes.size) (s.fn H (ds ++ gs)).results [])
    (hargs : DataW.TrodAll enc P W' 0 (fun b => decide (b < W.heap.size)) true f.params.toList args.toList (s.fn H (ds ++ gs)).args [])
    (hvars : DataW.TrodVars enc P W' (fun b => decide (b < W.heap.size)) s.vars (s.fn H (ds ++ gs)).vars []) (hb : Below W.heap.size W W') :
    s.post enc P f apart true false false W args v W' :=
  ⟨ds, gs, [], [], [], [], hW, hres, hargs, hvars, hb.frame _, fun h => by cases h⟩
end Go.Proofs.YtpjgoogeokbaaaaGreatDoor
