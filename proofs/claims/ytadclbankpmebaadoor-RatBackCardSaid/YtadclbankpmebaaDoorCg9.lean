/- Part 9 of the texts beneath a law of layer 1: TxP, TxR, TxO, BkM, RfA, RfMul, RfPl, FrB, FrA, JnZ, JnF, JnP, BkW, Frame, FrameB. -/
import Derived.Test.YtadclbankpmebaaDoorCg8
import Derived.Lib.ItoaNum
import Derived.Lib.AppendIntMem
import Derived.BigQuiet
import Derived.Deep.QuietTactic
import Derived.Test.YtadclbankpmebaaDoorRows
import Derived.ProofKit
import Derived.OpenShut
import Derived.LaidMore
import Derived.Lay
import Derived.Lib.SmallJoins
import Derived.Stop.Joined
import Derived.Lib.LaidTab
import Derived.Stop.LaidErr
/- Texts: the program. -/
namespace Go.Proofs.YtadclbankpmebaaDoor
open Go.RowKit

namespace Wd
/-- What is told of a number of a text, with its sign. -/
def tellT (m : Bool) (o : Option Rat) : Told := match o with
  | none => ⟨0, 0, 2⟩
  | some q => if m = true ∧ q = 0 then ⟨0, 0, 2⟩ else told (if m = true then -q else q)
theorem parseT_eq (l : List UInt8) : parseT l = if l.head? = some 45 then tellT true (posT l.tail) else tellT false (posT l) := by
  unfold parseT tellT
  split
  · cases posT l.tail with
    | none => rfl
    | some q => simp
  · cases posT l with
    | none => rfl
    | some q => simp
end Wd
theorem eta_b (s : ByteArray) : (⟨s.data.toList.toArray⟩ : ByteArray) = s := by cases s; simp
theorem cutp_yes (s : ByteArray) (h : s.data.toList.head? = some 45) (W : World) :
    Calls Tryd.prog 55 #[.string s, .string ⟨#[45]⟩] W fun e w' => e = .returned (.tuple #[.string ⟨s.data.toList.tail.toArray⟩, .bool true]) ∧ w' = W := by
  have h1 : Lib.hasPrefix s.data.toList [45] = true := by
    unfold Lib.hasPrefix
    cases hl : s.data.toList with
    | nil => rw [hl] at h; cases h
    | cons c l => rw [hl] at h; have := Option.some.inj h; rw [this]; rfl
  have h2 : Lib.trimPrefix s.data.toList [45] = s.data.toList.tail := by
    unfold Lib.trimPrefix; rw [if_pos h1]
    cases s.data.toList with
    | nil => rfl
    | cons c l => rfl
  refine (Tryd.strings_CutPrefix s ⟨#[45]⟩ W).mono ?_
  rintro e w' ⟨he, hw⟩
  refine ⟨he.trans ?_, hw⟩
  show Ending.returned (.tuple #[.string ⟨(Lib.trimPrefix s.data.toList [45]).toArray⟩, .bool (Lib.hasPrefix s.data.toList [45])]) = _
  rw [h1, h2]
theorem cutp_no (s : ByteArray) (h : ¬ s.data.toList.head? = some 45) (W : World) :
    Calls Tryd.prog 55 #[.string s, .string ⟨#[45]⟩] W fun e w' => e = .returned (.tuple #[.string s, .bool false]) ∧ w' = W := by
  have h1 : Lib.hasPrefix s.data.toList [45] = false := by
    unfold Lib.hasPrefix
    cases hl : s.data.toList with
    | nil => rfl
    | cons c l =>
      rw [hl] at h
      have hc : ¬ 45 = c := fun e => h (by rw [← e]; rfl)
      simp [List.isPrefixOf, hc]
  have h2 : Lib.trimPrefix s.data.toList [45] = s.data.toList := by
    unfold Lib.trimPrefix; rw [h1]; rfl
  refine (Tryd.strings_CutPrefix s ⟨#[45]⟩ W).mono ?_
  rintro e w' ⟨he, hw⟩
  refine ⟨he.trans ?_, hw⟩
  show Ending.returned (.tuple #[.string ⟨(Lib.trimPrefix s.data.toList [45]).toArray⟩, .bool (Lib.hasPrefix s.data.toList [45])]) = _
  rw [h1, h2, eta_b]

set_option maxRecDepth 100000 in
set_option maxHeartbeats 16000000 in
theorem rsign_any (s1 : Int) (neg1 : Bool) (A1 : Option Addr) (c1 : Nat) (l1 : List Nat) (s2 : Int) (neg2 : Bool) (A2 : Option Addr) (c2 : Nat) (l2 : List Nat) (z : Int) (w : World) (h1 : IntF w s1 neg1 A1 c1 l1 z) :
    Calls Tryd.prog 57 #[(Value.agg #[.int .i64 s1, .bool neg1, .slice A1 l1.length c1, .int .i64 s2, .bool neg2, .slice A2 l2.length c2])] w fun e w' => e = .returned (.int .i64 (sgn z)) ∧ Below w.heap.size w w' := by
  have HS := hide (fun W (hW : Below w.heap.size w W) => sign_any s1 neg1 A1 c1 l1 z W (h1.below hW))
  obtain ⟨o, ho⟩ : ∃ o, o = sgn z := ⟨_, rfl⟩
  rw [← ho] at HS ⊢
  clear h1 ho
  go_enter Tryd.func57, Tryd.ntmps57
  go_upto_region 1 with fail
  obtain ⟨nr, hsz, hw0⟩ := one_new w (.cells #[.int .i64 s1, .bool neg1, .slice A1 l1.length c1, .int .i64 s2, .bool neg2, .slice A2 l2.length c2] 60)
  generalize w.alloc (.cells #[.int .i64 s1, .bool neg1, .slice A1 l1.length c1, .int .i64 s2, .bool neg2, .slice A2 l2.length c2] 60) = W0 at *
  have k0 : W0.cell? ⟨w.heap.size, 0, none⟩ = some (.int .i64 s1) := cells_of nr 0
  have k1 : W0.cell? ⟨w.heap.size, 1, none⟩ = some (.bool neg1) := cells_of nr 1
  have k2 : W0.cell? ⟨w.heap.size, 2, none⟩ = some (.slice A1 l1.length c1) := cells_of nr 2
  have k3 : W0.cell? ⟨w.heap.size, 3, none⟩ = some (.int .i64 s2) := cells_of nr 3
  have k4 : W0.cell? ⟨w.heap.size, 4, none⟩ = some (.bool neg2) := cells_of nr 4
  have k5 : W0.cell? ⟨w.heap.size, 5, none⟩ = some (.slice A2 l2.length c2) := cells_of nr 5
  clear hsz nr
  go_wp2_with fail
  refine ((unhide HS) _ hw0).mono ?_
  rintro e w' ⟨rfl, hb⟩
  have hb9 := below_step' hw0 hb
  clear hb
  go_wp2_with fail
  all_goals first | go_ret | skip
  exact ⟨rfl, hb9⟩

set_option maxRecDepth 100000 in
set_option maxHeartbeats 16000000 in
theorem parse_walk (s B : ByteArray) (m : Bool) (o : Option Rat) (ho : Wd.posT B.data.toList = o) (w : World) (hT : Tab w)
    (hcut : ∀ W, Calls Tryd.prog 55 #[.string s, .string ⟨#[45]⟩] W fun e w' => e = .returned (.tuple #[.string B, .bool m]) ∧ w' = W)
    (hpos : ∀ W, Tab W → Calls Tryd.prog 56 #[.string B] W fun e w' => PosR W B.data.toList e w') :
    Calls Tryd.prog 23 #[.string s] w fun e w' => TolR w (Wd.tellT m o) e w' := by
  obtain ⟨t, ht⟩ : ∃ t, t = Wd.tellT m o := ⟨_, rfl⟩
  rw [← ht]
  have HT := hide hT; have HC := hide hcut; have HP := hide hpos; have HO := Lib.hid ho; have HTE := Lib.hid ht
  clear hT hcut hpos ho ht
  go_enter Tryd.func23, Tryd.ntmps23
  go_upto_region 1 with fail
  obtain ⟨nr, hsz, hw0⟩ := one_new w (.cells #[.int .i64 0, .int .i64 0] 23)
  generalize w.alloc (.cells #[.int .i64 0, .int .i64 0] 23) = W0 at *
  have NR := hide nr; have HB := Lib.hid hw0
  clear hsz nr hw0
  go_wp2_with (go_at_call 55; refine ((unhide HC) _).mono ?_; rintro e w' ⟨rfl, rfl⟩)
  refine ((unhide HP) _ ((unhide HT).below HB.out)).mono ?_
  rintro e V1 hpr
  rcases hpr with ⟨hpn, rfl, hb⟩ | ⟨q, s1, neg1, A1, c1, l1, s2, neg2, A2, c2, l2, hpn, rfl, f1, f2, hb⟩
  · have HTT := Lib.hid (show t = ⟨0, 0, 2⟩ by rw [HTE.out, ← HO.out, hpn]; rfl)
    replace NR := hide ((hb.block _ (lt_of_block (unhide NR))).trans (unhide NR))
    replace HB := Lib.hid (below_step' HB.out hb)
    clear hb hpn HP HC
    go_upto_region 3 with fail
    have hn := heap_alloc_new V1 (.cells #[.int .i64 0, .bool false, .slice none 0 0, .int .i64 0, .bool false, .slice none 0 0] 60)
    have hb := below_alloc (Below.refl V1.heap.size V1) (.cells #[.int .i64 0, .bool false, .slice none 0 0, .int .i64 0, .bool false, .slice none 0 0] 60)
    generalize V1.alloc (.cells #[.int .i64 0, .bool false, .slice none 0 0, .int .i64 0, .bool false, .slice none 0 0] 60) = W2 at *
    obtain ⟨bx, hbx⟩ : ∃ b, b = V1.heap.size := ⟨_, rfl⟩
    rw [← hbx] at hn ⊢
    have obx : w.heap.size < bx := by rw [hbx]; exact lt_of_block (unhide NR)
    clear hbx
    have kx0 : W2.cell? ⟨bx, 0, none⟩ = some (.int .i64 0) := cells_of hn 0
    have kx1 : W2.cell? ⟨bx, 1, none⟩ = some (.bool false) := cells_of hn 1
    have kx2 : W2.cell? ⟨bx, 2, none⟩ = some (.slice none 0 0) := cells_of hn 2
    have kx3 : W2.cell? ⟨bx, 3, none⟩ = some (.int .i64 0) := cells_of hn 3
    have kx4 : W2.cell? ⟨bx, 4, none⟩ = some (.bool false) := cells_of hn 4
    have kx5 : W2.cell? ⟨bx, 5, none⟩ = some (.slice none 0 0) := cells_of hn 5
    replace NR := hide ((hb.block _ (lt_of_block (unhide NR))).trans (unhide NR))
    replace HB := Lib.hid (below_step' HB.out hb)
    clear hb hn
    have r0 : W2.cell? ⟨w.heap.size, 0, none⟩ = some (.int .i64 0) := cells_of (unhide NR) 0
    have fr0 := unfrozen_of (unhide NR) 0
    have r1 : W2.cell? ⟨w.heap.size, 1, none⟩ = some (.int .i64 0) := cells_of (unhide NR) 1
    have fr1 := unfrozen_of (unhide NR) 1
    have qr := lt_of_block (unhide NR)
    go_wp2_with fail
    exact bodyPost_ret (v := .tuple #[.agg #[.int .i64 0, .int .i64 0], .int .i64 2]) (by simp [results, Tryd.results23, go_sem, r0, r1, qr]) rfl
      ⟨by rw [HTT.out], HB.out.grown (set2_grown _ _ _ _) HB.out.size (fun k hk => by injection hk with hk; omega)⟩
  · have HQ := Lib.hid (show o = some q from HO.out.symm.trans hpn)
    have F1 := hide f1; have F2 := hide f2
    replace NR := hide ((hb.block _ (lt_of_block (unhide NR))).trans (unhide NR))
    replace HB := Lib.hid (below_step' HB.out hb)
    clear hb hpn HP HC f1 f2
    go_upto_region 3 with fail
    have hn := heap_alloc_new V1 (.cells #[.int .i64 s1, .bool neg1, .slice A1 l1.length c1, .int .i64 s2, .bool neg2, .slice A2 l2.length c2] 60)
    have hb := below_alloc (Below.refl V1.heap.size V1) (.cells #[.int .i64 s1, .bool neg1, .slice A1 l1.length c1, .int .i64 s2, .bool neg2, .slice A2 l2.length c2] 60)
    generalize V1.alloc (.cells #[.int .i64 s1, .bool neg1, .slice A1 l1.length c1, .int .i64 s2, .bool neg2, .slice A2 l2.length c2] 60) = W2 at *
    obtain ⟨bx, hbx⟩ : ∃ b, b = V1.heap.size := ⟨_, rfl⟩
    rw [← hbx] at hn ⊢
    have obx : w.heap.size < bx := by rw [hbx]; exact lt_of_block (unhide NR)
    clear hbx
    have JX := hide hn
    replace NR := hide ((hb.block _ (lt_of_block (unhide NR))).trans (unhide NR))
    replace HB := Lib.hid (below_step' HB.out hb)
    replace F1 := hide ((unhide F1).below hb)
    replace F2 := hide ((unhide F2).below hb)
    clear hb hn
    have kx0 : W2.cell? ⟨bx, 0, none⟩ = some (.int .i64 s1) := cells_of (unhide JX) 0
    have ux0 := unfrozen_of (unhide JX) 0
    have kx1 : W2.cell? ⟨bx, 1, none⟩ = some (.bool neg1) := cells_of (unhide JX) 1
    have ux1 := unfrozen_of (unhide JX) 1
    have kx2 : W2.cell? ⟨bx, 2, none⟩ = some (.slice A1 l1.length c1) := cells_of (unhide JX) 2
    have ux2 := unfrozen_of (unhide JX) 2
    have kx3 : W2.cell? ⟨bx, 3, none⟩ = some (.int .i64 s2) := cells_of (unhide JX) 3
    have ux3 := unfrozen_of (unhide JX) 3
    have kx4 : W2.cell? ⟨bx, 4, none⟩ = some (.bool neg2) := cells_of (unhide JX) 4
    have ux4 := unfrozen_of (unhide JX) 4
    have kx5 : W2.cell? ⟨bx, 5, none⟩ = some (.slice A2 l2.length c2) := cells_of (unhide JX) 5
    have ux5 := unfrozen_of (unhide JX) 5
    have qx := lt_of_block (unhide JX)
    cases m
    · have HTT := Lib.hid (show t = Wd.told q by rw [HTE.out, HQ.out]; simp [Wd.tellT])
      have ht2 : Wd.told q = t := HTT.out.symm
      have HR := hide (fun s5 neg5 A5 c5 l5 s6 neg6 A6 c6 l6 W (g1 : IntF W s5 neg5 A5 c5 l5 (q).num) (g2 : IntF W s6 neg6 A6 c6 l6 ((q).den : Int)) => rrat_any s5 neg5 A5 c5 l5 _ s6 neg6 A6 c6 l6 _ W g1 g2 (q) rfl rfl)
      rw [ht2] at HR
      replace HTT := Lib.hid (show t = t from rfl)
      clear ht2 HQ HTE HO
      go_wp2_with fail
      refine ((unhide HR) s1 neg1 A1 c1 l1 s2 neg2 A2 c2 l2 _ (unhide F1) (unhide F2)).mono ?_
      rintro e V9 ⟨rfl, hb⟩
      replace NR := hide ((hb.block _ (lt_of_block (unhide NR))).trans (unhide NR))
      replace HB := Lib.hid (below_step' HB.out hb)
      clear hb
      have r0 : V9.cell? ⟨w.heap.size, 0, none⟩ = some (.int .i64 0) := cells_of (unhide NR) 0
      have fr0 := unfrozen_of (unhide NR) 0
      have r1 : V9.cell? ⟨w.heap.size, 1, none⟩ = some (.int .i64 0) := cells_of (unhide NR) 1
      have fr1 := unfrozen_of (unhide NR) 1
      have qr := lt_of_block (unhide NR)
      go_wp2_with fail
      exact bodyPost_ret (v := .tuple #[.agg #[.int .i64 t.n, .int .i64 t.d], .int .i64 t.e]) (by simp [results, Tryd.results23, go_sem, r0, r1, qr]) rfl
        ⟨rfl, HB.out.grown (set2_grown _ _ _ _) HB.out.size (fun k hk => by injection hk with hk; omega)⟩
    · have HS := hide (fun W (hW : Below W2.heap.size W2 W) => rsign_any s1 neg1 A1 c1 l1 s2 neg2 A2 c2 l2 q.num W ((unhide F1).below hW))
      by_cases hz : q = 0
      · have HTT := Lib.hid (show t = ⟨0, 0, 2⟩ by rw [HTE.out, HQ.out]; unfold Wd.tellT; dsimp only; rw [if_pos ⟨rfl, hz⟩])
        have hs0 : sgn q.num = 0 := by rw [hz]; rfl
        rw [hs0] at HS
        clear hs0 hz HQ HTE HO
        go_wp2_with fail
        refine ((unhide HS) _ (Below.refl _ _)).mono ?_
        rintro e V3 ⟨rfl, hb⟩
        clear kx0 ux0 kx1 ux1 kx2 ux2 kx3 ux3 kx4 ux4 kx5 ux5 qx
        replace NR := hide ((hb.block _ (lt_of_block (unhide NR))).trans (unhide NR))
        replace HB := Lib.hid (below_step' HB.out hb)
        replace JX := hide ((hb.block _ (lt_of_block (unhide JX))).trans (unhide JX))
        clear hb
        have r0 : V3.cell? ⟨w.heap.size, 0, none⟩ = some (.int .i64 0) := cells_of (unhide NR) 0
        have fr0 := unfrozen_of (unhide NR) 0
        have r1 : V3.cell? ⟨w.heap.size, 1, none⟩ = some (.int .i64 0) := cells_of (unhide NR) 1
        have fr1 := unfrozen_of (unhide NR) 1
        have qr := lt_of_block (unhide NR)
        go_wp2_with fail
        exact bodyPost_ret (v := .tuple #[.agg #[.int .i64 0, .int .i64 0], .int .i64 2]) (by simp [results, Tryd.results23, go_sem, r0, r1, qr]) rfl
          ⟨by rw [HTT.out], HB.out.grown (set2_grown _ _ _ _) HB.out.size (fun k hk => by injection hk with hk; omega)⟩
      · have HTT := Lib.hid (show t = Wd.told (-q) by rw [HTE.out, HQ.out]; unfold Wd.tellT; dsimp only; rw [if_neg (fun h => hz h.2)]; rfl)
        have hs0 : ¬ sgn q.num = 0 := fun h => hz (by
          have : q.num = 0 := by unfold sgn at h; split at h <;> (try split at h) <;> omega
          exact Rat.num_eq_zero.1 this)
        obtain ⟨so, hso⟩ : ∃ so, so = sgn q.num := ⟨_, rfl⟩
        rw [← hso] at HS hs0
        have e1 : (so == 0) = false := beq_eq_false_iff_ne.2 hs0
        have ht2 : Wd.told (-q) = t := HTT.out.symm
        have HR := hide (fun s5 neg5 A5 c5 l5 s6 neg6 A6 c6 l6 W (g1 : IntF W s5 neg5 A5 c5 l5 ((-q)).num) (g2 : IntF W s6 neg6 A6 c6 l6 (((-q)).den : Int)) => rrat_any s5 neg5 A5 c5 l5 _ s6 neg6 A6 c6 l6 _ W g1 g2 ((-q)) rfl rfl)
        rw [ht2] at HR
        have HNG := hide (fun s5 neg5 A5 c5 l5 s6 neg6 A6 c6 l6 W (g1 : IntF W s5 neg5 A5 c5 l5 q.num) (g2 : IntF W s6 neg6 A6 c6 l6 (q.den : Int)) => rneg_any s5 neg5 A5 c5 l5 _ s6 neg6 A6 c6 l6 _ W g1 g2)
        rw [← Rat.neg_num, show (q.den : Int) = ((-q).den : Int) from by rw [Rat.neg_den]] at HNG
        replace F2 := hide (show IntF W2 s2 neg2 A2 c2 l2 ((-q).den : Int) by rw [Rat.neg_den]; exact unhide F2)
        replace HTT := Lib.hid (show t = t from rfl)
        clear ht2 HQ HTE HO hso hz
        go_wp2_with fail
        refine ((unhide HS) _ (Below.refl _ _)).mono ?_
        rintro e V3 ⟨rfl, hb⟩
        clear kx0 ux0 kx1 ux1 kx2 ux2 kx3 ux3 kx4 ux4 kx5 ux5 qx
        replace NR := hide ((hb.block _ (lt_of_block (unhide NR))).trans (unhide NR))
        replace HB := Lib.hid (below_step' HB.out hb)
        replace F1 := hide ((unhide F1).below hb)
        replace F2 := hide ((unhide F2).below hb)
        replace JX := hide ((hb.block _ (lt_of_block (unhide JX))).trans (unhide JX))
        clear hb
        have kx0 : V3.cell? ⟨bx, 0, none⟩ = some (.int .i64 s1) := cells_of (unhide JX) 0
        have ux0 := unfrozen_of (unhide JX) 0
        have kx1 : V3.cell? ⟨bx, 1, none⟩ = some (.bool neg1) := cells_of (unhide JX) 1
        have ux1 := unfrozen_of (unhide JX) 1
        have kx2 : V3.cell? ⟨bx, 2, none⟩ = some (.slice A1 l1.length c1) := cells_of (unhide JX) 2
        have ux2 := unfrozen_of (unhide JX) 2
        have kx3 : V3.cell? ⟨bx, 3, none⟩ = some (.int .i64 s2) := cells_of (unhide JX) 3
        have ux3 := unfrozen_of (unhide JX) 3
        have kx4 : V3.cell? ⟨bx, 4, none⟩ = some (.bool neg2) := cells_of (unhide JX) 4
        have ux4 := unfrozen_of (unhide JX) 4
        have kx5 : V3.cell? ⟨bx, 5, none⟩ = some (.slice A2 l2.length c2) := cells_of (unhide JX) 5
        have ux5 := unfrozen_of (unhide JX) 5
        have qx := lt_of_block (unhide JX)
        go_wp2_with fail
        refine ((unhide HNG) s1 neg1 A1 c1 l1 s2 neg2 A2 c2 l2 _ (unhide F1) (unhide F2)).mono ?_
        rintro e V4 ⟨s3, neg3, A3, c3, l3, s4, neg4, A4, c4, l4, rfl, f3, f4, hb⟩
        have F3 := hide f3; have F4 := hide f4
        clear kx0 ux0 kx1 ux1 kx2 ux2 kx3 ux3 kx4 ux4 kx5 ux5 qx
        replace NR := hide ((hb.block _ (lt_of_block (unhide NR))).trans (unhide NR))
        replace HB := Lib.hid (below_step' HB.out hb)
        replace JX := hide ((hb.block _ (lt_of_block (unhide JX))).trans (unhide JX))
        clear hb f3 f4 F1 F2
        have kx0 : V4.cell? ⟨bx, 0, none⟩ = some (.int .i64 s1) := cells_of (unhide JX) 0
        have ux0 := unfrozen_of (unhide JX) 0
        have kx1 : V4.cell? ⟨bx, 1, none⟩ = some (.bool neg1) := cells_of (unhide JX) 1
        have ux1 := unfrozen_of (unhide JX) 1
        have kx2 : V4.cell? ⟨bx, 2, none⟩ = some (.slice A1 l1.length c1) := cells_of (unhide JX) 2
        have ux2 := unfrozen_of (unhide JX) 2
        have kx3 : V4.cell? ⟨bx, 3, none⟩ = some (.int .i64 s2) := cells_of (unhide JX) 3
        have ux3 := unfrozen_of (unhide JX) 3
        have kx4 : V4.cell? ⟨bx, 4, none⟩ = some (.bool neg2) := cells_of (unhide JX) 4
        have ux4 := unfrozen_of (unhide JX) 4
        have kx5 : V4.cell? ⟨bx, 5, none⟩ = some (.slice A2 l2.length c2) := cells_of (unhide JX) 5
        have ux5 := unfrozen_of (unhide JX) 5
        have qx := lt_of_block (unhide JX)
        go_upto_region 7 with fail
        have hg := set6_grown V4 bx (.int .i64 s3) (.bool neg3) (.slice A3 l3.length c3) (.int .i64 s4) (.bool neg4) (.slice A4 l4.length c4)
        have hblk := set6_block (u0 := .int .i64 s3) (u1 := .bool neg3) (u2 := .slice A3 l3.length c3) (u3 := .int .i64 s4) (u4 := .bool neg4) (u5 := .slice A4 l4.length c4) (unhide JX)
        have hjr := (hg.block w.heap.size (lt_of_block (unhide NR)) (fun e => by injection e with e; omega)).trans (unhide NR)
        replace F3 := hide ((unhide F3).upto (unhide JX) (noWord6 _ _ _ _ _ _ _ _ _ _) hg)
        replace F4 := hide ((unhide F4).upto (unhide JX) (noWord6 _ _ _ _ _ _ _ _ _ _) hg)
        replace HB := Lib.hid (HB.out.grown hg HB.out.size (fun k hk => by injection hk with hk; omega))
        clear kx0 ux0 kx1 ux1 kx2 ux2 kx3 ux3 kx4 ux4 kx5 ux5 qx
        generalize ((((((V4.setCell ⟨bx, 0, none⟩ (.int .i64 s3)).setCell ⟨bx, 1, none⟩ (.bool neg3)).setCell ⟨bx, 2, none⟩ (.slice A3 l3.length c3)).setCell ⟨bx, 3, none⟩ (.int .i64 s4)).setCell ⟨bx, 4, none⟩ (.bool neg4)).setCell ⟨bx, 5, none⟩ (.slice A4 l4.length c4)) = W5 at *
        replace NR := hide hjr
        clear JX hg hjr
        have kx0 : W5.cell? ⟨bx, 0, none⟩ = some (.int .i64 s3) := cells_of hblk 0
        have kx1 : W5.cell? ⟨bx, 1, none⟩ = some (.bool neg3) := cells_of hblk 1
        have kx2 : W5.cell? ⟨bx, 2, none⟩ = some (.slice A3 l3.length c3) := cells_of hblk 2
        have kx3 : W5.cell? ⟨bx, 3, none⟩ = some (.int .i64 s4) := cells_of hblk 3
        have kx4 : W5.cell? ⟨bx, 4, none⟩ = some (.bool neg4) := cells_of hblk 4
        have kx5 : W5.cell? ⟨bx, 5, none⟩ = some (.slice A4 l4.length c4) := cells_of hblk 5
        clear hblk
        go_wp2_with fail
        refine ((unhide HR) s3 neg3 A3 c3 l3 s4 neg4 A4 c4 l4 _ (unhide F3) (unhide F4)).mono ?_
        rintro e V9 ⟨rfl, hb⟩
        replace NR := hide ((hb.block _ (lt_of_block (unhide NR))).trans (unhide NR))
        replace HB := Lib.hid (below_step' HB.out hb)
        clear hb
        have r0 : V9.cell? ⟨w.heap.size, 0, none⟩ = some (.int .i64 0) := cells_of (unhide NR) 0
        have fr0 := unfrozen_of (unhide NR) 0
        have r1 : V9.cell? ⟨w.heap.size, 1, none⟩ = some (.int .i64 0) := cells_of (unhide NR) 1
        have fr1 := unfrozen_of (unhide NR) 1
        have qr := lt_of_block (unhide NR)
        go_wp2_with fail
        exact bodyPost_ret (v := .tuple #[.agg #[.int .i64 t.n, .int .i64 t.d], .int .i64 t.e]) (by simp [results, Tryd.results23, go_sem, r0, r1, qr]) rfl
          ⟨rfl, HB.out.grown (set2_grown _ _ _ _) HB.out.size (fun k hk => by injection hk with hk; omega)⟩

theorem parse_any (s : ByteArray) (w : World) (hT : Tab w) (hs : s.size ≤ 9223372036854775806) :
    Calls Tryd.prog 23 #[.string s] w fun e w' => TolR w (Wd.parseT s.data.toList) e w' := by
  rw [Wd.parseT_eq]
  by_cases h : s.data.toList.head? = some 45
  · rw [if_pos h]
    have hl : (⟨s.data.toList.tail.toArray⟩ : ByteArray).size ≤ 9223372036854775806 := by
      rw [← sizeB]
      show s.data.toList.tail.length ≤ _
      rw [List.length_tail, sizeB]; omega
    exact parse_walk s ⟨s.data.toList.tail.toArray⟩ true _ rfl w hT (fun W => cutp_yes s h W) (fun W hW => ppos_any _ W hW hl)
  · rw [if_neg h]
    exact parse_walk s s false _ rfl w hT (fun W => cutp_no s h W) (fun W hW => ppos_any s W hW hs)

end Go.Proofs.YtadclbankpmebaaDoor
/- The text of a number, and that it is read as it. -/
namespace Go.Proofs.YtadclbankpmebaaDoor
namespace Wd
open Go.Lib

theorem chr_nat {k : Nat} (h : k < 10) : (UInt8.ofNat (48 + k)).toNat = 48 + k := by
  rw [UInt8.toNat_ofNat']; omega
theorem dd_val (u : Nat) : valD (decDigits u) = u := by
  induction u using Nat.strongRecOn with
  | _ u ih =>
    by_cases h : u < 10
    · rw [decDigits_one h]
      show 0 * 10 + ((UInt8.ofNat (48 + u)).toNat - 48) = u
      rw [chr_nat h]; omega
    · rw [decDigits, dif_neg h, valD_snoc, ih (u / 10) (by omega), chr_nat (by omega)]; omega
theorem isDg_chr {k : Nat} (h : k < 10) : isDg (UInt8.ofNat (48 + k)) = true := by
  unfold isDg
  rw [chr_nat h, decide_eq_true (show 48 ≤ ((48 + k : Nat) : Int) by omega), decide_eq_true (show ((48 + k : Nat) : Int) ≤ 57 by omega)]; rfl
theorem dd_all (u : Nat) : (decDigits u).all isDg = true := by
  induction u using Nat.strongRecOn with
  | _ u ih =>
    by_cases h : u < 10
    · rw [decDigits_one h, List.all_cons, isDg_chr h]; rfl
    · rw [decDigits, dif_neg h, List.all_append, ih (u / 10) (by omega), List.all_cons, isDg_chr (by omega)]; rfl
theorem dd_len : ∀ (k u : Nat), 1 ≤ k → u < 10 ^ k → (decDigits u).length ≤ k
  | 0, _, h, _ => absurd h (by omega)
  | k + 1, u, _, h => by
    by_cases h1 : u < 10
    · rw [decDigits_one h1]; simp
    · rw [decDigits, dif_neg h1, List.length_append]
      rcases Nat.eq_zero_or_pos k with rfl | hk
      · rw [Nat.zero_add, Nat.pow_one] at h; omega
      · have := dd_len k (u / 10) hk (by rw [Nat.pow_succ] at h; omega)
        simp only [List.length_cons, List.length_nil]; omega
theorem dd_pos (u : Nat) : 1 ≤ (decDigits u).length := by
  by_cases h : u < 10
  · rw [decDigits_one h]; simp
  · rw [decDigits, dif_neg h, List.length_append]; simp
theorem dd_head (u : Nat) (h0 : 1 ≤ u) : (decDigits u).head? ≠ some 48 := by
  induction u using Nat.strongRecOn with
  | _ u ih =>
    by_cases h : u < 10
    · rw [decDigits_one h]
      intro e
      have e2 : UInt8.ofNat (48 + u) = 48 := Option.some.inj e
      have e3 := chr_nat h
      rw [e2] at e3
      have : (48 : UInt8).toNat = 48 := rfl
      omega
    · rw [decDigits, dif_neg h]
      have h1 := dd_pos (u / 10)
      have h2 := ih (u / 10) (by omega) (by omega)
      cases hl : decDigits (u / 10) with
      | nil => rw [hl] at h1; exact absurd h1 (by decide)
      | cons c l => rw [hl] at h2; exact h2
theorem dd_num {u : Nat} (h : u ≤ 1000000000000) : numOk (decDigits u) = true := by
  refine numOk_iff.2 ⟨digsOk_iff.2 ⟨dd_pos u, ?_, dd_all u⟩, ?_⟩
  · have := dd_len 20 u (by omega) (Nat.lt_of_le_of_lt h (by decide)); omega
  · rcases Nat.eq_zero_or_pos u with rfl | h0
    · exact .inl (by rw [decDigits_one (by omega)]; rfl)
    · exact .inr (dd_head u h0)
theorem dd_not (u : Nat) {c : UInt8} (hc : c.toNat < 48) : c ∉ decDigits u := fun h => by
  have := dg_of (dd_all u) h; omega
theorem dd_one {u : Nat} (h : 1 ≤ u) : ¬ decDigits u = [48] := fun e => by
  have h1 := dd_val u
  rw [e] at h1
  have : valD [48] = 0 := rfl
  omega
/-- A number's text. -/
def txtL (n d : Int) : List UInt8 := if d = 1 then itoa n else itoa n ++ 47 :: itoa d
theorem itoa_d {d : Int} (h : 0 ≤ d) : itoa d = decDigits d.natAbs := by
  unfold itoa; rw [if_neg (by omega), show d.toNat = d.natAbs by omega]
theorem pos_txt (u d : Nat) (hu : u ≤ 1000000000000) (hd : d ≤ 1000000000000) (h1 : 1 ≤ d) :
    posT (if d = 1 then decDigits u else decDigits u ++ 47 :: decDigits d) = some (Rat.divInt u d) := by
  by_cases h : d = 1
  · rw [if_pos h, posT_plain (dd_not u (by decide)) (dd_not u (by decide)), if_pos (dd_num hu), dd_val, h]; rfl
  · rw [if_neg h, posT_slash rfl (dd_not u (by decide)), dd_num hu, dd_num hd, beq_eq_false_iff_ne.2 (dd_one h1), dd_val, dd_val]; rfl
theorem parse_txt {n d : Int} (ok : okR n d) : parseT (txtL n d) = ⟨n, d, 0⟩ := by
  obtain ⟨h1, h2, h3, h4, _⟩ := id ok
  have hp := pos_txt n.natAbs d.natAbs (by omega) (by omega) (by omega)
  rw [show ((d.natAbs : Nat) : Int) = d by omega] at hp
  have hdd : (if d.natAbs = 1 then decDigits n.natAbs else decDigits n.natAbs ++ 47 :: decDigits d.natAbs) = (if d = 1 then decDigits n.natAbs else decDigits n.natAbs ++ 47 :: itoa d) := by
    rw [itoa_d (by omega)]
    by_cases h : d = 1
    · rw [if_pos h, if_pos (by omega)]
    · rw [if_neg h, if_neg (by omega)]
  rw [hdd] at hp
  unfold parseT
  by_cases hn : n < 0
  · have e : txtL n d = 45 :: (if d = 1 then decDigits n.natAbs else decDigits n.natAbs ++ 47 :: itoa d) := by
      unfold txtL
      have e1 : itoa n = 45 :: decDigits n.natAbs := by unfold itoa; rw [if_pos hn]
      rw [e1]
      by_cases h : d = 1
      · rw [if_pos h, if_pos h]
      · rw [if_neg h, if_neg h]; rfl
    rw [e, List.head?_cons, if_pos rfl, List.tail_cons, hp]
    have hq : -Rat.divInt (n.natAbs : Int) d = qR n d := by unfold qR; rw [Rat.neg_divInt, show -(n.natAbs : Int) = n by omega]
    have h0 : ¬ Rat.divInt (n.natAbs : Int) d = 0 := fun hz => by
      rw [hz] at hq
      have := (qR_zero ok).1 (by rw [← hq]; rfl)
      omega
    dsimp only
    rw [if_neg h0, hq, told_of_ok ok]
  · have e : txtL n d = (if d = 1 then decDigits n.natAbs else decDigits n.natAbs ++ 47 :: itoa d) := by
      unfold txtL
      rw [itoa_d (d := n) (by omega)]
    have hh : ¬ (txtL n d).head? = some 45 := by
      have hdp := dd_pos n.natAbs
      have hno : (45 : UInt8) ∉ decDigits n.natAbs := dd_not _ (by decide)
      rw [e]
      cases hl : decDigits n.natAbs with
      | nil => rw [hl] at hdp; exact absurd hdp (by decide)
      | cons c l =>
        rw [hl] at hno
        have hc : ¬ c = 45 := fun e => hno (by rw [e]; exact List.mem_cons_self)
        split
        · intro h; exact hc (Option.some.inj h)
        · intro h; exact hc (Option.some.inj h)
    rw [if_neg hh, e, hp]
    dsimp only
    rw [show ((n.natAbs : Nat) : Int) = n by omega]
    exact told_of_ok ok
end Wd
end Go.Proofs.YtadclbankpmebaaDoor
/- The text of a number: the program. -/
namespace Go.Proofs.YtadclbankpmebaaDoor
open Go.RowKit

/-- The table of powers of ten is in memory, and stays there. -/
def Ten (w : World) : Prop := Lib.TabBelow Tryd.prog w.heap.size w "internal/strconv.uint64pow10" .u64 Lib.pow10Tab
theorem Ten.below {w W : World} (h : Ten w) (hb : Below w.heap.size w W) : Ten W := fun w' hb' => h w' (below_step' hb hb')
theorem itoa_any (n : Int) (h0 : -9223372036854775808 ≤ n) (h1 : n ≤ 9223372036854775807) (w : World) (h10 : Ten w) :
    Calls Tryd.prog 54 #[.int .i64 n] w fun e w' => e = .returned (.string ⟨(Lib.itoa n).toArray⟩) ∧ Below w.heap.size w w' := by
  refine (Tryd.strconv_Itoa n h0 h1 w h10.here).mono ?_
  rintro e w' ⟨he, k, os, rfl⟩
  exact ⟨he, Lib.below_grow _ w (Nat.le_refl _) k os⟩
theorem bytes_ext {y : ByteArray} {l : List UInt8} (h : y.data.toList = l) : y = ⟨l.toArray⟩ := by rw [← h, eta_b]
theorem itoa_len {n : Int} (h1 : -1000000000000 ≤ n) (h2 : n ≤ 1000000000000) : (Lib.itoa n).length ≤ 14 := by
  have := Wd.dd_len 13 n.natAbs (by omega) (Nat.lt_of_le_of_lt (show n.natAbs ≤ 1000000000000 by omega) (by decide))
  unfold Lib.itoa
  split
  · rw [List.length_cons]; omega
  · rw [show n.toNat = n.natAbs by omega]; omega
set_option maxRecDepth 100000 in
set_option maxHeartbeats 8000000 in
theorem print_bad (n d : Int) (w : World) (hT : Tab w) (ok : ¬ Wd.okR n d) :
    Calls Tryd.prog 22 #[(Value.agg #[.int .i64 n, .int .i64 d])] w fun e w' => e = .returned (.tuple #[.string ⟨#[]⟩, .int .i64 1]) ∧ Below w.heap.size w w' := by
  have HV := hide (val_any n d)
  rw [show valE n d = 1 from if_neg ok] at HV
  have HT := hide hT
  clear hT ok
  go_enter Tryd.func22, Tryd.ntmps22
  go_wp2_with fail
  obtain ⟨nx, hsz, hw0⟩ := one_new w (.cells #[.int .i64 n, .int .i64 d] 23)
  generalize w.alloc (.cells #[.int .i64 n, .int .i64 d] 23) = W0 at *
  clear hsz nx
  refine ((unhide HV) _ ((unhide HT).below hw0)).mono ?_
  rintro e W1 ⟨rfl, hb⟩
  have hb9 := below_step' hw0 hb
  clear hb
  go_wp2_with fail
  all_goals first | go_ret2 | skip
  exact ⟨rfl, hb9⟩
set_option maxRecDepth 100000 in
set_option maxHeartbeats 8000000 in
theorem print_int (n : Int) (w : World) (hT : Tab w) (h10 : Ten w) (ok : Wd.okR n 1) :
    Calls Tryd.prog 22 #[(Value.agg #[.int .i64 n, .int .i64 1])] w fun e w' => e = .returned (.tuple #[.string ⟨(Wd.txtL n 1).toArray⟩, .int .i64 0]) ∧ Below w.heap.size w w' := by
  have HV := hide (val_any n 1)
  rw [show valE n 1 = 0 from if_pos ok] at HV
  have HT := hide hT
  have HI := hide (fun W (hW : Ten W) => itoa_any n (by have := ok.2.2.1; omega) (by have := ok.2.2.2.1; omega) W hW)
  have H10 := hide h10
  have HE := Lib.hid (show Lib.itoa n = Wd.txtL n 1 from (if_pos rfl).symm)
  clear hT h10 ok
  go_enter Tryd.func22, Tryd.ntmps22
  go_wp2_with fail
  obtain ⟨nx, hsz, hw0⟩ := one_new w (.cells #[.int .i64 n, .int .i64 1] 23)
  generalize w.alloc (.cells #[.int .i64 n, .int .i64 1] 23) = W0 at *
  clear hsz
  refine ((unhide HV) _ ((unhide HT).below hw0)).mono ?_
  rintro e W1 ⟨rfl, hb⟩
  replace nx := (hb.block _ (lt_of_block nx)).trans nx
  replace hw0 := below_step' hw0 hb
  have k0 : W1.cell? ⟨w.heap.size, 0, none⟩ = some (.int .i64 n) := cells_of nx 0
  have k1 : W1.cell? ⟨w.heap.size, 1, none⟩ = some (.int .i64 1) := cells_of nx 1
  clear hb nx
  go_wp2_with fail
  refine ((unhide HI) _ ((unhide H10).below hw0)).mono ?_
  rintro e W2 ⟨rfl, hb⟩
  have hb9 := below_step' hw0 hb
  clear hb
  go_wp2_with fail
  all_goals first | go_ret2 | skip
  exact ⟨by rw [HE.out]; rfl, hb9⟩
set_option maxRecDepth 100000 in
set_option maxHeartbeats 8000000 in
theorem print_frac (n d : Int) (w : World) (hT : Tab w) (h10 : Ten w) (ok : Wd.okR n d) (hd : ¬ d = 1) :
    Calls Tryd.prog 22 #[(Value.agg #[.int .i64 n, .int .i64 d])] w fun e w' => e = .returned (.tuple #[.string ⟨(Wd.txtL n d).toArray⟩, .int .i64 0]) ∧ Below w.heap.size w w' := by
  obtain ⟨o1, o2, o3, o4, _⟩ := id ok
  have HV := hide (val_any n d)
  rw [show valE n d = 0 from if_pos ok] at HV
  have HT := hide hT
  have hI1 := (fun W (hW : Ten W) => itoa_any n (by omega) (by omega) W hW)
  have hI2 := (fun W (hW : Ten W) => itoa_any d (by omega) (by omega) W hW)
  have g1 := itoa_len o3 o4
  have g2 := itoa_len (n := d) (by omega) o2
  obtain ⟨a, ha⟩ : ∃ a : ByteArray, a = ⟨(Lib.itoa n).toArray⟩ := ⟨_, rfl⟩
  obtain ⟨b, hb⟩ : ∃ b : ByteArray, b = ⟨(Lib.itoa d).toArray⟩ := ⟨_, rfl⟩
  have la : a.data.toList = Lib.itoa n := by rw [ha]
  have lb : b.data.toList = Lib.itoa d := by rw [hb]
  have sa : a.size ≤ 14 := by rw [← sizeB, la]; exact g1
  have sb : b.size ≤ 14 := by rw [← sizeB, lb]; exact g2
  rw [← ha] at hI1
  rw [← hb] at hI2
  have s47 : (⟨#[47]⟩ : ByteArray).size = 1 := rfl
  have hadd1 : ∀ W, (Op.stringOp .add a ⟨#[47]⟩).run Tryd.prog W = .ok (.string (a ++ ⟨#[47]⟩)) W := fun W => run_string_add_sum W a _ (by rw [s47]; omega)
  have hno1 : ¬ (a.size + (⟨#[47]⟩ : ByteArray).size > 9223372036854775807) := by rw [s47]; omega
  have hno2 : ¬ (a.size + 1 > 9223372036854775807) := by omega
  have sy : (a ++ ⟨#[47]⟩ : ByteArray).size = a.size + 1 := by rw [size_cat]; rfl
  have ly : (a ++ ⟨#[47]⟩ : ByteArray).data.toList = Lib.itoa n ++ [47] := by rw [catB, la]
  obtain ⟨y, hy⟩ : ∃ y, a ++ ⟨#[47]⟩ = y := ⟨_, rfl⟩
  rw [hy] at hadd1 sy ly
  have hadd2 : ∀ W, (Op.stringOp .add y b).run Tryd.prog W = .ok (.string (y ++ b)) W := fun W => run_string_add_sum W y b (by omega)
  have hno3 : ¬ (y.size + b.size > 9223372036854775807) := by omega
  have lz : (y ++ b).data.toList = Wd.txtL n d := by
    rw [catB, ly, lb]; unfold Wd.txtL; rw [if_neg hd, List.append_assoc]; rfl
  obtain ⟨z, hz⟩ : ∃ z, y ++ b = z := ⟨_, rfl⟩
  rw [hz] at hadd2 lz
  have HZ := Lib.hid (bytes_ext lz)
  have e1 : (d == 1) = false := beq_eq_false_iff_ne.2 hd
  have HI1 := hide hI1; have HI2 := hide hI2
  have H10 := hide h10
  clear hT h10 ok o1 o2 o3 o4 g1 g2 ha hb la lb sa sb sy ly lz hy hz hI1 hI2 s47
  go_enter Tryd.func22, Tryd.ntmps22
  go_wp2_with fail
  obtain ⟨nx, hsz, hw0⟩ := one_new w (.cells #[.int .i64 n, .int .i64 d] 23)
  generalize w.alloc (.cells #[.int .i64 n, .int .i64 d] 23) = W0 at *
  clear hsz
  refine ((unhide HV) _ ((unhide HT).below hw0)).mono ?_
  rintro e W1 ⟨rfl, hb⟩
  replace nx := (hb.block _ (lt_of_block nx)).trans nx
  replace hw0 := below_step' hw0 hb
  have k0 : W1.cell? ⟨w.heap.size, 0, none⟩ = some (.int .i64 n) := cells_of nx 0
  have k1 : W1.cell? ⟨w.heap.size, 1, none⟩ = some (.int .i64 d) := cells_of nx 1
  have qx := lt_of_block nx
  clear hb nx
  have KEEP := hide (show ∀ X, Below W1.heap.size W1 X → X.cell? ⟨w.heap.size, 0, none⟩ = some (.int .i64 n) ∧ X.cell? ⟨w.heap.size, 1, none⟩ = some (.int .i64 d) from fun X hB => ⟨keep_cell hB qx k0, keep_cell hB qx k1⟩)
  go_upto_region 6 with fail
  go_region_held3 (fun w' => w'.cell? ⟨w.heap.size, 0, none⟩ = some (.int .i64 n) ∧ w'.cell? ⟨w.heap.size, 1, none⟩ = some (.int .i64 d)) (exact (unhide KEEP) _ (by (repeat (first | with_reducible exact Below.refl _ _ | with_reducible assumption | with_reducible refine Below.drew ?_ | with_reducible refine below_alloc ?_ _)))) (first | (go_at_call_of 54 (Value.int .i64 n); refine ((unhide HI1) _ ((unhide H10).below (below_step' hw0 (by (repeat (first | with_reducible exact Below.refl _ _ | with_reducible assumption | with_reducible refine Below.drew ?_ | with_reducible refine below_alloc ?_ _)))))).mono ?_; rintro e w' ⟨rfl, hb1⟩; have hbw := below_step (w := W1) (by (repeat (first | with_reducible exact Below.refl _ _ | with_reducible assumption | with_reducible refine Below.drew ?_ | with_reducible refine below_alloc ?_ _))) hb1; have hsw := hbw.size; obtain ⟨hc, hfz⟩ := bcell hbw) | (go_at_call_of 54 (Value.int .i64 d); refine ((unhide HI2) _ ((unhide H10).below (below_step' hw0 (by (repeat (first | with_reducible exact Below.refl _ _ | with_reducible assumption | with_reducible refine Below.drew ?_ | with_reducible refine below_alloc ?_ _)))))).mono ?_; rintro e w' ⟨rfl, hb2⟩; have hbw := below_step (w := W1) (by (repeat (first | with_reducible exact Below.refl _ _ | with_reducible assumption | with_reducible refine Below.drew ?_ | with_reducible refine below_alloc ?_ _))) hb2; have hsw := hbw.size; obtain ⟨hc, hfz⟩ := bcell hbw))
  all_goals
    have hb9 := below_step' hw0 hbw
    clear hbw hc hfz
    go_wp2_with fail
    first | go_ret2 | skip
    exact ⟨by rw [HZ.out]; rfl, hb9⟩
end Go.Proofs.YtadclbankpmebaaDoor
/- A number's continued fraction: how long it is, and the number of it. -/
namespace Go.Proofs.YtadclbankpmebaaDoor
namespace Wd

/-- What a denominator has at least whose continued fraction is longer than m. -/
def fibP : Nat → Nat × Nat
  | 0 => (1, 2)
  | m + 1 => ((fibP m).2, (fibP m).1 + (fibP m).2)
theorem cf_succ (f : Nat) {n d : Int} (h : d ≠ 0) : cf (f + 1) n d = n / d :: cf f d (n % d) := by
  rw [cf, if_neg h]
theorem cf_fib : ∀ (m f : Nat) (n d : Int), 0 < d → d < f → m + 1 ≤ (cf f n d).length → ((fibP m).1 : Int) ≤ d ∧ (m + 2 ≤ (cf f n d).length → ((fibP (m + 1)).1 : Int) ≤ d)
  | m, 0, n, d, h1, h2, _ => by omega
  | m, f + 1, n, d, h1, h2, h3 => by
    rw [cf_succ f (by omega), List.length_cons] at h3
    rw [cf_succ f (by omega), List.length_cons]
    have e1 := Int.emod_nonneg n (show d ≠ 0 by omega)
    have e2 := Int.emod_lt_of_pos n h1
    have key : ∀ k : Nat, k + 1 ≤ (cf f d (n % d)).length → ((fibP (k + 1)).1 : Int) ≤ d := fun k hk => by
      have hr : 0 < n % d := by
        rcases Int.lt_or_eq_of_le e1 with h | h
        · exact h
        · rw [← h, cf_zero] at hk; exact absurd hk (by simp)
      have ih := (cf_fib k f d (n % d) hr (by omega) hk)
      match f, h2, hk, ih with
      | 0, h2, _, _ => omega
      | g + 1, h2, hk, ih =>
        match k with
        | 0 => show ((2 : Nat) : Int) ≤ d; omega
        | k + 1 =>
          have hk2 := hk
          rw [cf_succ g (by omega), List.length_cons] at hk2
          have f1 := Int.emod_nonneg d (show n % d ≠ 0 by omega)
          have f2 := Int.emod_lt_of_pos d hr
          have f3 := Int.mul_ediv_add_emod d (n % d)
          have hr2 : 0 < d % (n % d) := by
            rcases Int.lt_or_eq_of_le f1 with h | h
            · exact h
            · rw [← h, cf_zero] at hk2; exact absurd hk2 (by simp)
          have ih2 := (cf_fib k g (n % d) (d % (n % d)) hr2 (by omega) (by omega)).1
          have ih1 := ih.1
          have hq : 1 ≤ d / (n % d) := by rw [Int.le_ediv_iff_mul_le hr]; omega
          have hm : (n % d) * 1 ≤ (n % d) * (d / (n % d)) := Int.mul_le_mul_of_nonneg_left hq (by omega)
          have e3 : (fibP (k + 1 + 1)).1 = (fibP k).1 + (fibP (k + 1)).1 := rfl
          rw [e3, Int.natCast_add]
          generalize (n % d) * (d / (n % d)) = u at *
          omega
    constructor
    · match m with
      | 0 => show ((1 : Nat) : Int) ≤ d; omega
      | m + 1 => exact key m (by omega)
    · intro h
      exact key m (by omega)
theorem cf_short {n d : Int} (h : okR n d) : (cf (d.toNat + 1) n d).length ≤ 64 := by
  rcases Nat.lt_or_ge 64 (cf (d.toNat + 1) n d).length with hl | hl
  · have h1 := (cf_fib 64 (d.toNat + 1) n d (by have := h.1; omega) (by have := h.1; omega) (by omega)).1
    have h2 : 1000000000000 < (fibP 64).1 := by decide +kernel
    have := h.2.1
    omega
  · exact hl
theorem cf_ne {f : Nat} {n d : Int} (h1 : 0 < d) (h2 : d < f) : cf f n d ≠ [] := by
  cases f with
  | zero => omega
  | succ f => rw [cf_succ f (by omega)]; exact List.cons_ne_nil _ _
theorem cf_join : ∀ (f : Nat) (n d : Int), 0 < d → d < f → joinQ (cf f n d) = Rat.divInt n d
  | 0, n, d, h1, h2 => by omega
  | f + 1, n, d, h1, h2 => by
    rw [cf_succ f (by omega)]
    have e1 := Int.emod_nonneg n (show d ≠ 0 by omega)
    have e2 := Int.emod_lt_of_pos n h1
    have e3 := Int.mul_ediv_add_emod n d
    rcases Int.lt_or_eq_of_le e1 with h | h
    · rw [joinQ_cons _ (cf_ne h (by omega)), cf_join f d (n % d) h (by omega), Rat.inv_divInt, Rat.divInt_add_divInt _ _ (by omega) (by omega)]
      have : n / d * d + n % d * 1 = n := by rw [Int.mul_comm (n / d)]; omega
      rw [this, Int.one_mul]
    · rw [← h, cf_zero]
      show Rat.divInt (n / d) 1 = _
      have e4 : n = n / d * d := by rw [Int.mul_comm]; omega
      rw [Rat.divInt_eq_divInt_iff (by omega) (by omega)]
      omega
/-- The items behind the first one are from 1 up, the last of them from 2 up. -/
theorem cf_items : ∀ (f : Nat) (n d : Int), 0 < d → d < n → d < f → (∀ x ∈ cf f n d, 1 ≤ x ∧ x ≤ n) ∧ 2 ≤ (cf f n d).getD ((cf f n d).length - 1) 0
  | 0, n, d, h1, h2, h3 => by omega
  | f + 1, n, d, h1, h2, h3 => by
    rw [cf_succ f (by omega)]
    have e1 := Int.emod_nonneg n (show d ≠ 0 by omega)
    have e2 := Int.emod_lt_of_pos n h1
    have e3 := Int.mul_ediv_add_emod n d
    have hq : 1 ≤ n / d := by rw [Int.le_ediv_iff_mul_le h1]; omega
    have hq2 : n / d ≤ n := Int.ediv_le_self d (by omega)
    rcases Int.lt_or_eq_of_le e1 with h | h
    · obtain ⟨i1, i2⟩ := cf_items f d (n % d) h e2 (by omega)
      refine ⟨fun x hx => ?_, ?_⟩
      · rcases List.mem_cons.1 hx with rfl | hx
        · exact ⟨hq, hq2⟩
        · have := i1 x hx; omega
      · have hne := cf_ne (n := d) h (show n % d < (f : Int) by omega)
        cases hl : cf f d (n % d) with
        | nil => exact absurd hl hne
        | cons a l => rw [hl] at i2; exact i2
    · rw [← h, cf_zero]
      refine ⟨fun x hx => ?_, ?_⟩
      · rw [List.mem_singleton] at hx; subst hx; exact ⟨hq, hq2⟩
      · show 2 ≤ n / d
        rw [Int.le_ediv_iff_mul_le h1]
        have h5 : n = d * (n / d) := by omega
        have h6 : n / d ≠ 1 := fun e => by rw [e, Int.mul_one] at h5; omega
        have h7 : 2 ≤ n / d := by omega
        have h8 : d * 2 ≤ d * (n / d) := Int.mul_le_mul_of_nonneg_left h7 (by omega)
        omega
theorem mem_getD {l : List Int} {i : Nat} (h : i < l.length) : l.getD i 0 ∈ l := by
  rw [List.getD_eq_getElem?_getD, List.getElem?_eq_getElem h]; exact List.getElem_mem h
theorem cf_ok {n d : Int} (h : okR n d) : JoinOk (cf (d.toNat + 1) n d) ∧ (∀ i, i < (cf (d.toNat + 1) n d).length → -9223372036854775808 ≤ (cf (d.toNat + 1) n d).getD i 0 ∧ (cf (d.toNat + 1) n d).getD i 0 ≤ 9223372036854775807) := by
  obtain ⟨h1, h2, h3, h4, _⟩ := h
  have e1 := Int.emod_nonneg n (show d ≠ 0 by omega)
  have e2 := Int.emod_lt_of_pos n (show 0 < d by omega)
  have hb := (CfInv.step (CfInv.start ⟨h1, h2, h3, h4, by assumption⟩) (show 0 < d by omega)).2.2
  rw [cf_succ _ (by omega)]
  rcases Int.lt_or_eq_of_le e1 with hr | hr
  · obtain ⟨i1, i2⟩ := cf_items d.toNat d (n % d) hr e2 (by omega)
    refine ⟨⟨by simp, fun i hi h1 => ?_, .inr ?_⟩, fun i hi => ?_⟩
    · cases i with
      | zero => omega
      | succ i =>
        rw [List.getD_cons_succ]
        exact (i1 _ (mem_getD (by rw [List.length_cons] at hi; omega))).1
    · have hne := cf_ne (n := d) hr (show n % d < (d.toNat : Int) by omega)
      cases hl : cf d.toNat d (n % d) with
      | nil => exact absurd hl hne
      | cons a l =>
        rw [hl] at i2
        have : (n / d :: a :: l).getD ((n / d :: a :: l).length - 1) 0 = (a :: l).getD ((a :: l).length - 1) 0 := rfl
        rw [this]; omega
    · cases i with
      | zero => rw [List.getD_cons_zero]; omega
      | succ i =>
        rw [List.getD_cons_succ]
        have := i1 _ (mem_getD (l := cf d.toNat d (n % d)) (i := i) (by rw [List.length_cons] at hi; omega))
        omega
  · rw [← hr, cf_zero]
    refine ⟨⟨by simp, fun i hi h1 => ?_, .inl rfl⟩, fun i hi => ?_⟩
    · simp at hi; omega
    · have : i = 0 := by simpa using hi
      subst this
      rw [List.getD_cons_zero]; omega
end Wd
end Go.Proofs.YtadclbankpmebaaDoor
/- The reference's amounts in words of 32 bits: their memory; trimming; order. -/
namespace Go.Proofs.YtadclbankpmebaaDoor
open Go.RowKit

structure NatT (w : World) (A : Option Addr) (cap : Nat) (l : List Nat) (n : Nat) : Prop where
  ws : Ws .u32 w w.heap.size A l
  cap1 : l.length ≤ cap
  cap2 : cap ≤ 9223372036854775807
  lt : ∀ x ∈ l, x < B32
  norm : Wd.Norm l
  val : Wd.val B32 l = n

theorem NatT.below {w w' : World} {A : Option Addr} {cap : Nat} {l : List Nat} {n : Nat} (h : NatT w A cap l n) (hb : Below w.heap.size w w') : NatT w' A cap l n :=
  ⟨(h.ws.below hb).more hb.size, h.cap1, h.cap2, h.lt, h.norm, h.val⟩
theorem NatT.len {w : World} {A : Option Addr} {cap : Nat} {l : List Nat} {n k : Nat} (h : NatT w A cap l n) (hn : n < B32 ^ k) : l.length ≤ k :=
  Wd.norm_len B32_pos l h.norm k (by rw [h.val]; exact hn)
theorem NatT.nil_ (w : World) (cap : Nat) (hc : cap ≤ 9223372036854775807) : NatT w none cap [] 0 := ⟨Ws.nil_, by simp, hc, by simp, .inl rfl, rfl⟩
theorem NatT.lt_pow {w : World} {A : Option Addr} {cap : Nat} {l : List Nat} {n : Nat} (h : NatT w A cap l n) : n < B32 ^ l.length := by
  rw [← h.val]; exact Wd.val_lt l h.lt

theorem NatT.of_trim {w : World} {b cap : Nat} {T : TypeId} {zs : List Nat} {k : Nat} (hz : ZB .u32 w b T zs) (hlt : ∀ x ∈ zs, x < B32) (ht : Wd.IsTrim zs (zs.take k)) (hk : k ≤ zs.length) (hc : zs.length ≤ cap) (hc2 : cap ≤ 9223372036854775807) :
    NatT w (some ⟨b, 0, none⟩) cap (zs.take k) (Wd.val B32 zs) :=
  ⟨(hz.ws0 _ hz.lt).take_ k, by simp; omega, hc2, fun x hx => hlt x (List.mem_of_mem_take hx), ht.norm, ht.val _⟩

theorem World.drewN_drewN (w : World) (a b : Nat) : (w.drewN a).drewN b = w.drewN (a + b) := by
  simp [World.drewN, Nat.add_assoc]
end Go.Proofs.YtadclbankpmebaaDoor
/- The reference: products of amounts. -/
namespace Go.Proofs.YtadclbankpmebaaDoor
open Go.RowKit

end Go.Proofs.YtadclbankpmebaaDoor
/- The reference: sums and differences of amounts: what a round leaves, and slices that grow within their capacity. -/
namespace Go.Proofs.YtadclbankpmebaaDoor
open Go.RowKit

namespace Wd
/-- Behind i rounds of a sum: the words so far, and what is carried. -/
structure PlusInv (B : Nat) (xl yl l : List Nat) (i c : Nat) : Prop where
  len : l.length = i
  lt : ∀ x ∈ l, x < B
  c1 : c ≤ 1
  eq : Wd.val B l + B ^ i * c = Wd.val B (xl.take i) + Wd.val B (yl.take i)
theorem PlusInv.start (B : Nat) (xl yl : List Nat) : PlusInv B xl yl [] 0 0 := ⟨rfl, by simp, by omega, by simp [val]⟩
theorem lt_snoc' {B : Nat} {l : List Nat} {d : Nat} (h : ∀ x ∈ l, x < B) (hd : d < B) : ∀ x ∈ l ++ [d], x < B := by
  intro t ht
  rw [List.mem_append] at ht
  rcases ht with h1 | h1
  · exact h t h1
  · rw [List.mem_singleton] at h1; subst h1; exact hd
theorem PlusInv.step {B : Nat} {xl yl l : List Nat} {i c x y s : Nat} (hB : 1 < B) (h : PlusInv B xl yl l i c) (hx : x = xl.getD i 0) (hxB : x < B) (hy : y = yl.getD i 0) (hyB : y < B) (hs : s = c + x + y) :
    PlusInv B xl yl (l ++ [s % B]) (i + 1) (s / B) := by
  have hc := h.c1
  refine ⟨by simp [h.len], lt_snoc' h.lt (Nat.mod_lt _ (by omega)), ?_, ?_⟩
  · exact Nat.lt_succ_iff.1 ((Nat.div_lt_iff_lt_mul (by omega)).2 (by omega))
  · rw [val_snoc, h.len, Nat.pow_succ, val_take_succ', val_take_succ', ← hx, ← hy]
    have e := Nat.mod_add_div s B
    have h1 := h.eq
    have e2 : B ^ i * (s % B) + B ^ i * B * (s / B) = B ^ i * c + B ^ i * x + B ^ i * y := by
      rw [Nat.mul_assoc, ← Nat.mul_add, e, hs, Nat.mul_add, Nat.mul_add]
    omega
theorem PlusInv.done {B : Nat} {xl yl l : List Nat} {i c : Nat} (h : PlusInv B xl yl l i c) (hx : xl.length ≤ i) (hy : yl.length ≤ i) : Wd.val B (l ++ [c]) = Wd.val B xl + Wd.val B yl := by
  have h1 := h.eq
  rw [val_take_all _ _ _ hx, val_take_all _ _ _ hy] at h1
  rw [val_snoc, h.len, h1]
/-- Behind i rounds of a difference. -/
structure LessInv (B : Nat) (xl yl l : List Nat) (i b : Nat) : Prop where
  len : l.length = i
  lt : ∀ x ∈ l, x < B
  b1 : b ≤ 1
  eq : Wd.val B l + Wd.val B (yl.take i) = Wd.val B (xl.take i) + B ^ i * b
theorem LessInv.start (B : Nat) (xl yl : List Nat) : LessInv B xl yl [] 0 0 := ⟨rfl, by simp, by omega, by simp [val]⟩
theorem LessInv.step {B : Nat} {xl yl l : List Nat} {i b x y d b' : Nat} (h : LessInv B xl yl l i b) (hx : x = xl.getD i 0) (hy : y = yl.getD i 0) (hd : d < B) (hb : b' ≤ 1) (hs : d + y + b = x + B * b') :
    LessInv B xl yl (l ++ [d]) (i + 1) b' := by
  refine ⟨by simp [h.len], lt_snoc' h.lt hd, hb, ?_⟩
  rw [val_snoc, h.len, Nat.pow_succ, val_take_succ', val_take_succ', ← hx, ← hy]
  have h1 := h.eq
  have e2 : B ^ i * d + B ^ i * y + B ^ i * b = B ^ i * x + B ^ i * B * b' := by
    rw [← Nat.mul_add, ← Nat.mul_add, hs, Nat.mul_add, Nat.mul_assoc]
  omega
theorem LessInv.done {B : Nat} {xl yl l : List Nat} {i b : Nat} (h : LessInv B xl yl l i b) (hx : xl.length = i) (hy : yl.length ≤ i) (hle : Wd.val B yl ≤ Wd.val B xl) : Wd.val B l = Wd.val B xl - Wd.val B yl := by
  have h1 := h.eq
  rw [val_take_all B xl i (by omega), val_take_all B yl i hy] at h1
  have h2 := val_lt l h.lt
  rw [h.len] at h2
  have hb := h.b1
  rcases (show b = 0 ∨ b = 1 by omega) with rfl | rfl
  · omega
  · rw [Nat.mul_one] at h1; omega
end Wd

theorem one_cell (w : World) (v : Value) (T : TypeId) : ∀ j u, [v][j]? = some u → (w.alloc (.cells #[v] T)).cell? ((⟨w.heap.size, 0, none⟩ : Addr).add j) = some u := by
  intro j u hj
  match j, hj with
  | 0, hj => simp at hj; subst hj; simp [Addr.add]
  | j + 1, hj => simp at hj
end Go.Proofs.YtadclbankpmebaaDoor
/- Continued fractions: lists of ints in memory. -/
namespace Go.Proofs.YtadclbankpmebaaDoor
open Go.RowKit

/-- The ints of a list, as cells. -/
def ivals (l : List Int) : List Value := l.map fun (x : Int) => Value.int .i64 x
theorem infoInt : (Tryd.prog.info? 3).map (fun i => (i.zero, i.size, i.bytes)) = some (some (.int .i64 0), 1, 8) := by kernel_rfl
/-- What a continued fraction is handed back as: ints in memory of their own, and an error. -/
def IntsR (w : World) (L : List Int) (r : Int) (e : Ending) (w' : World) : Prop := ∃ v, e = .returned (.tuple #[v, .int .i64 r]) ∧ w'.ownsRow w.heap.size 3 1 v L.length (ivals L) ∧ Below w.heap.size w w'
theorem own_block_ge {w : World} {base : Nat} {T : TypeId} {v : Value} {n : Nat} {xs : List Value} (h : w.ownsRow base T 1 v n xs) : ∀ g, v.ownBlock = some g → base ≤ g := by
  intro g hg
  obtain ⟨_, ⟨rfl, _⟩ | ⟨g', cap, cur, rfl, hb, _⟩⟩ := h
  · simp [Value.ownBlock] at hg
  · simp [Value.ownBlock] at hg; omega
theorem ione_cell (x : Int) : ∀ u ∈ [Value.int .i64 x], u.oneCell' = true := by
  intro u hu
  rw [List.mem_singleton] at hu; subst hu; rfl
theorem behind_grow {w X w1 : World} {v v' : Value} {l : List Int} {a : Int} {T : TypeId} {wr : World} (hown : wr.ownsRow w.heap.size T 1 v l.length (ivals l)) (hb : Below w.heap.size w X) (hlt : w.heap.size ≤ X.heap.size)
    (hown1 : w1.ownsRow w.heap.size T 1 v' (l.length + 1) (ivals l ++ [.int .i64 a])) (hgrow1 : X.grownBy w1 v.ownBlock) :
    w1.ownsRow w.heap.size T 1 v' (l ++ [a]).length (ivals (l ++ [a])) ∧ Below w.heap.size w w1 := by
  refine ⟨?_, hb.grown hgrow1 hlt (own_block_ge hown)⟩
  have e : (l ++ [a]).length = l.length + 1 := by simp
  rw [e]
  simpa [ivals] using hown1
/-- The cells of the ints that a slice owns. -/
theorem own_cell {w : World} {base : Nat} {T : TypeId} {v : Value} {L : List Int} (h : w.ownsRow base T 1 v L.length (ivals L)) : (L = [] ∧ v = .slice none 0 0) ∨ ∃ g cap, v = .slice (some ⟨g, 0, none⟩) L.length cap ∧ base ≤ g ∧ L.length ≤ cap ∧ cap ≤ maxLen ∧ g < w.heap.size ∧ ∀ j, j < L.length → w.cell? ⟨g, j, none⟩ = some (.int .i64 (L.getD j 0)) := by
  obtain ⟨_, ⟨h1, h2⟩ | ⟨g', cap', cur, he, hb, hh, hn, hc, hs, ht⟩⟩ := h
  · exact .inl ⟨List.length_eq_zero_iff.1 h2, h1⟩
  · refine .inr ⟨g', cap', he, hb, hn, hc, lt_of_block hh, fun j hj => ?_⟩
    have hj2 : (cur.toList.take (L.length * 1))[j]? = some (.int .i64 (L.getD j 0)) := by
      rw [ht]
      simp [ivals, List.getD, hj]
    rw [List.getElem?_take] at hj2
    simp only [World.cell?, hh, Option.isSome_none, Bool.false_eq_true, if_false]
    rw [if_pos (by omega)] at hj2
    simpa using hj2
end Go.Proofs.YtadclbankpmebaaDoor
/- The program: the continued fraction of a number. -/
namespace Go.Proofs.YtadclbankpmebaaDoor
open Go.RowKit

set_option maxRecDepth 100000 in
set_option maxHeartbeats 16000000 in
theorem pfrac_ok (n0 d0 : Int) (w : World) (hT : Tab w) (ok : Wd.okR n0 d0) :
    Calls Tryd.prog 24 #[(Value.agg #[.int .i64 n0, .int .i64 d0])] w fun e w' => IntsR w (Wd.cf (d0.toNat + 1) n0 d0) 0 e w' := by
  have hv : valE n0 d0 = 0 := if_pos ok
  have HV := hide (val_any n0 d0)
  rw [hv] at HV
  have hst := Wd.CfInv.start ok
  have hLl : (Wd.cf (d0.toNat + 1) n0 d0).length ≤ 1000000000001 := by
    have := Wd.cf_len (d0.toNat + 1) n0 d0
    have := ok.2.1
    omega
  generalize Wd.cf (d0.toNat + 1) n0 d0 = L at *
  have HST := hide hst; have HT := hide hT; have HLL := hide hLl
  obtain ⟨i0, hi0, hz0, hz1, hz2⟩ := info_parts infoInt
  clear hv hst hT ok hLl
  go_enter Tryd.func24, Tryd.ntmps24
  go_upto_region 1 with fail
  obtain ⟨n0_, hsz, hw0⟩ := one_new w (.cells #[.int .i64 n0, .int .i64 d0] 23)
  generalize w.alloc (.cells #[.int .i64 n0, .int .i64 d0] 23) = W0 at *
  have k0 : W0.cell? ⟨w.heap.size, 0, none⟩ = some (.int .i64 n0) := cells_of n0_ 0
  have k1 : W0.cell? ⟨w.heap.size, 1, none⟩ = some (.int .i64 d0) := cells_of n0_ 1
  have q0 := lt_of_block n0_
  clear n0_ hsz
  go_wp2_with fail
  refine ((unhide HV) _ ((unhide HT).below hw0)).mono ?_
  rintro e W1 ⟨rfl, hb⟩
  obtain ⟨hc, hfz⟩ := bcell hb
  replace k0 := (hc _ _ q0).trans k0
  replace k1 := (hc _ _ q0).trans k1
  replace hw0 := below_step' hw0 hb
  clear hb hc hfz q0
  go_wp2_with fail
  go_quiet (fail)
  go_wp2_with fail
  go_loopw [5, 6, 7] (fun lv nv dv wr => ∃ (l : List Int) (n d : Int), nv = .int .i64 n ∧ dv = .int .i64 d ∧ Hid (Wd.CfInv L l n d) ∧ wr.ownsRow w.heap.size 3 1 lv l.length (ivals l) ∧ Below w.heap.size w wr) (fun _ _ dv _ => (intOf dv).toNat)
  case atStart => exact ⟨[], n0, d0, rfl, rfl, unhide HST, World.ownsRow_nil _ _ _ _, by first | exact hw0 | exact hw0.drew | exact belowN hw0 _⟩
  case round =>
    obtain ⟨l, n, d, rfl, rfl, HI, hown, hg⟩ := hrel
    have hsz := hg.size
    clear k0 k1
    by_cases hd : 0 < d
    · obtain ⟨h1, h2, h3, h4, h5, h6⟩ := HI.out.step hd
      have hdb := HI.out.db
      have hnb := HI.out.nb
      have hll := HI.out.len (unhide HLL)
      have HF := hide (fun W => fdiv_any n d W (by omega) (by omega) hd (by omega))
      have hr2 := Int.emod_lt_of_pos n hd
      have hr1 := Int.emod_nonneg n (show d ≠ 0 by omega)
      have d1 : decide (0 < d) = true := decide_eq_true hd
      obtain ⟨a, ha⟩ : ∃ a, a = n / d := ⟨_, rfl⟩
      obtain ⟨r, hr⟩ : ∃ r, r = n % d := ⟨_, rfl⟩
      rw [← ha] at HF h1 h2 h3 h4 h5 h6
      rw [← hr] at h1 h2 hr1 hr2
      obtain ⟨p, hp⟩ : ∃ p, p = a * d := ⟨_, rfl⟩
      rw [← hp] at h2 h5 h6
      have e1 : wrap64 (a * d) = p := by rw [← hp]; exact IntWalk.wrap64_in _ (by omega)
      have e2 : IntKind.i64.wrap (a * d) = p := by rw [← hp]; exact IntWalk.i64_in _ (by omega)
      have e3 : wrap64 (n - p) = r := by rw [h2]; exact IntWalk.wrap64_in _ (by omega)
      have e4 : IntKind.i64.wrap (n - p) = r := by rw [h2]; exact IntWalk.i64_in _ (by omega)
      have H1 := hide h1
      have HM := hide (show r.toNat < d.toNat by omega)
      clear h1 h2 h3 h4 h5 h6 ha hr hp hdb hnb hr1 hr2 hd
      go_wp2_with fail
      refine ((unhide HF) _).mono ?_
      rintro e W2 ⟨rfl, hW2⟩
      obtain rfl : wr = W2 := hW2.symm
      clear hW2
      dsimp only
      go_wp2_with (first | (at_builtin; refine wpList_append_own _ rfl _ _ 49 rfl w.heap.size 3 i0 (.int .i64 0) 1 8 Tryd.underlying49 hi0 hz0 hz1 hz2 rfl (by decide) _ _ _ rfl (hown.alloc _) ⟨_, 0, none⟩ 1 1 [.int .i64 a] rfl rfl (one_cell _ _ _) (ione_cell _) (by unfold maxLen; omega) (by omega) (by simp <;> omega) ?_; intro v' w1 hown1 hgrow1 _) | fail)
      obtain ⟨r1, r2⟩ := behind_grow hown (hg.alloc hsz _) (by simp <;> omega) hown1 hgrow1
      clear hown1 hgrow1 hown hg
      go_wp2_with fail
      go_roundw
      case rel => exact ⟨l ++ [a], d, r, rfl, rfl, unhide H1, r1, r2⟩
      case measure => exact unhide HM
    · have d1 : decide (0 < d) = false := decide_eq_false hd
      have hd0 := HI.out.d0
      obtain rfl : d = 0 := by omega
      have hL := HI.out.done
      subst hL
      clear hd0 hd
      go_wp2_with fail
      go_ret2
      exact ⟨_, rfl, hown, hg⟩

end Go.Proofs.YtadclbankpmebaaDoor
/- Slices of ints that came in. -/
namespace Go.Proofs.YtadclbankpmebaaDoor
open Go.RowKit

/-- The ints of a slice that came in. -/
def gi (l : List Int) (i : Nat) : Int := l.getD i 0
theorem gi_def (l : List Int) (i : Nat) : gi l i = l.getD i 0 := rfl
def Zs (w : World) (B : Nat) (A : Option Addr) (l : List Int) : Prop := 0 < l.length → ∃ b off, A = some ⟨b, off, none⟩ ∧ b < B ∧ ∀ j, j < l.length → w.cell? ⟨b, off + j, none⟩ = some (.int .i64 (gi l j))
theorem Zs.below {w w' : World} {A : Option Addr} {l : List Int} (h : Zs w w.heap.size A l) (hb : Below w.heap.size w w') : Zs w' w'.heap.size A l := fun hl => by
  obtain ⟨b, off, rfl, h1, h2⟩ := h hl
  exact ⟨b, off, rfl, Nat.lt_of_lt_of_le h1 hb.size, fun j hj => (hb.cell (p := ⟨b, off + j, none⟩) h1).trans (h2 j hj)⟩

end Go.Proofs.YtadclbankpmebaaDoor
/- The program: whether a list is a continued fraction. -/
namespace Go.Proofs.YtadclbankpmebaaDoor
open Go.RowKit

set_option maxRecDepth 100000 in
set_option maxHeartbeats 16000000 in
theorem isfrac_any (A : Option Addr) (cap : Nat) (l : List Int) (w : World) (h : Zs w w.heap.size A l) (hc : l.length ≤ cap) (hm : cap ≤ 9223372036854775807) :
    Calls Tryd.prog 60 #[.slice A l.length cap] w fun e w' => e = .returned (.bool (decide (Wd.JoinOk l))) ∧ Below w.heap.size w w' := by
  by_cases h0 : l.length = 0
  · have hd : decide (Wd.JoinOk l) = false := decide_eq_false (fun hj => by have := hj.1; omega)
    rw [hd]
    have b0 : ((l.length : Int) == 0) = true := by rw [h0]; rfl
    clear hd h
    go_enter Tryd.func60, Tryd.ntmps60
    go_wp2
    all_goals first | go_ret | skip
    all_goals exact ⟨rfl, Below.refl _ _⟩
  · have b0 : ((l.length : Int) == 0) = false := beq_eq_false_iff_ne.2 (by omega)
    obtain ⟨o, ho⟩ : ∃ o, o = decide (Wd.JoinOk l) := ⟨_, rfl⟩
    have hno : ∀ i, i < l.length → 1 ≤ i → gi l i < 1 → o = false := fun i h1 h2 h3 => by
      rw [ho]; exact decide_eq_false (fun hj => by have := hj.2.1 i h1 h2; rw [← gi_def] at this; omega)
    have hlast : (∀ i, i < l.length → 1 ≤ i → 1 ≤ gi l i) → (l.length = 1 → o = true) ∧ (l.length ≠ 1 → o = !(gi l (l.length - 1) == 1)) := fun h1 => by
      constructor
      · intro h2; rw [ho]; exact decide_eq_true ⟨by omega, h1, .inl h2⟩
      · intro h2
        by_cases h3 : gi l (l.length - 1) = 1
        · rw [h3, ho]; exact decide_eq_false (fun hj => by rcases hj.2.2 with h4 | h4; exact h2 h4; exact h4 h3)
        · rw [ho, beq_eq_false_iff_ne.2 h3]; exact decide_eq_true ⟨by omega, h1, .inr h3⟩
    rw [← ho]
    have HNO := hide hno; have HLAST := hide hlast
    clear ho hno hlast
    obtain ⟨b, off, rfl, hbb, hcell⟩ := h (by omega)
    by_cases h1 : l.length = 1
    · have b1 : ((l.length : Int) == 1) = true := by rw [h1]; rfl
      have e1 : IntKind.i64.wrap ((l.length : Int) - 1) = ((l.length - 1 : Nat) : Int) := by rw [h1]; rfl
      have hres := ((unhide HLAST) (fun i h2 h3 => by omega)).1 h1
      subst hres
      clear HNO HLAST hcell
      by_cases z1 : cap = 1
      · subst z1
        go_enter Tryd.func60, Tryd.ntmps60
        go_wp2_with fail
        go_loopw [11] (fun iv wr => ∃ i : Nat, i ≤ 0 ∧ iv = .int .i64 ((i : Nat) : Int) ∧ Hid (Below w.heap.size w wr)) (fun iv _ => 0 - (intOf iv).toNat)
        case atStart => exact ⟨0, Nat.le_refl _, rfl, by first | exact Below.refl _ _ | exact (Below.refl _ _).drew⟩
        case round =>
          obtain ⟨i, hi, rfl, hb⟩ := hrel
          obtain rfl : i = 0 := by omega
          go_wp2
          all_goals first | go_ret | skip
          all_goals exact ⟨rfl, hb.out⟩
      · have z2 : ((cap : Int) == 1) = false := beq_eq_false_iff_ne.2 (by omega)
        go_enter Tryd.func60, Tryd.ntmps60
        go_wp2_with fail
        go_loopw [11] (fun iv wr => ∃ i : Nat, i ≤ 0 ∧ iv = .int .i64 ((i : Nat) : Int) ∧ Hid (Below w.heap.size w wr)) (fun iv _ => 0 - (intOf iv).toNat)
        case atStart => exact ⟨0, Nat.le_refl _, rfl, by first | exact Below.refl _ _ | exact (Below.refl _ _).drew⟩
        case round =>
          obtain ⟨i, hi, rfl, hb⟩ := hrel
          obtain rfl : i = 0 := by omega
          go_wp2
          all_goals first | go_ret | skip
          all_goals exact ⟨rfl, hb.out⟩
    · have b1 : ((l.length : Int) == 1) = false := beq_eq_false_iff_ne.2 (by omega)
      have z1 : ¬ cap = 1 := by omega
      have z2 : ((cap : Int) == 1) = false := beq_eq_false_iff_ne.2 (by omega)
      obtain ⟨m, hm1⟩ : ∃ m, l.length = m + 1 := ⟨l.length - 1, by omega⟩
      rw [hm1] at h0 h1 hc b0 b1 hcell HNO HLAST ⊢
      have e2 : IntKind.i64.wrap (((m + 1 : Nat) : Int) - 1) = (m : Int) := by
        rw [show ((m + 1 : Nat) : Int) - 1 = (m : Int) by omega]; exact IntWalk.i64_in _ (by omega)
      have e3 : wrap64 (((m + 1 : Nat) : Int) - 1) = (m : Int) := by
        rw [show ((m + 1 : Nat) : Int) - 1 = (m : Int) by omega]; exact IntWalk.wrap64_in _ (by omega)
      have e4 : ((m + 1 : Nat) : Int) - 1 = (m : Int) := by omega
      have hlst := hcell m (by omega)
      go_enter Tryd.func60, Tryd.ntmps60
      go_wp2_with fail
      go_loopw [11] (fun iv wr => ∃ i : Nat, i ≤ m ∧ iv = .int .i64 ((i : Nat) : Int) ∧ Hid (∀ j, j < i + 1 → 1 ≤ j → 1 ≤ gi l j) ∧ Hid (Below w.heap.size w wr)) (fun iv _ => m - (intOf iv).toNat)
      case atStart => exact ⟨0, Nat.zero_le _, rfl, fun j h2 h3 => by omega, by first | exact Below.refl _ _ | exact (Below.refl _ _).drew⟩
      case round =>
        obtain ⟨i, hi, rfl, hall, hb⟩ := hrel
        have hl1 := (hb.out.cell (p := ⟨b, off + m, none⟩) hbb).trans hlst
        by_cases hlt : i < m
        · have hci := (hb.out.cell (p := ⟨b, off + (i + 1), none⟩) hbb).trans (hcell (i + 1) (by omega))
          have hci' : wr.cell? ⟨b, off + 1 + i, none⟩ = some (.int .i64 (gi l (i + 1))) := by rw [show off + 1 + i = off + (i + 1) by omega]; exact hci
          obtain ⟨v, hv⟩ : ∃ v, v = gi l (i + 1) := ⟨_, rfl⟩
          rw [← hv] at hci hci'
          by_cases hv1 : v < 1
          · have d1 : decide (v < 1) = true := decide_eq_true hv1
            have ho := (unhide HNO) (i + 1) (by omega) (by omega) (by omega)
            subst ho
            clear hv hv1 HNO HLAST hall
            go_wp2
            all_goals first | go_ret | skip
            all_goals exact ⟨rfl, hb.out⟩
          · have d1 : decide (v < 1) = false := decide_eq_false hv1
            have hn : Hid (∀ j, j < i + 1 + 1 → 1 ≤ j → 1 ≤ gi l j) := fun j h2 h3 => by
              by_cases h4 : j = i + 1
              · subst h4; omega
              · exact hall.out j (by omega) h3
            clear hv hv1 HNO HLAST hall
            go_wp2
            go_roundw
            case rel => exact ⟨i + 1, by omega, by go_num, hn, hb⟩
            case measure => simp [intOf] <;> omega
        · obtain rfl : i = m := by omega
          have hres := ((unhide HLAST) hall.out).2 (by omega)
          rw [show i + 1 - 1 = i by omega] at hres
          have b2 : ((i : Int) + 1 == 1) = false := beq_eq_false_iff_ne.2 (by omega)
          obtain ⟨v, hv⟩ : ∃ v, v = gi l i := ⟨_, rfl⟩
          rw [← hv] at hl1 hres
          subst hres
          clear hv HNO HLAST hall hcell hlst
          go_wp2
          all_goals first | go_ret | skip
          all_goals exact ⟨rfl, hb.out⟩

end Go.Proofs.YtadclbankpmebaaDoor
/- The program: the number of a continued fraction. -/
namespace Go.Proofs.YtadclbankpmebaaDoor
open Go.RowKit

set_option maxRecDepth 100000 in
set_option maxHeartbeats 16000000 in
theorem pjoin_ok (A : Option Addr) (cap : Nat) (l : List Int) (w : World) (h : Zs w w.heap.size A l) (hcp : l.length ≤ cap) (hm : cap ≤ 9223372036854775807) (hT : Tab w) (hl : ¬ 64 < l.length) (hj : Wd.JoinOk l) (hin : ∀ i, i < l.length → -9223372036854775808 ≤ l.getD i 0 ∧ l.getD i 0 ≤ 9223372036854775807) :
    Calls Tryd.prog 25 #[.slice A l.length cap] w fun e w' => TolR w (Wd.told (Wd.joinQ l)) e w' := by
  have d1 : decide ((64 : Int) < (l.length : Int)) = false := decide_eq_false (by omega)
  have d2 : decide (64 < l.length) = false := decide_eq_false hl
  have HF := hide (fun W (hW : Below w.heap.size w W) => isfrac_any A cap l W (h.below hW) hcp hm)
  rw [decide_eq_true hj] at HF
  obtain ⟨m, hm1⟩ : ∃ m, l.length = m + 1 := ⟨l.length - 1, by have := hj.1; omega⟩
  have HIN := hide hin; have HJ := hide hj; have HT := hide hT
  obtain ⟨b, off, rfl, hbb, hcell⟩ := h (by omega)
  have hsz64 : ∀ i, i ≤ m → SzQ (m + 1) (Wd.joinQ (l.drop i)) ∧ (1 ≤ i → 0 < (Wd.joinQ (l.drop i)).num) ∧ (i < m → Wd.joinQ (l.drop i) = Rat.divInt (gi l i) 1 + (Wd.joinQ (l.drop (i + 1)))⁻¹) := fun i hi => by
    have hB : 9223372036854775809 ≤ B64 ^ 1 := by rw [Nat.pow_one, B64_eq]; omega
    have e := Wd.drop_cons (l := l) (i := i) (by omega)
    have hbig := Wd.big_drop hj hin (i + 1) (by omega)
    have hz := Wd.join_any hB B64_pos (l.getD i 0) (l.drop (i + 1)) (hin i (by omega)) hbig
    rw [← e, Nat.one_mul, List.length_drop] at hz
    refine ⟨⟨hz.1.mono B64_pos (by omega), hz.2.mono B64_pos (by omega)⟩, fun h1 => ?_, fun h1 => ?_⟩
    · have hne : l.drop i ≠ [] := by rw [e]; simp
      exact (Wd.join_big hB B64_pos (l.drop i) hne (Wd.big_drop hj hin i h1)).1
    · rw [e]
      exact Wd.joinQ_cons _ (by rw [Wd.drop_cons (l := l) (i := i + 1) (by omega)]; simp)
  have hlast : Wd.joinQ (l.drop m) = Rat.divInt (gi l m) 1 := by
    rw [Wd.drop_cons (l := l) (i := m) (by omega), List.drop_of_length_le (by omega)]; rfl
  have HSZ := hide hsz64
  have HWH := hide (fun i (hi : i < m + 1) W => rwhole_any (gi l i) W (hin i (by omega)).1 (hin i (by omega)).2)
  have e1 : wrap64 (((m + 1 : Nat) : Int) - 1) = (m : Int) := by rw [show ((m + 1 : Nat) : Int) - 1 = (m : Int) by omega]; exact IntWalk.wrap64_in _ (by omega)
  have e1' : IntKind.i64.wrap (((m + 1 : Nat) : Int) - 1) = (m : Int) := by rw [show ((m + 1 : Nat) : Int) - 1 = (m : Int) by omega]; exact IntWalk.i64_in _ (by omega)
  have e0 : ((m + 1 : Nat) : Int) - 1 = (m : Int) := by omega
  rw [hm1] at hl hcp d1 d2 HF hcell ⊢
  have HCELL := hide hcell
  have hlst := hcell m (by omega)
  have HL := Lib.hid hlast
  clear hj hin hT hsz64 hlast hcell
  go_enter Tryd.func25, Tryd.ntmps25
  go_upto_region 1 with fail
  obtain ⟨n0, hsz, hw0⟩ := one_new w (.cells #[.int .i64 0, .int .i64 0] 23)
  generalize w.alloc (.cells #[.int .i64 0, .int .i64 0] 23) = W0 at *
  have r0 : W0.cell? ⟨w.heap.size, 0, none⟩ = some (.int .i64 0) := cells_of n0 0
  have r1 : W0.cell? ⟨w.heap.size, 1, none⟩ = some (.int .i64 0) := cells_of n0 1
  have f0 := unfrozen_of n0 0; have f1 := unfrozen_of n0 1
  have q0 := lt_of_block n0
  clear n0 hsz
  go_wp2_with fail
  refine ((unhide HF) _ hw0).mono ?_
  rintro e W1 ⟨rfl, hb⟩
  obtain ⟨hc, hfz⟩ := bcell hb
  replace r0 := (hc _ _ q0).trans r0
  replace r1 := (hc _ _ q0).trans r1
  replace f0 := (hfz _ _ q0).trans f0
  replace f1 := (hfz _ _ q0).trans f1
  replace q0 := Nat.lt_of_lt_of_le q0 hb.size
  replace hw0 := below_step' hw0 hb
  clear hc hfz
  clear hb
  have hl1 := (hw0.cell (p := ⟨b, off + m, none⟩) hbb).trans hlst
  go_wp2_with fail
  refine ((unhide HWH) m (by omega) W1).mono ?_
  rintro e W2 ⟨s1a, neg1a, A1a, c1a, l1a, s1b, neg1b, A1b, c1b, l1b, rfl, g1, g2, hb⟩
  obtain ⟨hc, hfz⟩ := bcell hb
  replace r0 := (hc _ _ q0).trans r0
  replace r1 := (hc _ _ q0).trans r1
  replace f0 := (hfz _ _ q0).trans f0
  replace f1 := (hfz _ _ q0).trans f1
  replace q0 := Nat.lt_of_lt_of_le q0 hb.size
  replace hw0 := below_step' hw0 hb
  clear hc hfz
  clear hb hl1
  rw [← HL.out] at g1 g2
  have hbx := boxt_new ⟨g1, g2⟩
  have hb := below_alloc (Below.refl W2.heap.size W2) (.cells #[.int .i64 s1a, .bool neg1a, .slice A1a l1a.length c1a, .int .i64 s1b, .bool neg1b, .slice A1b l1b.length c1b] 60)
  clear g1 g2
  go_upto_region 7 with fail
  obtain ⟨bx, hbxe⟩ : ∃ b, b = W2.heap.size := ⟨_, rfl⟩
  rw [← hbxe] at hbx ⊢
  have hbB : w.heap.size < bx := by rw [hbxe]; exact q0
  generalize W2.alloc (.cells #[.int .i64 s1a, .bool neg1a, .slice A1a l1a.length c1a, .int .i64 s1b, .bool neg1b, .slice A1b l1b.length c1b] 60) = W3 at *
  obtain ⟨hc, hfz⟩ := bcell hb
  replace r0 := (hc _ _ q0).trans r0
  replace r1 := (hc _ _ q0).trans r1
  replace f0 := (hfz _ _ q0).trans f0
  replace f1 := (hfz _ _ q0).trans f1
  replace q0 := Nat.lt_of_lt_of_le q0 hb.size
  replace hw0 := below_step' hw0 hb
  clear hc hfz
  clear hb hbxe
  have HW0 := hide hw0; have HRES := hide (And.intro (And.intro r0 r1) (And.intro (And.intro f0 f1) q0))
  have hbs := (unhide HW0).size
  go_wp2_with fail
  go_loopw [6] (fun iv wr => ∃ i : Nat, i ≤ m ∧ iv = .int .i64 (((i : Nat) : Int) - 1) ∧ BoxT wr bx (Wd.joinQ (l.drop i)) ∧ Hid (Below (w.heap.size + 1) W3 wr)) (fun iv _ => (intOf iv + 1).toNat)
  case atStart => exact ⟨m, Nat.le_refl _, by first | rfl | go_num, hbx, Below.refl _ _⟩
  case round =>
    obtain ⟨i, hi, rfl, hbq, hgr⟩ := hrel
    have hwr : Below w.heap.size w wr := (unhide HW0).trans (hgr.out.mono (by omega))
    have hq0 := (unhide HRES).2.2
    have hgs := hgr.out.size
    rcases Nat.eq_zero_or_pos i with rfl | hpos
    · obtain ⟨⟨r0, r1⟩, ⟨f0, f1⟩, q0⟩ := unhide HRES
      have hblk := hgr.out.block w.heap.size (by omega)
      replace r0 := (World.cell?_of_block (a := ⟨w.heap.size, 0, none⟩) hblk).trans r0
      replace r1 := (World.cell?_of_block (a := ⟨w.heap.size, 1, none⟩) hblk).trans r1
      replace f0 := (World.frozen?_of_block (a := ⟨w.heap.size, 0, none⟩) hblk).trans f0
      replace f1 := (World.frozen?_of_block (a := ⟨w.heap.size, 1, none⟩) hblk).trans f1
      replace q0 := Nat.lt_of_lt_of_le q0 hgs
      rw [List.drop_zero] at hbq
      obtain ⟨s1a, neg1a, A1a, c1a, l1a, s1b, neg1b, A1b, c1b, l1b, j1, f1'⟩ := hbq
      have kx_0 : wr.cell? ⟨bx, 0, none⟩ = some (.int .i64 s1a) := cells_of j1 0
      have kx_1 : wr.cell? ⟨bx, 1, none⟩ = some (.bool neg1a) := cells_of j1 1
      have kx_2 : wr.cell? ⟨bx, 2, none⟩ = some (.slice A1a l1a.length c1a) := cells_of j1 2
      have kx_3 : wr.cell? ⟨bx, 3, none⟩ = some (.int .i64 s1b) := cells_of j1 3
      have kx_4 : wr.cell? ⟨bx, 4, none⟩ = some (.bool neg1b) := cells_of j1 4
      have kx_5 : wr.cell? ⟨bx, 5, none⟩ = some (.slice A1b l1b.length c1b) := cells_of j1 5
      have hrat := rrat_any s1a neg1a A1a c1a l1a _ s1b neg1b A1b c1b l1b _ wr f1'.n f1'.d _ rfl rfl
      have HRAT := hide hrat
      have hw0 := hwr
      clear hrat f1' j1 hblk hwr hgr HRES HW0 HSZ HWH HIN HJ HCELL hlst hq0
      rw [show (((0 : Nat) : Int) - 1) = -1 by rfl]
      go_wp2_with fail
      refine (unhide HRAT).mono ?_
      rintro e W5 ⟨rfl, hb⟩
      obtain ⟨hc, hfz⟩ := bcell hb
      replace r0 := (hc _ _ q0).trans r0
      replace r1 := (hc _ _ q0).trans r1
      replace f0 := (hfz _ _ q0).trans f0
      replace f1 := (hfz _ _ q0).trans f1
      replace q0 := Nat.lt_of_lt_of_le q0 hb.size
      replace hw0 := below_step' hw0 hb
      clear hc hfz
      clear hb kx_0 kx_1 kx_2 kx_3 kx_4 kx_5
      go_wp2_with fail
      exact bodyPost_ret (v := .tuple #[.agg #[.int .i64 (Wd.told (Wd.joinQ l)).n, .int .i64 (Wd.told (Wd.joinQ l)).d], .int .i64 (Wd.told (Wd.joinQ l)).e]) (by simp [results, Tryd.results25, go_sem, r0, r1, q0]) rfl
        ⟨rfl, hw0.grown (set2_grown _ _ _ _) hw0.size (fun k hk => by injection hk with hk; omega)⟩
    · obtain ⟨t, rfl⟩ : ∃ t, i = t + 1 := ⟨i - 1, by omega⟩
      have eiv : (((t + 1 : Nat) : Int) - 1) = (t : Int) := by omega
      rw [eiv]
      obtain ⟨s1, s2, _⟩ := (unhide HSZ) (t + 1) hi
      obtain ⟨_, _, s3⟩ := (unhide HSZ) t (by omega)
      replace s3 := s3 (by omega)
      replace s2 := s2 (by omega)
      have hint := (unhide HIN) t (by omega)
      have hlim : (m + 1) + (m + 1) + 1 ≤ lim := by rw [lim_eq]; omega
      have sa : SzQ (m + 1) (Rat.divInt (gi l t) 1) := by
        obtain ⟨o1, o2⟩ := Wd.one_parts (gi l t)
        have hB : Wd.Sz B64 1 (Rat.divInt (gi l t) 1).num := by rw [o1]; unfold Wd.Sz; rw [Nat.pow_one, B64_eq, gi_def]; omega
        have hB2 : Wd.Sz B64 1 ((Rat.divInt (gi l t) 1).den : Int) := by rw [o2]; unfold Wd.Sz; rw [Nat.pow_one, B64_eq]; omega
        exact ⟨hB.mono B64_pos (by omega), hB2.mono B64_pos (by omega)⟩
      have hT' : Tab wr := (unhide HT).below hwr
      have HIV := hide (opq_inv wr (Wd.joinQ (l.drop (t + 1))) (by omega))
      have HAD := hide (opq_add hT' (Rat.divInt (gi l t) 1) ((Wd.joinQ (l.drop (t + 1)))⁻¹) sa (s1.inv (by omega)) hlim).1
      have HWt := hide ((unhide HWH) t (by omega))
      rw [← s3] at HAD
      have hct := (hwr.cell (p := ⟨b, off + t, none⟩) hbb).trans ((unhide HCELL) t (by omega))
      obtain ⟨s1a, neg1a, A1a, c1a, l1a, s1b, neg1b, A1b, c1b, l1b, j1, f1'⟩ := hbq
      have kx_0 : wr.cell? ⟨bx, 0, none⟩ = some (.int .i64 s1a) := cells_of j1 0
      have kx_1 : wr.cell? ⟨bx, 1, none⟩ = some (.bool neg1a) := cells_of j1 1
      have kx_2 : wr.cell? ⟨bx, 2, none⟩ = some (.slice A1a l1a.length c1a) := cells_of j1 2
      have kx_3 : wr.cell? ⟨bx, 3, none⟩ = some (.int .i64 s1b) := cells_of j1 3
      have kx_4 : wr.cell? ⟨bx, 4, none⟩ = some (.bool neg1b) := cells_of j1 4
      have kx_5 : wr.cell? ⟨bx, 5, none⟩ = some (.slice A1b l1b.length c1b) := cells_of j1 5
      have ux_0 := unfrozen_of j1 0
      have ux_1 := unfrozen_of j1 1
      have ux_2 := unfrozen_of j1 2
      have ux_3 := unfrozen_of j1 3
      have ux_4 := unfrozen_of j1 4
      have ux_5 := unfrozen_of j1 5
      have qx := lt_of_block j1
      have F1 := hide f1'; have J1 := hide j1
      obtain ⟨a, ha⟩ : ∃ a, a = gi l t := ⟨_, rfl⟩
      obtain ⟨x, hx⟩ : ∃ x, x = Wd.joinQ (l.drop (t + 1)) := ⟨_, rfl⟩
      rw [← ha] at hct HAD HWt
      rw [← hx] at F1 HIV HAD
      have d3 : decide ((0 : Int) ≤ (t : Int)) = true := decide_eq_true (by omega)
      clear f1' j1 s1 s2 s3 hint hlim sa hT' eiv ha hx hpos
      go_wp2_with fail
      go_region_with (first | (go_at_call 61; refine ((unhide HWt) _).mono ?_; rintro e w' ⟨s2a, neg2a, A2a, c2a, l2a, s2b, neg2b, A2b, c2b, l2b, rfl, g1, g2, hb2⟩; (try (first | replace iq3 := IQ.below iq3 hb2 | replace iq3 := (IQ.below iq3 (Below.drew (Below.refl _ _))).below hb2)); have iq2 := IQ.mk g1 g2; clear g1 g2; have hbw := below_step (w := wr) (by (first | with_reducible assumption | (repeat (first | with_reducible exact Below.refl _ _ | with_reducible assumption | refine Below.drew ?_ | (refine Below.alloc ?_ (by simp <;> omega) _) | refine belowN ?_ _)))) hb2; obtain ⟨hc, hfz⟩ := bcell hbw) | (go_at_call 63; refine ((unhide HIV) s1a neg1a A1a c1a l1a s1b neg1b A1b c1b l1b _ (by (first | with_reducible assumption | (repeat (first | with_reducible exact Below.refl _ _ | with_reducible assumption | refine Below.drew ?_ | (refine Below.alloc ?_ (by simp <;> omega) _) | refine belowN ?_ _)))) ((unhide F1).below (by (first | with_reducible assumption | (repeat (first | with_reducible exact Below.refl _ _ | with_reducible assumption | refine Below.drew ?_ | (refine Below.alloc ?_ (by simp <;> omega) _) | refine belowN ?_ _))))).n ((unhide F1).below (by (first | with_reducible assumption | (repeat (first | with_reducible exact Below.refl _ _ | with_reducible assumption | refine Below.drew ?_ | (refine Below.alloc ?_ (by simp <;> omega) _) | refine belowN ?_ _))))).d).mono ?_; rintro e w' ⟨s3a, neg3a, A3a, c3a, l3a, s3b, neg3b, A3b, c3b, l3b, rfl, g1, g2, hb3⟩; (try (first | replace iq2 := IQ.below iq2 hb3 | replace iq2 := (IQ.below iq2 (Below.drew (Below.refl _ _))).below hb3)); have iq3 := IQ.mk g1 g2; clear g1 g2; have hbw := below_step (w := wr) (by (first | with_reducible assumption | (repeat (first | with_reducible exact Below.refl _ _ | with_reducible assumption | refine Below.drew ?_ | (refine Below.alloc ?_ (by simp <;> omega) _) | refine belowN ?_ _)))) hb3; obtain ⟨hc, hfz⟩ := bcell hbw) | (go_at_call 62; refine ((unhide HAD) s2a neg2a A2a c2a l2a s2b neg2b A2b c2b l2b s3a neg3a A3a c3a l3a s3b neg3b A3b c3b l3b _ (by (first | with_reducible assumption | (repeat (first | with_reducible exact Below.refl _ _ | with_reducible assumption | refine Below.drew ?_ | (refine Below.alloc ?_ (by simp <;> omega) _) | refine belowN ?_ _)))) (IQ.n (q := Rat.divInt a 1) (by first | exact iq2 | exact IQ.below iq2 (Below.drew (Below.refl _ _)))) (IQ.d (q := Rat.divInt a 1) (by first | exact iq2 | exact IQ.below iq2 (Below.drew (Below.refl _ _)))) (IQ.n (q := x⁻¹) (by first | exact iq3 | exact IQ.below iq3 (Below.drew (Below.refl _ _)))) (IQ.d (q := x⁻¹) (by first | exact iq3 | exact IQ.below iq3 (Below.drew (Below.refl _ _))))).mono ?_; rintro e w' ⟨s4a, neg4a, A4a, c4a, l4a, s4b, neg4b, A4b, c4b, l4b, rfl, g1, g2, hb4⟩; have iq4 := IQ.mk g1 g2; clear g1 g2; have hbw := below_step (w := wr) (by (first | with_reducible assumption | (repeat (first | with_reducible exact Below.refl _ _ | with_reducible assumption | refine Below.drew ?_ | (refine Below.alloc ?_ (by simp <;> omega) _) | refine belowN ?_ _)))) hb4; obtain ⟨hc, hfz⟩ := bcell hbw))
      all_goals
        have hst := boxt_store (boxt_below ⟨_, _, _, _, _, _, _, _, _, _, unhide J1, unhide F1⟩ hbw) iq4 (hgr.out.trans (hbw.mono (by omega))) (by omega) (by have := hbw.size; omega)
        clear iq4
        go_wp2_with fail
        go_roundw
        case rel => exact ⟨t, by omega, by first | rfl | go_num, hst.1, hst.2⟩
        case measure => simp [intOf] <;> omega

end Go.Proofs.YtadclbankpmebaaDoor
/- The law of texts and continued fractions that are read back: its walk. -/
namespace Go.Proofs.YtadclbankpmebaaDoor
open Go.RowKit

theorem join_cf {n d : Int} (ok : Wd.okR n d) (A : Option Addr) (cap : Nat) (W : World) (hT : Tab W) (h : Zs W W.heap.size A (Wd.cf (d.toNat + 1) n d)) (hcp : (Wd.cf (d.toNat + 1) n d).length ≤ cap) (hm : cap ≤ 9223372036854775807) :
    Calls Tryd.prog 25 #[.slice A (Wd.cf (d.toNat + 1) n d).length cap] W fun e w' => TolR W ⟨n, d, 0⟩ e w' := by
  obtain ⟨h1, h2⟩ := Wd.cf_ok ok
  have hd := ok.1
  have h3 := Wd.cf_short ok
  have hj := pjoin_ok A cap (Wd.cf (d.toNat + 1) n d) W h hcp hm hT (by omega) h1 h2
  rw [Wd.cf_join _ n d (by omega) (by omega)] at hj
  have e : Wd.told (Rat.divInt n d) = ⟨n, d, 0⟩ := Wd.told_of_ok ok
  rw [e] at hj
  exact hj
set_option maxRecDepth 100000 in
set_option maxHeartbeats 16000000 in
theorem back_bad (n d : Int) (w : World) (hT : Tab w) (ok : ¬ Wd.okR n d) :
    Calls Tryd.prog 5 #[(Value.agg #[.int .i64 n, .int .i64 d])] w fun e w' => e = .returned (.bool true) ∧ Below w.heap.size w w' := by
  have HP := hide (fun W (hW : Tab W) => print_bad n d W hW ok)
  have HKN := hide known_any
  have HT := hide hT
  clear hT ok
  go_enter Tryd.func5, Tryd.ntmps5
  go_wp2_with fail
  obtain ⟨nx, hsz, hw0⟩ := one_new w (.cells #[.int .i64 n, .int .i64 d] 23)
  generalize w.alloc (.cells #[.int .i64 n, .int .i64 d] 23) = W0 at *
  clear hsz nx
  refine ((unhide HP) _ ((unhide HT).below hw0)).mono ?_
  rintro e W1 ⟨rfl, hb⟩
  have hw1 := below_step' hw0 hb
  clear hb hw0
  go_wp2_with fail
  refine ((unhide HKN) _ ((unhide HT).below hw1)).mono ?_
  rintro e W2 ⟨rfl, hb⟩
  have hb9 := below_step' hw1 hb
  clear hb hw1
  go_wp2_with fail
  all_goals first | go_ret | skip
  exact ⟨rfl, hb9⟩
set_option maxRecDepth 100000 in
set_option maxHeartbeats 16000000 in
theorem back_ok (n d : Int) (w : World) (hT : Tab w) (h10 : Ten w) (ok : Wd.okR n d) :
    Calls Tryd.prog 5 #[(Value.agg #[.int .i64 n, .int .i64 d])] w fun e w' => e = .returned (.bool true) ∧ Below w.heap.size w w' := by
  obtain ⟨S, hS⟩ : ∃ S : ByteArray, S = ⟨(Wd.txtL n d).toArray⟩ := ⟨_, rfl⟩
  have hp : ∀ W, Tab W → Ten W → Calls Tryd.prog 22 #[(Value.agg #[.int .i64 n, .int .i64 d])] W fun e w' => e = .returned (.tuple #[.string S, .int .i64 0]) ∧ Below W.heap.size W w' := fun W h1 h2 => by
    rw [hS]
    by_cases hd : d = 1
    · subst hd; exact print_int n W h1 h2 ok
    · exact print_frac n d W h1 h2 ok hd
  have hl : S.data.toList = Wd.txtL n d := by rw [hS]
  have hs : S.size ≤ 100 := by
    obtain ⟨o1, o2, o3, o4, _⟩ := id ok
    have g1 := itoa_len o3 o4
    have g2 := itoa_len (n := d) (by omega) o2
    rw [← sizeB, hl]
    unfold Wd.txtL
    split
    · omega
    · rw [List.length_append, List.length_cons]; omega
  have hpa : ∀ W, Tab W → Calls Tryd.prog 23 #[.string S] W fun e w' => TolR W ⟨n, d, 0⟩ e w' := fun W h1 => by
    have h := parse_any S W h1 (by omega)
    rw [hl, Wd.parse_txt ok] at h
    exact h
  have hne : 0 < (Wd.cf (d.toNat + 1) n d).length := by
    have hd := ok.1
    exact List.length_pos_iff.2 (Wd.cf_ne (by omega) (by omega))
  have HP := hide hp; have HPA := hide hpa
  have HF := hide (fun W (hW : Tab W) => pfrac_ok n d W hW ok)
  have HJ := hide (fun A cap W hT h hcp hm => join_cf (n := n) (d := d) ok A cap W hT h hcp hm)
  obtain ⟨L, hL⟩ : ∃ L, L = Wd.cf (d.toNat + 1) n d := ⟨_, rfl⟩
  rw [← hL] at HF HJ hne
  have HNE := hide hne
  have HKN := hide known_any
  have HT := hide hT; have H10 := hide h10
  clear hT h10 ok hp hpa hl hs hS hL hne
  go_enter Tryd.func5, Tryd.ntmps5
  go_wp2_with fail
  obtain ⟨nx, hsz, hw0⟩ := one_new w (.cells #[.int .i64 n, .int .i64 d] 23)
  generalize w.alloc (.cells #[.int .i64 n, .int .i64 d] 23) = W0 at *
  have jx := hide nx; have HB := Lib.hid hw0
  clear hsz nx
  refine ((unhide HP) _ ((unhide HT).below hw0) ((unhide H10).below hw0)).mono ?_
  rintro e W1 ⟨rfl, hb⟩
  replace jx := hide ((hb.block _ (lt_of_block (unhide jx))).trans (unhide jx))
  replace HB := Lib.hid (below_step' HB.out hb)
  clear hb hw0
  go_wp2_with fail
  refine ((unhide HPA) _ ((unhide HT).below HB.out)).mono ?_
  rintro e V2 ⟨rfl, hb⟩
  go_upto_region 5 with fail
  have hn := heap_alloc_new V2 (.cells #[.int .i64 n, .int .i64 d] 23)
  replace hb := below_step' hb (below_alloc (Below.refl V2.heap.size V2) (.cells #[.int .i64 n, .int .i64 d] 23))
  generalize V2.alloc (.cells #[.int .i64 n, .int .i64 d] 23) = W2 at *
  obtain ⟨b5, hbn⟩ : ∃ b, b = V2.heap.size := ⟨_, rfl⟩
  rw [← hbn] at hn ⊢
  clear hbn
  replace jx := hide ((hb.block _ (lt_of_block (unhide jx))).trans (unhide jx))
  replace HB := Lib.hid (below_step' HB.out hb)
  have jy := hide hn
  clear hn hb
  have kx0 : W2.cell? ⟨w.heap.size, 0, none⟩ = some (.int .i64 n) := cells_of (unhide jx) 0
  have kx1 : W2.cell? ⟨w.heap.size, 1, none⟩ = some (.int .i64 d) := cells_of (unhide jx) 1
  go_wp2_with fail
  refine ((unhide HF) _ ((unhide HT).below HB.out)).mono ?_
  rintro e W3 ⟨v, rfl, hown, hb⟩
  replace jx := hide ((hb.block _ (lt_of_block (unhide jx))).trans (unhide jx))
  replace jy := hide ((hb.block _ (lt_of_block (unhide jy))).trans (unhide jy))
  replace HB := Lib.hid (below_step' HB.out hb)
  clear hb kx0 kx1
  rcases own_cell hown with ⟨h0, _⟩ | ⟨g, cap, rfl, hge, hcp, hcm, hlt, hcell⟩
  · exfalso; have := unhide HNE; rw [h0] at this; exact absurd this (by decide)
  have hz : Zs W3 W3.heap.size (some ⟨g, 0, none⟩) L := fun _ => ⟨g, 0, rfl, hlt, fun j hj => by rw [Nat.zero_add, gi_def]; exact hcell j hj⟩
  have hcm' : cap ≤ 9223372036854775807 := hcm
  have HJ2 := hide ((unhide HJ) (some ⟨g, 0, none⟩) cap W3 ((unhide HT).below HB.out) hz hcp hcm')
  clear hown hge hcp hcm hlt hcell hz hcm' HJ HF HP HPA HNE
  go_wp2_with fail
  refine (unhide HJ2).mono ?_
  rintro e V4 ⟨rfl, hb⟩
  go_upto_region 7 with fail
  have hn := heap_alloc_new V4 (.cells #[.int .i64 n, .int .i64 d] 23)
  replace hb := below_step' hb (below_alloc (Below.refl V4.heap.size V4) (.cells #[.int .i64 n, .int .i64 d] 23))
  generalize V4.alloc (.cells #[.int .i64 n, .int .i64 d] 23) = W4 at *
  obtain ⟨b8, hbn⟩ : ∃ b, b = V4.heap.size := ⟨_, rfl⟩
  rw [← hbn] at hn ⊢
  clear hbn HJ2
  replace jx := hide ((hb.block _ (lt_of_block (unhide jx))).trans (unhide jx))
  replace jy := hide ((hb.block _ (lt_of_block (unhide jy))).trans (unhide jy))
  replace HB := Lib.hid (below_step' HB.out hb)
  have kx0 : W4.cell? ⟨w.heap.size, 0, none⟩ = some (.int .i64 n) := cells_of (unhide jx) 0
  have kx1 : W4.cell? ⟨w.heap.size, 1, none⟩ = some (.int .i64 d) := cells_of (unhide jx) 1
  have ky0 : W4.cell? ⟨b5, 0, none⟩ = some (.int .i64 n) := cells_of (unhide jy) 0
  have ky1 : W4.cell? ⟨b5, 1, none⟩ = some (.int .i64 d) := cells_of (unhide jy) 1
  have kz0 : W4.cell? ⟨b8, 0, none⟩ = some (.int .i64 n) := cells_of hn 0
  have kz1 : W4.cell? ⟨b8, 1, none⟩ = some (.int .i64 d) := cells_of hn 1
  clear hn hb jx jy
  go_wp2_with fail
  refine ((unhide HKN) _ ((unhide HT).below HB.out)).mono ?_
  rintro e W5 ⟨rfl, hb⟩
  have hb9 := below_step' HB.out hb
  clear hb
  go_wp2_with fail
  all_goals first | go_ret | skip
  exact ⟨rfl, hb9⟩
end Go.Proofs.YtadclbankpmebaaDoor
/- The frame of the laws' rows: numbers as arguments; the listed table; a call that only makes new memory. -/
namespace Go.Proofs.YtadclbankpmebaaDoor
open Go.Joins Go.ChangeShapes Go.WideShapes Go.ChangeAt Go.RowKit

theorem own : ownKnob Tryd.prog.godebug = none := by kernel_rfl
set_option maxRecDepth 100000 in
/-- A number as an argument: two ints. -/
theorem open_rat {H : Type} {enc : TypeId × Value → H} {w : World} {base : Nat} {spare : Nat → Bool} {held : Bool} {r : Reach} {b0 : Nat} {v : Value} {d : DataW H} {p : List MemPlace}
    (hv : Value.okWide Tryd.prog w r b0 23 v) (h : DataW.Trod enc Tryd.prog w base spare held 23 v d p) :
    ∃ n m : Int, v = .agg #[.int .i64 n, .int .i64 m] ∧ d = .agg [.lit (.int .i64 n), .lit (.int .i64 m)] ∧ p = [] ∧ (Lit.int .i64 n).wf = true ∧ (Lit.int .i64 m).wf = true := by
  obtain ⟨v0, v1, y0, y1, k, rfl, rfl, rfl, h0, h1⟩ := open_agg2 Tryd.underlying23 (by kernel_rfl) (by kernel_rfl) hv h
  obtain ⟨n, e0, rfl, w0⟩ := DataW.trod_int Tryd.underlying3 h0
  obtain ⟨m, e1, rfl, w1⟩ := DataW.trod_int Tryd.underlying3 h1
  simp only [List.cons.injEq, and_true] at e0 e1
  subst e0 e1
  exact ⟨n, m, rfl, rfl, rfl, w0, w1⟩
set_option maxRecDepth 100000 in
theorem shut_rat {H : Type} {enc : TypeId × Value → H} {w : World} {base : Nat} {spare : Nat → Bool} {held : Bool} {n m : Int} (w0 : (Lit.int .i64 n).wf = true) (w1 : (Lit.int .i64 m).wf = true) :
    DataW.Trod enc Tryd.prog w base spare held 23 (.agg #[.int .i64 n, .int .i64 m]) (.agg [.lit (.int .i64 n), .lit (.int .i64 m)]) [] := by
  have i0 : ∀ k : Int, (Lit.int .i64 k).wf = true → ∃ f, DataW.trod enc Tryd.prog w base spare held f 3 [.int .i64 k] = some (.lit (.int .i64 k), []) := fun k hk => shut_int Tryd.underlying3 hk
  exact shut_agg2 (y0 := (.lit (.int .i64 n), [])) (y1 := (.lit (.int .i64 m), [])) Tryd.underlying23 (by kernel_rfl) (by kernel_rfl) (i0 n w0) (i0 m w1)
/-- A call that only makes new memory, and hands back what the law asks. -/
theorem post_below {H : Type} {enc : TypeId × Value → H} {P : Program} {f : Func} {s : ChangeSpec} {apart : Bool} {W W' : World} {args : Array Value} {v : Value} {ds gs : List (DataW H)}
    (hW : DataW.Whole enc P f.params.toList s.vars apart W args.toList ds gs [])
    (hres : DataW.TrodAll enc P W' W.heap.size (fun _ => false) false f.resultTypes.toList (v.resultList f.resultTypes.size) (s.fn H (ds ++ gs)).results [])
    (hargs : DataW.TrodAll enc P W' 0 (fun b => decide (b < W.heap.size)) true f.params.toList args.toList (s.fn H (ds ++ gs)).args [])
    (hvars : DataW.TrodVars enc P W' (fun b => decide (b < W.heap.size)) s.vars (s.fn H (ds ++ gs)).vars []) (hb : Below W.heap.size W W') :
    s.post enc P f apart true false false W args v W' :=
  ⟨ds, gs, [], [], [], [], hW, hres, hargs, hvars, hb.frame _, fun h => by cases h⟩
end Go.Proofs.YtadclbankpmebaaDoor
/- The frame of rows that list three tables. -/
namespace Go.Proofs.YtadclbankpmebaaDoor
open Go.Joins Go.ChangeShapes Go.WideShapes Go.ChangeAt Go.RowKit

/-- What the row lists: three tables. -/
def laidB {H : Type} : List (String × DataW H) := [("math/bits.deBruijn32tab", Rows.laid_math_bits_deBruijn32tab), ("math/bits.deBruijn64tab", Rows.laid_math_bits_deBruijn64tab), ("internal/strconv.uint64pow10", Rows.laid_internal_strconv_uint64pow10)]
theorem tab64_eq : (Rows.laid_math_bits_deBruijn64tab : DataW Unit) = Lib.tabData .u8 (Lib.deBruijn64tab.map fun (n : Nat) => (n : Int)) := by kernel_rfl
theorem ten_eq : (Rows.laid_internal_strconv_uint64pow10 : DataW Unit) = Lib.tabData .u64 Lib.pow10Tab := by kernel_rfl
theorem getD_cast (l : List Nat) (j : Nat) : (l.map fun (n : Nat) => (n : Int)).getD j 0 = ((l.getD j 0 : Nat) : Int) := by
  rw [List.getD_eq_getElem?_getD, List.getD_eq_getElem?_getD, List.getElem?_map]
  cases l[j]? <;> rfl
theorem tabs_of {W : World} (h : laidMetH Tryd.prog laidB W) : Tab W ∧ Ten W := by
  rw [MakeChecks.laidMetH_plain _ _ _ (by kernel_rfl)] at h
  have h2 : laidMet Tryd.prog (("math/bits.deBruijn64tab", Rows.laid_math_bits_deBruijn64tab) :: [("internal/strconv.uint64pow10", Rows.laid_internal_strconv_uint64pow10)]) W := laidMet.tail h
  have h3 : laidMet Tryd.prog (("internal/strconv.uint64pow10", Rows.laid_internal_strconv_uint64pow10) :: []) W := laidMet.tail h2
  rw [tab64_eq] at h2
  rw [ten_eq] at h3
  have g64 : Tryd.prog.globalNamed "math/bits.deBruijn64tab" = some 0 := by kernel_rfl
  have t64 := Lib.tabIs_of_head g64 (show (Tryd.prog.globals[0]?).map (·.type) = some 130 by kernel_rfl) Tryd.underlying130 Tryd.underlying5 (by kernel_rfl) (by kernel_rfl) h2
  have t10 := Lib.tabIs_of_head (show Tryd.prog.globalNamed "internal/strconv.uint64pow10" = some 1 by kernel_rfl) (show (Tryd.prog.globals[1]?).map (·.type) = some 153 by kernel_rfl) Tryd.underlying153 Tryd.underlying68 (by kernel_rfl) (by kernel_rfl) h3
  have cell : ∀ j, j < Lib.deBruijn64tab.length → W.cell? ⟨0, j, none⟩ = some (.int .u8 (Lib.deBruijn64tab.getD j 0)) := fun j hj => by
    have := t64.cell g64 j (by rw [List.length_map]; exact hj)
    rwa [getD_cast] at this
  refine ⟨⟨cell, ?_⟩, Lib.tabBelow_of_tabIs t10⟩
  have h0 := cell 0 (by decide)
  rcases Nat.lt_or_ge 0 W.heap.size with hlt | hge
  · exact hlt
  · simp [World.cell?, Array.getElem?_eq_none hge] at h0
end Go.Proofs.YtadclbankpmebaaDoor
