/- For every two numbers and two ints: no number between the two has a lesser denominator than the program's simplest one, and the program's nearest number is no farther than any other of its denominators (RatLeast). Condition: the package-level variable math/bits.deBruijn64tab holds what the program's text lays in it (the card ties that to the text). -/
import Derived.Test.YtadclbankpmebaaDoorCe13
import Derived.Test.YtadclbankpmebaaDoorTie
import Derived.Test.YtadclbankpmebaaDoorCards
import Derived.SevenTiedAt
import Derived.Carry
namespace Go.Proofs.YtadclbankpmebaaDoor
open Go.ChangeShapes Go.WideShapes Go.ChangeAt Go.RowKit

/-- The law, for every two pairs of ints and two ints. -/
theorem least_any (n1 d1 n2 d2 n d : Int) (w : World) (hT : Tab w) (b1 : -9223372036854775808 ≤ n) (b2 : n ≤ 9223372036854775807) (b3 : -9223372036854775808 ≤ d) (b4 : d ≤ 9223372036854775807) :
    Calls Tryd.prog 4 #[(Value.agg #[.int .i64 n1, .int .i64 d1]), (Value.agg #[.int .i64 n2, .int .i64 d2]), .int .i64 n, .int .i64 d] w fun e w' => e = .returned (.bool true) ∧ Below w.heap.size w w' := by
  by_cases h0 : d < 1
  · exact ls_out0 n1 d1 n2 d2 n d w hT h0
  by_cases h1 : 1000000000000 < d
  · exact ls_out1 n1 d1 n2 d2 n d w hT h0 h1
  by_cases h2 : n < -1000000000000
  · exact ls_out2 n1 d1 n2 d2 n d w hT h0 h1 h2
  by_cases h3 : 1000000000000 < n
  · exact ls_out3 n1 d1 n2 d2 n d w hT h0 h1 h2 h3
  have sq : Wd.SzQ B32 2 (Rat.divInt n d) := szq_div (by omega) (sz_num (by omega) (by omega)) (sz_num (by omega) (by omega))
  obtain ⟨o1, ho1⟩ : ∃ o, o = sgn ((Rat.divInt n d).num * ((Wd.qR n1 d1).den : Int) - (Wd.qR n1 d1).num * ((Rat.divInt n d).den : Int)) := ⟨_, rfl⟩
  obtain ⟨o2, ho2⟩ : ∃ o, o = sgn ((Rat.divInt n d).num * ((Wd.qR n2 d2).den : Int) - (Wd.qR n2 d2).num * ((Rat.divInt n d).den : Int)) := ⟨_, rfl⟩
  refine least_walk n1 d1 n2 d2 n d (Wd.simpT n1 d1 n2 d2).n (Wd.simpT n1 d1 n2 d2).d (Wd.simpT n1 d1 n2 d2).e o1 o2
    (Rat.divInt n d) (Wd.qR n1 d1) (Wd.qR n2 d2) (decide ((Wd.simpT n1 d1 n2 d2).e = 0 ∧ 0 ≤ o1 ∧ o2 ≤ 0)) w hT h0 h1 h2 h3 (fun W hW => pSimplest_any n1 d1 n2 d2 W hW) (fun W => thalf_any n d W b1 b2 b3 b4 (by omega))
    (fun A1 c1 l1 m1 A2 c2 l2 m2 W f g => tRat_any A1 c1 l1 m1 A2 c2 l2 m2 _ W f g) ?_ ?_ ?_
  · by_cases he : (Wd.simpT n1 d1 n2 d2).e = 0
    · obtain ⟨k1, k2⟩ := Wd.simpT_ok he
      refine .inr ⟨he, fun W => of_ok k1 W, fun W => of_ok k2 W, ho1 ▸ ocq sq (okR_szq k1) (by omega), ho2 ▸ ocq sq (okR_szq k2) (by omega), ?_⟩
      rcases Int.lt_or_le o1 0 with hl | hl
      · exact .inl ⟨hl, decide_eq_false (fun h => by omega)⟩
      · rcases Int.lt_or_le 0 o2 with hr | hr
        · exact .inr (.inl ⟨hl, hr, decide_eq_false (fun h => by omega)⟩)
        · exact .inr (.inr ⟨hl, hr, decide_eq_true ⟨he, hl, hr⟩, trivial⟩)
    · exact .inl ⟨he, decide_eq_false (fun h => he h.1)⟩
  · intro hcb vn vd ht
    obtain ⟨he, hl, hr⟩ := of_decide_eq_true hcb
    obtain ⟨k1, k2⟩ := Wd.simpT_ok he
    obtain ⟨e1, e2⟩ := Wd.qR_ok k1
    obtain ⟨e3, e4⟩ := Wd.qR_ok k2
    rw [ho1, e1, e2] at hl
    rw [ho2, e3, e4] at hr
    have hk := Wd.told_ok (q := Rat.divInt n d) (by rw [ht])
    rw [ht] at hk
    obtain ⟨ok, hq⟩ := hk
    obtain ⟨e5, e6⟩ := Wd.qR_ok ok
    dsimp only at *
    rw [hq] at e5 e6
    rw [e5, e6] at hl hr
    have := Wd.simpT_least he ok (by have := sgn_ge hl; omega) (by have := sgn_le hr; omega)
    omega
  · intro W hW
    refine (near_any n1 d1 d W hW).mono ?_
    rintro e w' ⟨nn, nd, z, hcase, he, hb⟩
    refine ⟨nn, nd, z, ?_, he, hb⟩
    rcases hcase with ⟨ok, g1, g2, hO, rfl⟩ | ⟨_, _, _, rfl⟩
    · obtain ⟨oa, hle⟩ := hO.ok ok
      have hfar := hO.far ok n d (by omega) (by omega)
      refine .inr ⟨rfl, Wd.qR nn nd, Wd.qR n1 d1, _, _, _, _, _, hle, ?_, fun W => of_ok ok W, fun W => of_ok oa W, os_ (okR_szq oa) (okR_szq ok) (by omega), oa_ _, os_ sq (okR_szq ok) (by omega), oa_ _, ocq (szq_far oa ok) (szq_far2 (by omega) (sz_num (by omega) (by omega)) (sz_num (by omega) (by omega)) ok) (by omega)⟩
      exact sgn_le_of hfar
    · exact .inl (by decide)

set_option maxRecDepth 100000 in
theorem least_lifted (os : Os) (started : os.Started) (H : Type) (enc : TypeId × Value → H) :
    ReturnsInHanded {} Tryd.checked os 4 .any (fun w args => (Rows.ratLeastSpec.pre enc Tryd.prog Tryd.f4 [] false w args ∧ laidMetH Tryd.prog laidL w) ∧ sizedMet enc Tryd.prog Tryd.f4 (OpenSpec.ofChange Rows.ratLeastSpec) false w args)
      (Rows.ratLeastSpec.post enc Tryd.prog Tryd.f4 false true false false) := by
  refine returnsInHanded_of_change_and (C := Tryd.checked) (X := fun w _ => laidMetH Tryd.prog laidL w) (fun _ _ _ hh h => h.of_heap hh) own started (by kernel_rfl) Tryd.func4
    (ChangeSpec.witness_shaped (enc := enc) (C := Tryd.checked) (os := os) (X := fun w _ => laidMetH Tryd.prog laidL w) false (World.laidAll Tryd.prog os laidL) #[.agg #[.int .i64 0, .int .i64 0], .agg #[.int .i64 0, .int .i64 0], .int .i64 0, .int .i64 0] 8 (World.laidAll_os _ _ _)
      (World.shaped_of_ZipB (by kernel_rfl) (by kernel_rfl)) (by kernel_rfl) (by kernel_rfl) (by kernel_rfl)
      (by rw [MakeChecks.laidMetH_plain _ _ _ (by kernel_rfl)]; exact laidMet_laidAll _ (by kernel_rfl) (by kernel_rfl))) ?_
  intro W base args ds gs before hval0 hW _ _ hL _
  have hval : ∀ (j : Nat) t v, Tryd.f4.params[j]? = some t → args[j]? = some v → Value.okWide Tryd.prog W .any base t v := hval0
  have hW' := hW
  obtain ⟨p, q, hA0, hV, rfl, _, _⟩ := hW
  have hA : DataW.TrodAll enc Tryd.prog W 0 (fun _ => true) true Tryd.f4.params.toList args.toList ds p := hA0
  rw [Tryd.params4] at hA hval
  obtain ⟨v0, v1, v2, v3, d0, d1, d2, d3, p0, p1, p2, p3, rfl, rfl, rfl, h0, h1, h2, h3⟩ := trodAll_four hA
  obtain ⟨rfl, rfl⟩ := trodVars_none hV
  obtain ⟨n1, m1, rfl, rfl, rfl, wn1, wm1⟩ := open_rat (hval 0 23 v0 rfl rfl) h0
  obtain ⟨n2, m2, rfl, rfl, rfl, wn2, wm2⟩ := open_rat (hval 1 23 v1 rfl rfl) h1
  obtain ⟨n, rfl, rfl, rfl, wn⟩ := open_int Tryd.underlying3 (hval 2 3 v2 rfl rfl) h2
  obtain ⟨d, rfl, rfl, rfl, wd⟩ := open_int Tryd.underlying3 (hval 3 3 v3 rfl rfl) h3
  clear hA0 hval0
  simp only [List.append_nil] at hW'
  have bn := wf_bounds wn
  have bd := wf_bounds wd
  refine (least_any n1 m1 n2 m2 n d W (tab_of hL) bn.1 bn.2 bd.1 bd.2).mono fun e W' ⟨he, hb⟩ => ?_
  subst he
  exact ⟨_, rfl, post_below hW' (trodAll_mk1 (shut_bool Tryd.underlying4 _)) (trodAll_mk4 (shut_rat wn1 wm1) (shut_rat wn2 wm2) (shut_int Tryd.underlying3 wn) (shut_int Tryd.underlying3 wd)) rfl hb⟩

theorem least_row : Rows.RatLeastSaid :=
  OpenClaim.holds_of_wide 4 Tryd.f4 rfl rfl rfl rfl rfl rfl rfl ⟨rfl, rfl, rfl, rfl, rfl⟩ rfl rfl rfl rfl rfl (by kernel_rfl) Tryd.func4 (by kernel_rfl)
    (of_decide_eq_true (by kernel_rfl)) (by unfold Func.isWrapper; first | (rw [if_pos (by decide +kernel)]; kernel_rfl) | (rw [if_neg (by decide +kernel)]; exact ⟨rfl, rfl⟩))
    (fun os started H enc _ => least_lifted os started H enc)

/-- The statement. -/
theorem ratLeast_holds : Rows.RatLeastCardSaid :=
  Claim7.holds_tied_plain_at .later [] [.data] true (true, _) false
    least_row (fun _ h => by cases h) (by kernel_rfl) (fun _ h => by cases h) ratLeast_row_tie rfl ⟨rfl, rfl⟩ (by kernel_rfl) rfl
    (fun f fn hf hfn => by
      obtain rfl : f = 4 := Option.some.inj ((show Tryd.prog.funcNamed "isocline/isoclinelaw01.RatLeast" = some 4 by kernel_rfl).symm.trans hf) |>.symm
      obtain rfl : fn = Tryd.f4 := (Option.some.inj (Tryd.func4.symm.trans hfn)).symm
      exact ⟨by kernel_rfl, fun j t ht => by
        rw [Tryd.params4] at ht
        have hm : t ∈ [23, 23, 3, 3] := by simpa using Array.mem_of_getElem? ht
        have hall : ([23, 23, 3, 3].all fun u => !Tryd.prog.wantsStandIn u) = true := by kernel_rfl
        exact (show Tryd.prog.wantsStandIn t = false by simpa using List.all_eq_true.1 hall t hm)⟩)
    (by kernel_rfl)
#print axioms ratLeast_holds
end Go.Proofs.YtadclbankpmebaaDoor
