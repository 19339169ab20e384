/- Texts beneath a law of layer 1. -/
import Derived.Test.YtfbcdfoohpkfeaaGreatDoorCq18
import Derived.Test.YtfbcdfoohpkfeaaGreatDoorRows
import Derived.ProofKit
import Derived.OpenShut
import Derived.LaidMore
import Derived.Lay
import Derived.Lib.SmallJoins
import Derived.Stop.Joined
set_option maxRecDepth 100000
namespace Go.Proofs.YtfbcdfoohpkfeaaGreatDoor
open Go.Joins Go.ChangeShapes Go.WideShapes Go.ChangeAt Go.RowKit

theorem own : ownKnob Tryz.prog.godebug = none := by kernel_rfl
def Ze {H : Type} : List (String × DataW H) := [("math/bits.deBruijn64tab", Rows.laid_math_bits_deBruijn64tab)]
theorem atb : (Rows.laid_math_bits_deBruijn64tab : DataW Unit) = .agg (Lib.deBruijn64tab.map fun (n : Nat) => .lit (.int .u8 (n : Int))) := by kernel_rfl
theorem bai {W : World} (h : laidMetH Tryz.prog Ze W) : xg W := by
 rw [MakeChecks.laidMetH_plain _ _ _ kr] at h
 obtain ⟨ps, ⟨g, t, cs, fuel, p, q, hg, ht, hv, hd, _, _⟩, _, _⟩ := h
 obtain rfl := Option.some.inj ((show Tryz.prog.globalNamed "math/bits.deBruijn64tab" = some 0 by kernel_rfl).symm.trans hg)
 obtain rfl := Option.some.inj ((show (Tryz.prog.globals[0]?).map (·.type) = some 180 by kernel_rfl).symm.trans ht)
 obtain ⟨xs, m, _, ex, hcl, hl, hel⟩ := DataW.trod_array Tryz.underlying180 hd
 have c5 : Tryz.prog.cellsOf 5 = 1 := by kernel_rfl
 have hlen : Lib.deBruijn64tab.length = 64 := by kernel_rfl
 rw [atb] at ex
 have e3 : (xs.map (·.1)) = Lib.deBruijn64tab.map fun (n : Nat) => .lit (.int .u8 (n : Int)) := (DataW.agg.inj (Prod.mk.inj ex).1).symm
 have cell : ∀ r : Nat, r < 64 → W.cell? ⟨0, r, none⟩ = some (.int .u8 (Lib.deBruijn64tab.getD r 0)) := fun r hr => by
  have hE := hel r hr
  rw [c5, Nat.mul_one, List.getElem?_eq_getElem om] at hE
  obtain ⟨z, e1, e2, _⟩ := DataW.trod_int Tryz.underlying5 hE
  have e4 : (xs.map (·.1))[r]? = (Lib.deBruijn64tab.map fun (n : Nat) => (DataW.lit (.int .u8 (n : Int)) : DataW Unit))[r]? := by rw [e3]
  rw [List.getElem?_map, List.getElem?_map, List.getElem?_eq_getElem (by omega : r < xs.length), List.getElem?_eq_getElem (by omega : r < Lib.deBruijn64tab.length), e2] at e4
  have hz : z = (Lib.deBruijn64tab.getD r 0 : Nat) := by
   simp only [Option.map_some, Option.some.injEq, DataW.lit.injEq, Lit.int.injEq, true_and] at e4
   rw [e4, List.getD, List.getElem?_eq_getElem (by omega : r < Lib.deBruijn64tab.length)]; rfl
  rw [World.var?_cell hg hv r, ← hz]
  have : cs.toList[r]? = some (.int .u8 z) := by
   have h0 : ((cs.toList.drop r).take 1)[0]? = some (.int .u8 z) := by rw [e1]; rfl
   simpa using h0
  simpa using this
 refine ⟨fun j hj => cell j om, ?_⟩
 have h0 := cell 0 om
 rcases Nat.lt_or_ge 0 W.heap.size with hlt | hge
 ·
  exact hlt
 ·
  simp [World.cell?, Array.getElem?_eq_none hge] at h0

theorem aty {H : Type} {enc : TypeId × Value → H} {w : World} {base : Nat} {spare : Nat → Bool} {held : Bool} {r : Reach} {b0 : Nat} {v : Value} {d : DataW H} {p : List MemPlace}
  (hv : Value.okWide Tryz.prog w r b0 23 v) (h : DataW.Trod enc Tryz.prog w base spare held 23 v d p) :
  ∃ n m : Int, v = .agg #[.int .i64 n, .int .i64 m] ∧ d = .agg [.lit (.int .i64 n), .lit (.int .i64 m)] ∧ p = [] ∧ (Lit.int .i64 n).wf = true ∧ (Lit.int .i64 m).wf = true := by
 obtain ⟨v0, v1, y0, y1, k, rfl, rfl, rfl, h0, h1⟩ := open_agg2 Tryz.underlying23 kr kr hv h
 obtain ⟨n, e0, rfl, w0⟩ := DataW.trod_int Tryz.underlying3 h0
 obtain ⟨m, e1, rfl, w1⟩ := DataW.trod_int Tryz.underlying3 h1
 simp only [List.cons.injEq, and_true] at e0 e1
 subst e0 e1
 exact ⟨n, m, rfl, rfl, rfl, w0, w1⟩
theorem ate {H : Type} {enc : TypeId × Value → H} {w : World} {base : Nat} {spare : Nat → Bool} {held : Bool} {n m : Int} (w0 : (Lit.int .i64 n).wf = true) (w1 : (Lit.int .i64 m).wf = true) :
  DataW.Trod enc Tryz.prog w base spare held 23 (.agg #[.int .i64 n, .int .i64 m]) (.agg [.lit (.int .i64 n), .lit (.int .i64 m)]) [] := by
 have i0 : ∀ k : Int, (Lit.int .i64 k).wf = true → ∃ f, DataW.trod enc Tryz.prog w base spare held f 3 [.int .i64 k] = some (.lit (.int .i64 k), []) := fun k hk => shut_int Tryz.underlying3 hk
 exact shut_agg2 (y0 := (.lit (.int .i64 n), [])) (y1 := (.lit (.int .i64 m), [])) Tryz.underlying23 kr kr (i0 n w0) (i0 m w1)
theorem aky {H : Type} {enc : TypeId × Value → H} {P : Program} {f : Func} {s : ChangeSpec} {apart : Bool} {W W' : World} {args : Array Value} {v : Value} {ds gs : List (DataW H)}
  (hW : DataW.Whole enc P f.params.toList s.vars apart W args.toList ds gs [])
  (hres : DataW.TrodAll enc P W' W.heap.size (fun _ => false) false f.resultTypes.toList (v.resultList f.resultTypes.size) (s.fn H (ds ++ gs)).results [])
  (hargs : DataW.TrodAll enc P W' 0 (fun b => decide (b < W.heap.size)) true f.params.toList args.toList (s.fn H (ds ++ gs)).args [])
  (hvars : DataW.TrodVars enc P W' (fun b => decide (b < W.heap.size)) s.vars (s.fn H (ds ++ gs)).vars []) (hb : Below W.heap.size W W') :
  s.post enc P f apart true false false W args v W' :=
 ⟨ds, gs, [], [], [], [], hW, hres, hargs, hvars, hb.frame _, fun h => by cases h⟩
end Go.Proofs.YtfbcdfoohpkfeaaGreatDoor
namespace Go.Proofs.YtfbcdfoohpkfeaaGreatDoor
open Go.Joins Go.ChangeShapes Go.WideShapes Go.ChangeAt Go.RowKit

theorem acb {H : Type} {enc : TypeId × Value → H} {w : World} {base : Nat} {spare : Nat → Bool} {held : Bool} {r : Reach} {b0 : Nat} {v : Value} {d : DataW H} {p : List MemPlace}
  (hv : Value.okWide Tryz.prog w r b0 41 v) (h : DataW.Trod enc Tryz.prog w base spare held 41 v d p) :
  ∃ a b c e : Int, v = .agg #[.int .i64 a, .int .i64 b, .int .i64 c, .int .i64 e] ∧ d = .agg [.agg [.lit (.int .i64 a), .lit (.int .i64 b)], .agg [.lit (.int .i64 c), .lit (.int .i64 e)]] ∧ p = [] ∧
   (Lit.int .i64 a).wf = true ∧ (Lit.int .i64 b).wf = true ∧ (Lit.int .i64 c).wf = true ∧ (Lit.int .i64 e).wf = true := by
 obtain ⟨cs, rfl, hsz⟩ := okWide_struct Tryz.underlying41 hv
 obtain ⟨c0, c1, c2, c3, rfl⟩ := array4 (hsz.trans (show Tryz.prog.cellsOf 41 = 4 by kernel_rfl))
 obtain ⟨fuel, hf⟩ := h
 obtain ⟨y0, y1, n, hx, _, h0, h1⟩ := trod_struct2 Tryz.underlying41 hf
 have k2 : Tryz.prog.cellsOf 23 = 2 := by kernel_rfl
 have k1 : Tryz.prog.cellsOf 3 = 1 := by kernel_rfl
 have h0' : DataW.trod enc Tryz.prog w base spare held n 23 [c0, c1] = some y0 := by simpa [Value.cells, k2] using h0
 have h1' : DataW.trod enc Tryz.prog w base spare held n 23 [c2, c3] = some y1 := by simpa [Value.cells, k2] using h1
 obtain ⟨z0, z1, m, hy, _, g0, g1⟩ := trod_struct2 Tryz.underlying23 h0'
 obtain ⟨z2, z3, m', hy', _, g2, g3⟩ := trod_struct2 Tryz.underlying23 h1'
 have g0' : DataW.trod enc Tryz.prog w base spare held m 3 [c0] = some z0 := by simpa [k1] using g0
 have g1' : DataW.trod enc Tryz.prog w base spare held m 3 [c1] = some z1 := by simpa [k1] using g1
 have g2' : DataW.trod enc Tryz.prog w base spare held m' 3 [c2] = some z2 := by simpa [k1] using g2
 have g3' : DataW.trod enc Tryz.prog w base spare held m' 3 [c3] = some z3 := by simpa [k1] using g3
 obtain ⟨a, e0, rfl, w0⟩ := DataW.trod_int Tryz.underlying3 g0'
 obtain ⟨b, e1, rfl, w1⟩ := DataW.trod_int Tryz.underlying3 g1'
 obtain ⟨c, e2, rfl, w2⟩ := DataW.trod_int Tryz.underlying3 g2'
 obtain ⟨e, e3, rfl, w3⟩ := DataW.trod_int Tryz.underlying3 g3'
 simp only [List.cons.injEq, and_true] at e0 e1 e2 e3
 subst e0 e1 e2 e3 hy hy'
 simp only [Prod.mk.injEq] at hx
 exact ⟨a, b, c, e, rfl, hx.1, by simpa using hx.2, w0, w1, w2, w3⟩
theorem aca {H : Type} {enc : TypeId × Value → H} {w : World} {base : Nat} {spare : Nat → Bool} {held : Bool} {a b c e : Int} (w0 : (Lit.int .i64 a).wf = true) (w1 : (Lit.int .i64 b).wf = true) (w2 : (Lit.int .i64 c).wf = true) (w3 : (Lit.int .i64 e).wf = true) :
  DataW.Trod enc Tryz.prog w base spare held 41 (.agg #[.int .i64 a, .int .i64 b, .int .i64 c, .int .i64 e]) (.agg [.agg [.lit (.int .i64 a), .lit (.int .i64 b)], .agg [.lit (.int .i64 c), .lit (.int .i64 e)]]) [] := by
 have k4 : Tryz.prog.cellsOf 41 = 4 := by kernel_rfl
 have k2 : Tryz.prog.cellsOf 23 = 2 := by kernel_rfl
 have k1 : Tryz.prog.cellsOf 3 = 1 := by kernel_rfl
 have i0 : ∀ k : Int, (Lit.int .i64 k).wf = true → DataW.trod enc Tryz.prog w base spare held 1 3 [.int .i64 k] = some (.lit (.int .i64 k), []) := fun k hk => trod_int_mk 0 Tryz.underlying3 hk
 have r1 := trod_struct2_mk (enc := enc) (P := Tryz.prog) (w := w) (base := base) (spare := spare) (held := held) (n := 1) (cs := [.int .i64 a, .int .i64 b]) (y0 := (.lit (.int .i64 a), [])) (y1 := (.lit (.int .i64 b), [])) Tryz.underlying23 (by simp [k2])
  (by simpa [k1] using i0 a w0) (by simpa [k1] using i0 b w1)
 have r2 := trod_struct2_mk (enc := enc) (P := Tryz.prog) (w := w) (base := base) (spare := spare) (held := held) (n := 1) (cs := [.int .i64 c, .int .i64 e]) (y0 := (.lit (.int .i64 c), [])) (y1 := (.lit (.int .i64 e), [])) Tryz.underlying23 (by simp [k2])
  (by simpa [k1] using i0 c w2) (by simpa [k1] using i0 e w3)
 have r3 := trod_struct2_mk (enc := enc) (P := Tryz.prog) (w := w) (base := base) (spare := spare) (held := held) (n := 2) (cs := [.int .i64 a, .int .i64 b, .int .i64 c, .int .i64 e]) Tryz.underlying41 (by simp [k4])
  (by simpa [k2] using r1) (by simpa [k2] using r2)
 exact ⟨3, by simpa [Value.cells] using r3⟩
end Go.Proofs.YtfbcdfoohpkfeaaGreatDoor
