/-
  DERIVED. GIVEN WITH THE SEED: THE CARDS: each row of YtfbcdfoohpkfeaaDoorRows.lean that lists a variable, with what it lists TIED to the program's text (the seventh form; the later family's looks); each row that meets fmt, with fmt's text TOLD by the authors' own Lean function (tested against real Go, not proved from fmt's source: count such statements apart). THE CARD IS WHAT COUNTS. Prove the row's statement (the work); the ties are given (YtfbcdfoohpkfeaaDoorTie.lean); close each card by the builder's one call (the guide's Derived/Test/ToyasCard.lean, 'card_holds'). Laid BY PROGRAM, IN A SANDBOX (cutbox-door.mjs). By AI agents, Wed Nov 11 2026. No macro, syntax, notation, axiom, sorry.
-/
import Derived.Test.YtfbcdfoohpkfeaaDoorRows
import GoSem.ClaimSeven
namespace Go.Proofs.YtfbcdfoohpkfeaaDoor
namespace Rows

/-- THE TIED CARD OF 'isoclinelaw01.RatMakes'. -/
def ratMakesCard : Claim7 := { stood := { row := ratMakesRow, standIns := [], harness := (true, "08712c3e43111c7bde799bb60faa9eb59541cd4c6a4a5dc8d862ed7bb51fed43"), looks := false }, kinds := [], alts := [], laidByText := true, laidKinds := [.data], laidTests := true, laidLooks := .later }
def RatMakesCardSaid : Prop := Claim7.holds Tryd.pinned (.plain (OpenSpec.ofChange ratMakesSpec)) ratMakesCard

/-- THE TIED CARD OF 'isoclinelaw01.RatField'. -/
def ratFieldCard : Claim7 := { stood := { row := ratFieldRow, standIns := [], harness := (true, "08712c3e43111c7bde799bb60faa9eb59541cd4c6a4a5dc8d862ed7bb51fed43"), looks := false }, kinds := [], alts := [], laidByText := true, laidKinds := [.data], laidTests := true, laidLooks := .later }
def RatFieldCardSaid : Prop := Claim7.holds Tryd.pinned (.plain (OpenSpec.ofChange ratFieldSpec)) ratFieldCard

/-- THE TIED CARD OF 'isoclinelaw05.SpanHalves'. -/
def spanHalvesCard : Claim7 := { stood := { row := spanHalvesRow, standIns := [], harness := (true, "08712c3e43111c7bde799bb60faa9eb59541cd4c6a4a5dc8d862ed7bb51fed43"), looks := false }, kinds := [], alts := [], laidByText := true, laidKinds := [.data], laidTests := true, laidLooks := .later }
def SpanHalvesCardSaid : Prop := Claim7.holds Tryd.pinned (.plain (OpenSpec.ofChange spanHalvesSpec)) spanHalvesCard

/-- THE SECOND FORM's CARD OF 'isoclinelaw01.RatMakes'. -/
def ratMakesUptoCard : Claim7 := { stood := { row := ratMakesUptoRow, standIns := [], harness := (true, "08712c3e43111c7bde799bb60faa9eb59541cd4c6a4a5dc8d862ed7bb51fed43"), looks := false }, kinds := [], alts := [], laidByText := true, laidKinds := [.data], laidTests := true, laidLooks := .later }
def RatMakesUptoCardSaid : Prop := Claim7.holds Tryd.pinned (.plain (OpenSpec.upto ratMakesSpec)) ratMakesUptoCard

/-- THE SECOND FORM's CARD OF 'isoclinelaw01.RatField'. -/
def ratFieldUptoCard : Claim7 := { stood := { row := ratFieldUptoRow, standIns := [], harness := (true, "08712c3e43111c7bde799bb60faa9eb59541cd4c6a4a5dc8d862ed7bb51fed43"), looks := false }, kinds := [], alts := [], laidByText := true, laidKinds := [.data], laidTests := true, laidLooks := .later }
def RatFieldUptoCardSaid : Prop := Claim7.holds Tryd.pinned (.plain (OpenSpec.upto ratFieldSpec)) ratFieldUptoCard

/-- THE SECOND FORM's CARD OF 'isoclinelaw05.SpanHalves'. -/
def spanHalvesUptoCard : Claim7 := { stood := { row := spanHalvesUptoRow, standIns := [], harness := (true, "08712c3e43111c7bde799bb60faa9eb59541cd4c6a4a5dc8d862ed7bb51fed43"), looks := false }, kinds := [], alts := [], laidByText := true, laidKinds := [.data], laidTests := true, laidLooks := .later }
def SpanHalvesUptoCardSaid : Prop := Claim7.holds Tryd.pinned (.plain (OpenSpec.upto spanHalvesSpec)) spanHalvesUptoCard
end Rows
end Go.Proofs.YtfbcdfoohpkfeaaDoor
