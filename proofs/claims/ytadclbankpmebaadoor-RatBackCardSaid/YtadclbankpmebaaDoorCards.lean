/-
  DERIVED. GIVEN WITH THE SEED: THE CARDS: each row of YtadclbankpmebaaDoorRows.lean that lists a variable, with what it lists TIED to the program's text (the seventh form; the later family's looks); each row that meets fmt, with fmt's text TOLD by the authors' own Lean function (tested against real Go, not proved from fmt's source: count such statements apart). THE CARD IS WHAT COUNTS. Prove the row's statement (the work); the ties are given (YtadclbankpmebaaDoorTie.lean); close each card by the builder's one call (the guide's Derived/Test/ToyasCard.lean, 'card_holds'). Laid BY PROGRAM, IN A SANDBOX (cutbox-door.mjs). By AI agents, Wed Nov 11 2026. No macro, syntax, notation, axiom, sorry.
-/
import Derived.Test.YtadclbankpmebaaDoorRows
import GoSem.ClaimSeven
namespace Go.Proofs.YtadclbankpmebaaDoor
namespace Rows

/-- THE TIED CARD OF 'isoclinelaw01.RatMakes'. -/
def ratMakesCard : Claim7 := { stood := { row := ratMakesRow, standIns := [], harness := (true, "786506cfce5ef1797573ed07bc95b86f6e78d07255bb6dcd1a997bf723e75799"), looks := false }, kinds := [], alts := [], laidByText := true, laidKinds := [.data], laidTests := true, laidLooks := .later }
def RatMakesCardSaid : Prop := Claim7.holds Tryd.pinned (.plain (OpenSpec.ofChange ratMakesSpec)) ratMakesCard

/-- THE TIED CARD OF 'isoclinelaw01.RatLeast'. -/
def ratLeastCard : Claim7 := { stood := { row := ratLeastRow, standIns := [], harness := (true, "786506cfce5ef1797573ed07bc95b86f6e78d07255bb6dcd1a997bf723e75799"), looks := false }, kinds := [], alts := [], laidByText := true, laidKinds := [.data], laidTests := true, laidLooks := .later }
def RatLeastCardSaid : Prop := Claim7.holds Tryd.pinned (.plain (OpenSpec.ofChange ratLeastSpec)) ratLeastCard

/-- THE TIED CARD OF 'isoclinelaw01.RatBack'. -/
def ratBackCard : Claim7 := { stood := { row := ratBackRow, standIns := [], harness := (true, "786506cfce5ef1797573ed07bc95b86f6e78d07255bb6dcd1a997bf723e75799"), looks := false }, kinds := [], alts := [], laidByText := true, laidKinds := [.data, .data, .data], laidTests := true, laidLooks := .later }
def RatBackCardSaid : Prop := Claim7.holds Tryd.pinned (.plain (OpenSpec.ofChange ratBackSpec)) ratBackCard

/-- THE TIED CARD OF 'isoclinelaw01.RatField'. -/
def ratFieldCard : Claim7 := { stood := { row := ratFieldRow, standIns := [], harness := (true, "786506cfce5ef1797573ed07bc95b86f6e78d07255bb6dcd1a997bf723e75799"), looks := false }, kinds := [], alts := [], laidByText := true, laidKinds := [.data], laidTests := true, laidLooks := .later }
def RatFieldCardSaid : Prop := Claim7.holds Tryd.pinned (.plain (OpenSpec.ofChange ratFieldSpec)) ratFieldCard

/-- THE SECOND FORM's CARD OF 'isoclinelaw01.RatMakes'. -/
def ratMakesUptoCard : Claim7 := { stood := { row := ratMakesUptoRow, standIns := [], harness := (true, "786506cfce5ef1797573ed07bc95b86f6e78d07255bb6dcd1a997bf723e75799"), looks := false }, kinds := [], alts := [], laidByText := true, laidKinds := [.data], laidTests := true, laidLooks := .later }
def RatMakesUptoCardSaid : Prop := Claim7.holds Tryd.pinned (.plain (OpenSpec.upto ratMakesSpec)) ratMakesUptoCard

/-- THE SECOND FORM's CARD OF 'isoclinelaw01.RatLeast'. -/
def ratLeastUptoCard : Claim7 := { stood := { row := ratLeastUptoRow, standIns := [], harness := (true, "786506cfce5ef1797573ed07bc95b86f6e78d07255bb6dcd1a997bf723e75799"), looks := false }, kinds := [], alts := [], laidByText := true, laidKinds := [.data], laidTests := true, laidLooks := .later }
def RatLeastUptoCardSaid : Prop := Claim7.holds Tryd.pinned (.plain (OpenSpec.upto ratLeastSpec)) ratLeastUptoCard

/-- THE SECOND FORM's CARD OF 'isoclinelaw01.RatBack'. -/
def ratBackUptoCard : Claim7 := { stood := { row := ratBackUptoRow, standIns := [], harness := (true, "786506cfce5ef1797573ed07bc95b86f6e78d07255bb6dcd1a997bf723e75799"), looks := false }, kinds := [], alts := [], laidByText := true, laidKinds := [.data, .data, .data], laidTests := true, laidLooks := .later }
def RatBackUptoCardSaid : Prop := Claim7.holds Tryd.pinned (.plain (OpenSpec.upto ratBackSpec)) ratBackUptoCard

/-- THE SECOND FORM's CARD OF 'isoclinelaw01.RatField'. -/
def ratFieldUptoCard : Claim7 := { stood := { row := ratFieldUptoRow, standIns := [], harness := (true, "786506cfce5ef1797573ed07bc95b86f6e78d07255bb6dcd1a997bf723e75799"), looks := false }, kinds := [], alts := [], laidByText := true, laidKinds := [.data], laidTests := true, laidLooks := .later }
def RatFieldUptoCardSaid : Prop := Claim7.holds Tryd.pinned (.plain (OpenSpec.upto ratFieldSpec)) ratFieldUptoCard
end Rows
end Go.Proofs.YtadclbankpmebaaDoor
