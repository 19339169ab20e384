/-
  DERIVED. GIVEN WITH THE SEED: THE CARDS: each row of YtjdnmdlnaoedoaaGreatDoorRows.lean that lists a variable, with what it lists TIED to the program's text (the seventh form; the later family's looks); each row that meets fmt, with fmt's text TOLD by the authors' own Lean function (tested against real Go, not proved from fmt's source: count such statements apart). THE CARD IS WHAT COUNTS. Prove the row's statement (the work); the ties are given (YtjdnmdlnaoedoaaGreatDoorTie.lean); close each card by the builder's one call (the guide's Derived/Test/ToyasCard.lean, 'card_holds'). Laid BY PROGRAM, IN A SANDBOX (cutbox-door.mjs). By AI agents, Wed Nov 11 2026. No macro, syntax, notation, axiom, sorry.
-/
import Derived.Test.YtjdnmdlnaoedoaaGreatDoorRows
import GoSem.ClaimSeven
namespace Go.Proofs.YtjdnmdlnaoedoaaGreatDoor
namespace Rows

/-- THE TIED CARD OF 'isoclinelaw01.RatArith'. -/
def ratArithCard : Claim7 := { stood := { row := ratArithRow, standIns := [], harness := (true, "d068dfa09053dc72b439193df0c82505c9f58e0f226c88b6cc157cdca7560a0d"), looks := false }, kinds := [], alts := [], laidByText := true, laidKinds := [.data], laidTests := true, laidLooks := .later }
def RatArithCardSaid : Prop := Claim7.holds Tryz.pinned (.plain (OpenSpec.ofChange ratArithSpec)) ratArithCard

/-- THE TIED CARD OF 'isoclinelaw01.RatAlone'. -/
def ratAloneCard : Claim7 := { stood := { row := ratAloneRow, standIns := [], harness := (true, "d068dfa09053dc72b439193df0c82505c9f58e0f226c88b6cc157cdca7560a0d"), looks := false }, kinds := [], alts := [], laidByText := true, laidKinds := [.data, .data, .data], laidTests := true, laidLooks := .later }
def RatAloneCardSaid : Prop := Claim7.holds Tryz.pinned (.plain (OpenSpec.ofChange ratAloneSpec)) ratAloneCard

/-- THE TIED CARD OF 'isoclinelaw01.RatFractions'. -/
def ratFractionsCard : Claim7 := { stood := { row := ratFractionsRow, standIns := [], harness := (true, "d068dfa09053dc72b439193df0c82505c9f58e0f226c88b6cc157cdca7560a0d"), looks := false }, kinds := [], alts := [], laidByText := true, laidKinds := [.data], laidTests := true, laidLooks := .later }
def RatFractionsCardSaid : Prop := Claim7.holds Tryz.pinned (.plain (OpenSpec.ofChange ratFractionsSpec)) ratFractionsCard

/-- THE TIED CARD OF 'isoclinelaw05.SpanArith'. -/
def spanArithCard : Claim7 := { stood := { row := spanArithRow, standIns := [], harness := (true, "d068dfa09053dc72b439193df0c82505c9f58e0f226c88b6cc157cdca7560a0d"), looks := false }, kinds := [], alts := [], laidByText := true, laidKinds := [.data], laidTests := true, laidLooks := .later }
def SpanArithCardSaid : Prop := Claim7.holds Tryz.pinned (.plain (OpenSpec.ofChange spanArithSpec)) spanArithCard

/-- THE TIED CARD OF 'isoclinelaw05.SpanAlone'. -/
def spanAloneCard : Claim7 := { stood := { row := spanAloneRow, standIns := [], harness := (true, "d068dfa09053dc72b439193df0c82505c9f58e0f226c88b6cc157cdca7560a0d"), looks := false }, kinds := [], alts := [], laidByText := true, laidKinds := [.data], laidTests := true, laidLooks := .later }
def SpanAloneCardSaid : Prop := Claim7.holds Tryz.pinned (.plain (OpenSpec.ofChange spanAloneSpec)) spanAloneCard

/-- THE TIED CARD OF 'isoclinelaw05.SpanPairs'. -/
def spanPairsCard : Claim7 := { stood := { row := spanPairsRow, standIns := [], harness := (true, "d068dfa09053dc72b439193df0c82505c9f58e0f226c88b6cc157cdca7560a0d"), looks := false }, kinds := [], alts := [], laidByText := true, laidKinds := [.data], laidTests := true, laidLooks := .later }
def SpanPairsCardSaid : Prop := Claim7.holds Tryz.pinned (.plain (OpenSpec.ofChange spanPairsSpec)) spanPairsCard

/-- THE SECOND FORM's CARD OF 'isoclinelaw01.RatArith'. -/
def ratArithUptoCard : Claim7 := { stood := { row := ratArithUptoRow, standIns := [], harness := (true, "d068dfa09053dc72b439193df0c82505c9f58e0f226c88b6cc157cdca7560a0d"), looks := false }, kinds := [], alts := [], laidByText := true, laidKinds := [.data], laidTests := true, laidLooks := .later }
def RatArithUptoCardSaid : Prop := Claim7.holds Tryz.pinned (.plain (OpenSpec.upto ratArithSpec)) ratArithUptoCard

/-- THE SECOND FORM's CARD OF 'isoclinelaw01.RatAlone'. -/
def ratAloneUptoCard : Claim7 := { stood := { row := ratAloneUptoRow, standIns := [], harness := (true, "d068dfa09053dc72b439193df0c82505c9f58e0f226c88b6cc157cdca7560a0d"), looks := false }, kinds := [], alts := [], laidByText := true, laidKinds := [.data, .data, .data], laidTests := true, laidLooks := .later }
def RatAloneUptoCardSaid : Prop := Claim7.holds Tryz.pinned (.plain (OpenSpec.upto ratAloneSpec)) ratAloneUptoCard

/-- THE SECOND FORM's CARD OF 'isoclinelaw01.RatFractions'. -/
def ratFractionsUptoCard : Claim7 := { stood := { row := ratFractionsUptoRow, standIns := [], harness := (true, "d068dfa09053dc72b439193df0c82505c9f58e0f226c88b6cc157cdca7560a0d"), looks := false }, kinds := [], alts := [], laidByText := true, laidKinds := [.data], laidTests := true, laidLooks := .later }
def RatFractionsUptoCardSaid : Prop := Claim7.holds Tryz.pinned (.plain (OpenSpec.upto ratFractionsSpec)) ratFractionsUptoCard

/-- THE SECOND FORM's CARD OF 'isoclinelaw05.SpanArith'. -/
def spanArithUptoCard : Claim7 := { stood := { row := spanArithUptoRow, standIns := [], harness := (true, "d068dfa09053dc72b439193df0c82505c9f58e0f226c88b6cc157cdca7560a0d"), looks := false }, kinds := [], alts := [], laidByText := true, laidKinds := [.data], laidTests := true, laidLooks := .later }
def SpanArithUptoCardSaid : Prop := Claim7.holds Tryz.pinned (.plain (OpenSpec.upto spanArithSpec)) spanArithUptoCard

/-- THE SECOND FORM's CARD OF 'isoclinelaw05.SpanAlone'. -/
def spanAloneUptoCard : Claim7 := { stood := { row := spanAloneUptoRow, standIns := [], harness := (true, "d068dfa09053dc72b439193df0c82505c9f58e0f226c88b6cc157cdca7560a0d"), looks := false }, kinds := [], alts := [], laidByText := true, laidKinds := [.data], laidTests := true, laidLooks := .later }
def SpanAloneUptoCardSaid : Prop := Claim7.holds Tryz.pinned (.plain (OpenSpec.upto spanAloneSpec)) spanAloneUptoCard

/-- THE SECOND FORM's CARD OF 'isoclinelaw05.SpanPairs'. -/
def spanPairsUptoCard : Claim7 := { stood := { row := spanPairsUptoRow, standIns := [], harness := (true, "d068dfa09053dc72b439193df0c82505c9f58e0f226c88b6cc157cdca7560a0d"), looks := false }, kinds := [], alts := [], laidByText := true, laidKinds := [.data], laidTests := true, laidLooks := .later }
def SpanPairsUptoCardSaid : Prop := Claim7.holds Tryz.pinned (.plain (OpenSpec.upto spanPairsSpec)) spanPairsUptoCard
end Rows
end Go.Proofs.YtjdnmdlnaoedoaaGreatDoor
