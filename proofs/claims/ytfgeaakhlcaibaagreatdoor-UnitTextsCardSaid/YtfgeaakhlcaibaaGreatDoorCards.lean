/-
  DERIVED. GIVEN WITH THE SEED: THE CARDS: each row of YtfgeaakhlcaibaaGreatDoorRows.lean that lists a variable, with what it lists TIED to the program's text (the seventh form; the later family's looks); each row that meets fmt, with fmt's text TOLD by the authors' own Lean function (tested against real Go, not proved from fmt's source: count such statements apart). THE CARD IS WHAT COUNTS. Prove the row's statement (the work); the ties are given (YtfgeaakhlcaibaaGreatDoorTie.lean); close each card by the builder's one call (the guide's Derived/Test/ToyasCard.lean, 'card_holds'). Laid BY PROGRAM, IN A SANDBOX (cutbox-door.mjs). By AI agents, Wed Nov 11 2026. No macro, syntax, notation, axiom, sorry.
-/
import Derived.Test.YtfgeaakhlcaibaaGreatDoorRows
import GoSem.ClaimSeven
namespace Go.Proofs.YtfgeaakhlcaibaaGreatDoor
namespace Rows

/-- THE TIED CARD OF 'isoclinelaw01.RatArith'. -/
def ratArithCard : Claim7 := { stood := { row := ratArithRow, standIns := [], harness := (true, "674f441dee07ccc6863d8fa800f81f80213abc740bb9e6c2844d6a26b14cde24"), looks := false }, kinds := [], alts := [], laidByText := true, laidKinds := [.data], laidTests := true, laidLooks := .later }
def RatArithCardSaid : Prop := Claim7.holds Tryz.pinned (.plain (OpenSpec.ofChange ratArithSpec)) ratArithCard

/-- THE TIED CARD OF 'isoclinelaw01.RatAlone'. -/
def ratAloneCard : Claim7 := { stood := { row := ratAloneRow, standIns := [], harness := (true, "674f441dee07ccc6863d8fa800f81f80213abc740bb9e6c2844d6a26b14cde24"), looks := false }, kinds := [], alts := [], laidByText := true, laidKinds := [.data, .data, .data], laidTests := true, laidLooks := .later }
def RatAloneCardSaid : Prop := Claim7.holds Tryz.pinned (.plain (OpenSpec.ofChange ratAloneSpec)) ratAloneCard

/-- THE TIED CARD OF 'isoclinelaw01.RatTexts'. -/
def ratTextsCard : Claim7 := { stood := { row := ratTextsRow, standIns := [], harness := (true, "674f441dee07ccc6863d8fa800f81f80213abc740bb9e6c2844d6a26b14cde24"), looks := false }, kinds := [], alts := [], laidByText := true, laidKinds := [.data], laidTests := true, laidLooks := .later }
def RatTextsCardSaid : Prop := Claim7.holds Tryz.pinned (.plain (OpenSpec.ofChange ratTextsSpec)) ratTextsCard

/-- THE TIED CARD OF 'isoclinelaw01.RatFractions'. -/
def ratFractionsCard : Claim7 := { stood := { row := ratFractionsRow, standIns := [], harness := (true, "674f441dee07ccc6863d8fa800f81f80213abc740bb9e6c2844d6a26b14cde24"), looks := false }, kinds := [], alts := [], laidByText := true, laidKinds := [.data], laidTests := true, laidLooks := .later }
def RatFractionsCardSaid : Prop := Claim7.holds Tryz.pinned (.plain (OpenSpec.ofChange ratFractionsSpec)) ratFractionsCard

/-- THE TIED CARD OF 'isoclinelaw06.UnitOps'. -/
def unitOpsCard : Claim7 := { stood := { row := unitOpsRow, standIns := [], harness := (true, "674f441dee07ccc6863d8fa800f81f80213abc740bb9e6c2844d6a26b14cde24"), looks := false }, kinds := [], alts := [], laidByText := true, laidKinds := [.data, .data, .pinned], laidTests := true, laidLooks := .later }
def UnitOpsCardSaid : Prop := Claim7.holds Tryz.pinned (.plain (OpenSpec.ofChange unitOpsSpec)) unitOpsCard

/-- THE TIED CARD OF 'isoclinelaw06.UnitScales'. -/
def unitScalesCard : Claim7 := { stood := { row := unitScalesRow, standIns := [], harness := (true, "674f441dee07ccc6863d8fa800f81f80213abc740bb9e6c2844d6a26b14cde24"), looks := false }, kinds := [], alts := [], laidByText := true, laidKinds := [.data, .data, .pinned], laidTests := true, laidLooks := .later }
def UnitScalesCardSaid : Prop := Claim7.holds Tryz.pinned (.plain (OpenSpec.ofChange unitScalesSpec)) unitScalesCard

/-- THE TIED CARD OF 'isoclinelaw06.UnitPrints'. -/
def unitPrintsCard : Claim7 := { stood := { row := unitPrintsRow, standIns := [], harness := (true, "674f441dee07ccc6863d8fa800f81f80213abc740bb9e6c2844d6a26b14cde24"), looks := false }, kinds := [], alts := [], laidByText := true, laidKinds := [.data, .data, .data, .data, .data, .pinned], laidTests := true, laidLooks := .later }
def UnitPrintsCardSaid : Prop := Claim7.holds Tryz.pinned (.plain (OpenSpec.ofChange unitPrintsSpec)) unitPrintsCard

/-- THE TIED CARD OF 'isoclinelaw06.UnitTexts'. -/
def unitTextsCard : Claim7 := { stood := { row := unitTextsRow, standIns := [], harness := (true, "674f441dee07ccc6863d8fa800f81f80213abc740bb9e6c2844d6a26b14cde24"), looks := false }, kinds := [], alts := [], laidByText := true, laidKinds := [.data, .data, .pinned], laidTests := true, laidLooks := .later }
def UnitTextsCardSaid : Prop := Claim7.holds Tryz.pinned (.plain (OpenSpec.ofChange unitTextsSpec)) unitTextsCard

/-- THE SECOND FORM's CARD OF 'isoclinelaw01.RatArith'. -/
def ratArithUptoCard : Claim7 := { stood := { row := ratArithUptoRow, standIns := [], harness := (true, "674f441dee07ccc6863d8fa800f81f80213abc740bb9e6c2844d6a26b14cde24"), looks := false }, kinds := [], alts := [], laidByText := true, laidKinds := [.data], laidTests := true, laidLooks := .later }
def RatArithUptoCardSaid : Prop := Claim7.holds Tryz.pinned (.plain (OpenSpec.upto ratArithSpec)) ratArithUptoCard

/-- THE SECOND FORM's CARD OF 'isoclinelaw01.RatAlone'. -/
def ratAloneUptoCard : Claim7 := { stood := { row := ratAloneUptoRow, standIns := [], harness := (true, "674f441dee07ccc6863d8fa800f81f80213abc740bb9e6c2844d6a26b14cde24"), looks := false }, kinds := [], alts := [], laidByText := true, laidKinds := [.data, .data, .data], laidTests := true, laidLooks := .later }
def RatAloneUptoCardSaid : Prop := Claim7.holds Tryz.pinned (.plain (OpenSpec.upto ratAloneSpec)) ratAloneUptoCard

/-- THE SECOND FORM's CARD OF 'isoclinelaw01.RatTexts'. -/
def ratTextsUptoCard : Claim7 := { stood := { row := ratTextsUptoRow, standIns := [], harness := (true, "674f441dee07ccc6863d8fa800f81f80213abc740bb9e6c2844d6a26b14cde24"), looks := false }, kinds := [], alts := [], laidByText := true, laidKinds := [.data], laidTests := true, laidLooks := .later }
def RatTextsUptoCardSaid : Prop := Claim7.holds Tryz.pinned (.plain (OpenSpec.upto ratTextsSpec)) ratTextsUptoCard

/-- THE SECOND FORM's CARD OF 'isoclinelaw01.RatFractions'. -/
def ratFractionsUptoCard : Claim7 := { stood := { row := ratFractionsUptoRow, standIns := [], harness := (true, "674f441dee07ccc6863d8fa800f81f80213abc740bb9e6c2844d6a26b14cde24"), looks := false }, kinds := [], alts := [], laidByText := true, laidKinds := [.data], laidTests := true, laidLooks := .later }
def RatFractionsUptoCardSaid : Prop := Claim7.holds Tryz.pinned (.plain (OpenSpec.upto ratFractionsSpec)) ratFractionsUptoCard

/-- THE SECOND FORM's CARD OF 'isoclinelaw06.UnitOps'. -/
def unitOpsUptoCard : Claim7 := { stood := { row := unitOpsUptoRow, standIns := [], harness := (true, "674f441dee07ccc6863d8fa800f81f80213abc740bb9e6c2844d6a26b14cde24"), looks := false }, kinds := [], alts := [], laidByText := true, laidKinds := [.data, .data, .pinned], laidTests := true, laidLooks := .later }
def UnitOpsUptoCardSaid : Prop := Claim7.holds Tryz.pinned (.plain (OpenSpec.upto unitOpsSpec)) unitOpsUptoCard

/-- THE SECOND FORM's CARD OF 'isoclinelaw06.UnitScales'. -/
def unitScalesUptoCard : Claim7 := { stood := { row := unitScalesUptoRow, standIns := [], harness := (true, "674f441dee07ccc6863d8fa800f81f80213abc740bb9e6c2844d6a26b14cde24"), looks := false }, kinds := [], alts := [], laidByText := true, laidKinds := [.data, .data, .pinned], laidTests := true, laidLooks := .later }
def UnitScalesUptoCardSaid : Prop := Claim7.holds Tryz.pinned (.plain (OpenSpec.upto unitScalesSpec)) unitScalesUptoCard

/-- THE SECOND FORM's CARD OF 'isoclinelaw06.UnitPrints'. -/
def unitPrintsUptoCard : Claim7 := { stood := { row := unitPrintsUptoRow, standIns := [], harness := (true, "674f441dee07ccc6863d8fa800f81f80213abc740bb9e6c2844d6a26b14cde24"), looks := false }, kinds := [], alts := [], laidByText := true, laidKinds := [.data, .data, .data, .data, .data, .pinned], laidTests := true, laidLooks := .later }
def UnitPrintsUptoCardSaid : Prop := Claim7.holds Tryz.pinned (.plain (OpenSpec.upto unitPrintsSpec)) unitPrintsUptoCard

/-- THE SECOND FORM's CARD OF 'isoclinelaw06.UnitTexts'. -/
def unitTextsUptoCard : Claim7 := { stood := { row := unitTextsUptoRow, standIns := [], harness := (true, "674f441dee07ccc6863d8fa800f81f80213abc740bb9e6c2844d6a26b14cde24"), looks := false }, kinds := [], alts := [], laidByText := true, laidKinds := [.data, .data, .pinned], laidTests := true, laidLooks := .later }
def UnitTextsUptoCardSaid : Prop := Claim7.holds Tryz.pinned (.plain (OpenSpec.upto unitTextsSpec)) unitTextsUptoCard
end Rows
end Go.Proofs.YtfgeaakhlcaibaaGreatDoor
