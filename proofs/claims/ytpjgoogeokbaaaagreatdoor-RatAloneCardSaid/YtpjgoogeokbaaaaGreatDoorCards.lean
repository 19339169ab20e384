/-
  DERIVED. GIVEN WITH THE SEED: THE CARDS: each row of YtpjgoogeokbaaaaGreatDoorRows.lean that lists a variable, with what it lists TIED to the program's text (the seventh form; the later family's looks); each row that meets fmt, with fmt's text TOLD by the authors' own Lean function (tested against real Go, not proved from fmt's source: count such statements apart). THE CARD IS WHAT COUNTS. Prove the row's statement (the work); the ties are given (YtpjgoogeokbaaaaGreatDoorTie.lean); close each card by the builder's one call (the guide's Derived/Test/ToyasCard.lean, 'card_holds'). Laid BY PROGRAM, IN A SANDBOX (cutbox-door.mjs). By AI agents, Wed Nov 11 2026. No macro, syntax, notation, axiom, sorry.
-/
import Derived.Test.YtpjgoogeokbaaaaGreatDoorRows
import GoSem.ClaimSeven
namespace Go.Proofs.YtpjgoogeokbaaaaGreatDoor
namespace Rows

/-- THE TIED CARD OF 'isoclinelaw01.RatArith'. -/
def ratArithCard : Claim7 := { stood := { row := ratArithRow, standIns := [], harness := (true, "436dcc860946924399de654e21ad72fb17823d65bda46d56e10105b56766f977"), looks := false }, kinds := [], alts := [], laidByText := true, laidKinds := [.data], laidTests := true, laidLooks := .later }
def RatArithCardSaid : Prop := Claim7.holds Tryz.pinned (.plain (OpenSpec.ofChange ratArithSpec)) ratArithCard

/-- THE TIED CARD OF 'isoclinelaw01.RatAlone'. -/
def ratAloneCard : Claim7 := { stood := { row := ratAloneRow, standIns := [], harness := (true, "436dcc860946924399de654e21ad72fb17823d65bda46d56e10105b56766f977"), looks := false }, kinds := [], alts := [], laidByText := true, laidKinds := [.data, .data, .data], laidTests := true, laidLooks := .later }
def RatAloneCardSaid : Prop := Claim7.holds Tryz.pinned (.plain (OpenSpec.ofChange ratAloneSpec)) ratAloneCard

/-- THE TIED CARD OF 'isoclinelaw01.RatLists'. -/
def ratListsCard : Claim7 := { stood := { row := ratListsRow, standIns := [], harness := (true, "436dcc860946924399de654e21ad72fb17823d65bda46d56e10105b56766f977"), looks := false }, kinds := [], alts := [], laidByText := true, laidKinds := [.data], laidTests := true, laidLooks := .later }
def RatListsCardSaid : Prop := Claim7.holds Tryz.pinned (.plain (OpenSpec.ofChange ratListsSpec)) ratListsCard

/-- THE TIED CARD OF 'isoclinelaw01.RatSimplest'. -/
def ratSimplestCard : Claim7 := { stood := { row := ratSimplestRow, standIns := [], harness := (true, "436dcc860946924399de654e21ad72fb17823d65bda46d56e10105b56766f977"), looks := false }, kinds := [], alts := [], laidByText := true, laidKinds := [.data], laidTests := true, laidLooks := .later }
def RatSimplestCardSaid : Prop := Claim7.holds Tryz.pinned (.plain (OpenSpec.ofChange ratSimplestSpec)) ratSimplestCard

/-- THE TIED CARD OF 'isoclinelaw01.RatFractions'. -/
def ratFractionsCard : Claim7 := { stood := { row := ratFractionsRow, standIns := [], harness := (true, "436dcc860946924399de654e21ad72fb17823d65bda46d56e10105b56766f977"), looks := false }, kinds := [], alts := [], laidByText := true, laidKinds := [.data], laidTests := true, laidLooks := .later }
def RatFractionsCardSaid : Prop := Claim7.holds Tryz.pinned (.plain (OpenSpec.ofChange ratFractionsSpec)) ratFractionsCard

/-- THE TIED CARD OF 'isoclinelaw01.RatTexts'. -/
def ratTextsCard : Claim7 := { stood := { row := ratTextsRow, standIns := [], harness := (true, "436dcc860946924399de654e21ad72fb17823d65bda46d56e10105b56766f977"), looks := false }, kinds := [], alts := [], laidByText := true, laidKinds := [.data], laidTests := true, laidLooks := .later }
def RatTextsCardSaid : Prop := Claim7.holds Tryz.pinned (.plain (OpenSpec.ofChange ratTextsSpec)) ratTextsCard

/-- THE SECOND FORM's CARD OF 'isoclinelaw01.RatArith'. -/
def ratArithUptoCard : Claim7 := { stood := { row := ratArithUptoRow, standIns := [], harness := (true, "436dcc860946924399de654e21ad72fb17823d65bda46d56e10105b56766f977"), looks := false }, kinds := [], alts := [], laidByText := true, laidKinds := [.data], laidTests := true, laidLooks := .later }
def RatArithUptoCardSaid : Prop := Claim7.holds Tryz.pinned (.plain (OpenSpec.upto ratArithSpec)) ratArithUptoCard

/-- THE SECOND FORM's CARD OF 'isoclinelaw01.RatAlone'. -/
def ratAloneUptoCard : Claim7 := { stood := { row := ratAloneUptoRow, standIns := [], harness := (true, "436dcc860946924399de654e21ad72fb17823d65bda46d56e10105b56766f977"), looks := false }, kinds := [], alts := [], laidByText := true, laidKinds := [.data, .data, .data], laidTests := true, laidLooks := .later }
def RatAloneUptoCardSaid : Prop := Claim7.holds Tryz.pinned (.plain (OpenSpec.upto ratAloneSpec)) ratAloneUptoCard

/-- THE SECOND FORM's CARD OF 'isoclinelaw01.RatLists'. -/
def ratListsUptoCard : Claim7 := { stood := { row := ratListsUptoRow, standIns := [], harness := (true, "436dcc860946924399de654e21ad72fb17823d65bda46d56e10105b56766f977"), looks := false }, kinds := [], alts := [], laidByText := true, laidKinds := [.data], laidTests := true, laidLooks := .later }
def RatListsUptoCardSaid : Prop := Claim7.holds Tryz.pinned (.plain (OpenSpec.upto ratListsSpec)) ratListsUptoCard

/-- THE SECOND FORM's CARD OF 'isoclinelaw01.RatSimplest'. -/
def ratSimplestUptoCard : Claim7 := { stood := { row := ratSimplestUptoRow, standIns := [], harness := (true, "436dcc860946924399de654e21ad72fb17823d65bda46d56e10105b56766f977"), looks := false }, kinds := [], alts := [], laidByText := true, laidKinds := [.data], laidTests := true, laidLooks := .later }
def RatSimplestUptoCardSaid : Prop := Claim7.holds Tryz.pinned (.plain (OpenSpec.upto ratSimplestSpec)) ratSimplestUptoCard

/-- THE SECOND FORM's CARD OF 'isoclinelaw01.RatFractions'. -/
def ratFractionsUptoCard : Claim7 := { stood := { row := ratFractionsUptoRow, standIns := [], harness := (true, "436dcc860946924399de654e21ad72fb17823d65bda46d56e10105b56766f977"), looks := false }, kinds := [], alts := [], laidByText := true, laidKinds := [.data], laidTests := true, laidLooks := .later }
def RatFractionsUptoCardSaid : Prop := Claim7.holds Tryz.pinned (.plain (OpenSpec.upto ratFractionsSpec)) ratFractionsUptoCard

/-- THE SECOND FORM's CARD OF 'isoclinelaw01.RatTexts'. -/
def ratTextsUptoCard : Claim7 := { stood := { row := ratTextsUptoRow, standIns := [], harness := (true, "436dcc860946924399de654e21ad72fb17823d65bda46d56e10105b56766f977"), looks := false }, kinds := [], alts := [], laidByText := true, laidKinds := [.data], laidTests := true, laidLooks := .later }
def RatTextsUptoCardSaid : Prop := Claim7.holds Tryz.pinned (.plain (OpenSpec.upto ratTextsSpec)) ratTextsUptoCard
end Rows
end Go.Proofs.YtpjgoogeokbaaaaGreatDoor
