/-
  DERIVED. GIVEN WITH THE SEED: THE CARDS: each row of YtgajdmadbdbabaaGreatDoorRows.lean that lists a variable, with what it lists TIED to the program's text (the seventh form; the later family's looks); each row that meets fmt, with fmt's text TOLD by the authors' own Lean function (tested against real Go, not proved from fmt's source: count such statements apart). THE CARD IS WHAT COUNTS. Prove the row's statement (the work); the ties are given (YtgajdmadbdbabaaGreatDoorTie.lean); close each card by the builder's one call (the guide's Derived/Test/ToyasCard.lean, 'card_holds'). Laid BY PROGRAM, IN A SANDBOX (cutbox-door.mjs). By AI agents, Wed Nov 11 2026. No macro, syntax, notation, axiom, sorry.
-/
import Derived.Test.YtgajdmadbdbabaaGreatDoorRows
import GoSem.ClaimSeven
namespace Go.Proofs.YtgajdmadbdbabaaGreatDoor
namespace Rows

/-- THE TIED CARD OF 'compasslaw.LineThales'. -/
def lineThalesCard : Claim7 := { stood := { row := lineThalesRow, standIns := [], harness := (true, "9072521ebb292cb46d8e53c0ec9d7fb18ee5c91d7e361a7d4dc428132b945e35"), looks := false }, kinds := [], alts := [], laidByText := true, laidKinds := [.data, .data, .data, .data, .pinned], laidTests := true, laidLooks := .later }
def LineThalesCardSaid : Prop := Claim7.holds Tryz.pinned (.plain (OpenSpec.ofChange lineThalesSpec)) lineThalesCard

/-- THE TIED CARD OF 'compasslaw.LineFoot'. -/
def lineFootCard : Claim7 := { stood := { row := lineFootRow, standIns := [], harness := (true, "9072521ebb292cb46d8e53c0ec9d7fb18ee5c91d7e361a7d4dc428132b945e35"), looks := false }, kinds := [], alts := [], laidByText := true, laidKinds := [.data, .data, .data, .data, .pinned], laidTests := true, laidLooks := .later }
def LineFootCardSaid : Prop := Claim7.holds Tryz.pinned (.plain (OpenSpec.ofChange lineFootSpec)) lineFootCard

/-- THE TIED CARD OF 'compasslaw.LineThrough'. -/
def lineThroughCard : Claim7 := { stood := { row := lineThroughRow, standIns := [], harness := (true, "9072521ebb292cb46d8e53c0ec9d7fb18ee5c91d7e361a7d4dc428132b945e35"), looks := false }, kinds := [], alts := [], laidByText := true, laidKinds := [.data, .data, .data, .data, .pinned], laidTests := true, laidLooks := .later }
def LineThroughCardSaid : Prop := Claim7.holds Tryz.pinned (.plain (OpenSpec.ofChange lineThroughSpec)) lineThroughCard

/-- THE TIED CARD OF 'compasslaw.LineBeside'. -/
def lineBesideCard : Claim7 := { stood := { row := lineBesideRow, standIns := [], harness := (true, "9072521ebb292cb46d8e53c0ec9d7fb18ee5c91d7e361a7d4dc428132b945e35"), looks := false }, kinds := [], alts := [], laidByText := true, laidKinds := [.data, .data, .data, .data, .pinned], laidTests := true, laidLooks := .later }
def LineBesideCardSaid : Prop := Claim7.holds Tryz.pinned (.plain (OpenSpec.ofChange lineBesideSpec)) lineBesideCard

/-- THE TIED CARD OF 'compasslaw.LineBetween'. -/
def lineBetweenCard : Claim7 := { stood := { row := lineBetweenRow, standIns := [], harness := (true, "9072521ebb292cb46d8e53c0ec9d7fb18ee5c91d7e361a7d4dc428132b945e35"), looks := false }, kinds := [], alts := [], laidByText := true, laidKinds := [.data, .data, .data, .data, .pinned], laidTests := true, laidLooks := .later }
def LineBetweenCardSaid : Prop := Claim7.holds Tryz.pinned (.plain (OpenSpec.ofChange lineBetweenSpec)) lineBetweenCard

/-- THE TIED CARD OF 'compasslaw.LinePlain'. -/
def linePlainCard : Claim7 := { stood := { row := linePlainRow, standIns := [], harness := (true, "9072521ebb292cb46d8e53c0ec9d7fb18ee5c91d7e361a7d4dc428132b945e35"), looks := false }, kinds := [], alts := [], laidByText := true, laidKinds := [.data, .data, .data, .data, .pinned], laidTests := true, laidLooks := .later }
def LinePlainCardSaid : Prop := Claim7.holds Tryz.pinned (.plain (OpenSpec.ofChange linePlainSpec)) linePlainCard

/-- THE TIED CARD OF 'compasslaw.AnglePlain'. -/
def anglePlainCard : Claim7 := { stood := { row := anglePlainRow, standIns := [], harness := (true, "9072521ebb292cb46d8e53c0ec9d7fb18ee5c91d7e361a7d4dc428132b945e35"), looks := false }, kinds := [], alts := [], laidByText := true, laidKinds := [.data, .data, .data, .data, .pinned], laidTests := true, laidLooks := .later }
def AnglePlainCardSaid : Prop := Claim7.holds Tryz.pinned (.plain (OpenSpec.ofChange anglePlainSpec)) anglePlainCard

/-- THE TIED CARD OF 'compasslaw.AngleFrom'. -/
def angleFromCard : Claim7 := { stood := { row := angleFromRow, standIns := [], harness := (true, "9072521ebb292cb46d8e53c0ec9d7fb18ee5c91d7e361a7d4dc428132b945e35"), looks := false }, kinds := [], alts := [], laidByText := true, laidKinds := [.data, .data, .data, .data, .pinned], laidTests := true, laidLooks := .later }
def AngleFromCardSaid : Prop := Claim7.holds Tryz.pinned (.plain (OpenSpec.ofChange angleFromSpec)) angleFromCard

/-- THE TIED CARD OF 'compasslaw.AngleSum'. -/
def angleSumCard : Claim7 := { stood := { row := angleSumRow, standIns := [], harness := (true, "9072521ebb292cb46d8e53c0ec9d7fb18ee5c91d7e361a7d4dc428132b945e35"), looks := false }, kinds := [], alts := [], laidByText := true, laidKinds := [.data, .data, .data, .data, .pinned], laidTests := true, laidLooks := .later }
def AngleSumCardSaid : Prop := Claim7.holds Tryz.pinned (.plain (OpenSpec.ofChange angleSumSpec)) angleSumCard

/-- THE TIED CARD OF 'compasslaw.AngleSeen'. -/
def angleSeenCard : Claim7 := { stood := { row := angleSeenRow, standIns := [], harness := (true, "9072521ebb292cb46d8e53c0ec9d7fb18ee5c91d7e361a7d4dc428132b945e35"), looks := false }, kinds := [], alts := [], laidByText := true, laidKinds := [.data, .data, .data, .data, .pinned], laidTests := true, laidLooks := .later }
def AngleSeenCardSaid : Prop := Claim7.holds Tryz.pinned (.plain (OpenSpec.ofChange angleSeenSpec)) angleSeenCard

/-- THE TIED CARD OF 'compasslaw.AngleTurned'. -/
def angleTurnedCard : Claim7 := { stood := { row := angleTurnedRow, standIns := [], harness := (true, "9072521ebb292cb46d8e53c0ec9d7fb18ee5c91d7e361a7d4dc428132b945e35"), looks := false }, kinds := [], alts := [], laidByText := true, laidKinds := [.data, .data, .data, .data, .pinned], laidTests := true, laidLooks := .later }
def AngleTurnedCardSaid : Prop := Claim7.holds Tryz.pinned (.plain (OpenSpec.ofChange angleTurnedSpec)) angleTurnedCard

/-- THE TIED CARD OF 'compasslaw.LineMeet'. -/
def lineMeetCard : Claim7 := { stood := { row := lineMeetRow, standIns := [], harness := (true, "9072521ebb292cb46d8e53c0ec9d7fb18ee5c91d7e361a7d4dc428132b945e35"), looks := false }, kinds := [], alts := [], laidByText := true, laidKinds := [.data, .data, .data, .data, .pinned], laidTests := true, laidLooks := .later }
def LineMeetCardSaid : Prop := Claim7.holds Tryz.pinned (.plain (OpenSpec.ofChange lineMeetSpec)) lineMeetCard

/-- THE SECOND FORM's CARD OF 'compasslaw.LineThales'. -/
def lineThalesUptoCard : Claim7 := { stood := { row := lineThalesUptoRow, standIns := [], harness := (true, "9072521ebb292cb46d8e53c0ec9d7fb18ee5c91d7e361a7d4dc428132b945e35"), looks := false }, kinds := [], alts := [], laidByText := true, laidKinds := [.data, .data, .data, .data, .pinned], laidTests := true, laidLooks := .later }
def LineThalesUptoCardSaid : Prop := Claim7.holds Tryz.pinned (.plain (OpenSpec.upto lineThalesSpec)) lineThalesUptoCard

/-- THE SECOND FORM's CARD OF 'compasslaw.LineFoot'. -/
def lineFootUptoCard : Claim7 := { stood := { row := lineFootUptoRow, standIns := [], harness := (true, "9072521ebb292cb46d8e53c0ec9d7fb18ee5c91d7e361a7d4dc428132b945e35"), looks := false }, kinds := [], alts := [], laidByText := true, laidKinds := [.data, .data, .data, .data, .pinned], laidTests := true, laidLooks := .later }
def LineFootUptoCardSaid : Prop := Claim7.holds Tryz.pinned (.plain (OpenSpec.upto lineFootSpec)) lineFootUptoCard

/-- THE SECOND FORM's CARD OF 'compasslaw.LineThrough'. -/
def lineThroughUptoCard : Claim7 := { stood := { row := lineThroughUptoRow, standIns := [], harness := (true, "9072521ebb292cb46d8e53c0ec9d7fb18ee5c91d7e361a7d4dc428132b945e35"), looks := false }, kinds := [], alts := [], laidByText := true, laidKinds := [.data, .data, .data, .data, .pinned], laidTests := true, laidLooks := .later }
def LineThroughUptoCardSaid : Prop := Claim7.holds Tryz.pinned (.plain (OpenSpec.upto lineThroughSpec)) lineThroughUptoCard

/-- THE SECOND FORM's CARD OF 'compasslaw.LineBeside'. -/
def lineBesideUptoCard : Claim7 := { stood := { row := lineBesideUptoRow, standIns := [], harness := (true, "9072521ebb292cb46d8e53c0ec9d7fb18ee5c91d7e361a7d4dc428132b945e35"), looks := false }, kinds := [], alts := [], laidByText := true, laidKinds := [.data, .data, .data, .data, .pinned], laidTests := true, laidLooks := .later }
def LineBesideUptoCardSaid : Prop := Claim7.holds Tryz.pinned (.plain (OpenSpec.upto lineBesideSpec)) lineBesideUptoCard

/-- THE SECOND FORM's CARD OF 'compasslaw.LineBetween'. -/
def lineBetweenUptoCard : Claim7 := { stood := { row := lineBetweenUptoRow, standIns := [], harness := (true, "9072521ebb292cb46d8e53c0ec9d7fb18ee5c91d7e361a7d4dc428132b945e35"), looks := false }, kinds := [], alts := [], laidByText := true, laidKinds := [.data, .data, .data, .data, .pinned], laidTests := true, laidLooks := .later }
def LineBetweenUptoCardSaid : Prop := Claim7.holds Tryz.pinned (.plain (OpenSpec.upto lineBetweenSpec)) lineBetweenUptoCard

/-- THE SECOND FORM's CARD OF 'compasslaw.LinePlain'. -/
def linePlainUptoCard : Claim7 := { stood := { row := linePlainUptoRow, standIns := [], harness := (true, "9072521ebb292cb46d8e53c0ec9d7fb18ee5c91d7e361a7d4dc428132b945e35"), looks := false }, kinds := [], alts := [], laidByText := true, laidKinds := [.data, .data, .data, .data, .pinned], laidTests := true, laidLooks := .later }
def LinePlainUptoCardSaid : Prop := Claim7.holds Tryz.pinned (.plain (OpenSpec.upto linePlainSpec)) linePlainUptoCard

/-- THE SECOND FORM's CARD OF 'compasslaw.AnglePlain'. -/
def anglePlainUptoCard : Claim7 := { stood := { row := anglePlainUptoRow, standIns := [], harness := (true, "9072521ebb292cb46d8e53c0ec9d7fb18ee5c91d7e361a7d4dc428132b945e35"), looks := false }, kinds := [], alts := [], laidByText := true, laidKinds := [.data, .data, .data, .data, .pinned], laidTests := true, laidLooks := .later }
def AnglePlainUptoCardSaid : Prop := Claim7.holds Tryz.pinned (.plain (OpenSpec.upto anglePlainSpec)) anglePlainUptoCard

/-- THE SECOND FORM's CARD OF 'compasslaw.AngleFrom'. -/
def angleFromUptoCard : Claim7 := { stood := { row := angleFromUptoRow, standIns := [], harness := (true, "9072521ebb292cb46d8e53c0ec9d7fb18ee5c91d7e361a7d4dc428132b945e35"), looks := false }, kinds := [], alts := [], laidByText := true, laidKinds := [.data, .data, .data, .data, .pinned], laidTests := true, laidLooks := .later }
def AngleFromUptoCardSaid : Prop := Claim7.holds Tryz.pinned (.plain (OpenSpec.upto angleFromSpec)) angleFromUptoCard

/-- THE SECOND FORM's CARD OF 'compasslaw.AngleSum'. -/
def angleSumUptoCard : Claim7 := { stood := { row := angleSumUptoRow, standIns := [], harness := (true, "9072521ebb292cb46d8e53c0ec9d7fb18ee5c91d7e361a7d4dc428132b945e35"), looks := false }, kinds := [], alts := [], laidByText := true, laidKinds := [.data, .data, .data, .data, .pinned], laidTests := true, laidLooks := .later }
def AngleSumUptoCardSaid : Prop := Claim7.holds Tryz.pinned (.plain (OpenSpec.upto angleSumSpec)) angleSumUptoCard

/-- THE SECOND FORM's CARD OF 'compasslaw.AngleSeen'. -/
def angleSeenUptoCard : Claim7 := { stood := { row := angleSeenUptoRow, standIns := [], harness := (true, "9072521ebb292cb46d8e53c0ec9d7fb18ee5c91d7e361a7d4dc428132b945e35"), looks := false }, kinds := [], alts := [], laidByText := true, laidKinds := [.data, .data, .data, .data, .pinned], laidTests := true, laidLooks := .later }
def AngleSeenUptoCardSaid : Prop := Claim7.holds Tryz.pinned (.plain (OpenSpec.upto angleSeenSpec)) angleSeenUptoCard

/-- THE SECOND FORM's CARD OF 'compasslaw.AngleTurned'. -/
def angleTurnedUptoCard : Claim7 := { stood := { row := angleTurnedUptoRow, standIns := [], harness := (true, "9072521ebb292cb46d8e53c0ec9d7fb18ee5c91d7e361a7d4dc428132b945e35"), looks := false }, kinds := [], alts := [], laidByText := true, laidKinds := [.data, .data, .data, .data, .pinned], laidTests := true, laidLooks := .later }
def AngleTurnedUptoCardSaid : Prop := Claim7.holds Tryz.pinned (.plain (OpenSpec.upto angleTurnedSpec)) angleTurnedUptoCard

/-- THE SECOND FORM's CARD OF 'compasslaw.LineMeet'. -/
def lineMeetUptoCard : Claim7 := { stood := { row := lineMeetUptoRow, standIns := [], harness := (true, "9072521ebb292cb46d8e53c0ec9d7fb18ee5c91d7e361a7d4dc428132b945e35"), looks := false }, kinds := [], alts := [], laidByText := true, laidKinds := [.data, .data, .data, .data, .pinned], laidTests := true, laidLooks := .later }
def LineMeetUptoCardSaid : Prop := Claim7.holds Tryz.pinned (.plain (OpenSpec.upto lineMeetSpec)) lineMeetUptoCard
end Rows
end Go.Proofs.YtgajdmadbdbabaaGreatDoor
