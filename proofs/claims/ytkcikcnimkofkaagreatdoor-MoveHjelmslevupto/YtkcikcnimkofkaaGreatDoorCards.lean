/-
  DERIVED. GIVEN WITH THE SEED: THE CARDS: each row of YtkcikcnimkofkaaGreatDoorRows.lean that lists a variable, with what it lists TIED to the program's text (the seventh form; the later family's looks); each row that meets fmt, with fmt's text TOLD by the authors' own Lean function (tested against real Go, not proved from fmt's source: count such statements apart). THE CARD IS WHAT COUNTS. Prove the row's statement (the work); the ties are given (YtkcikcnimkofkaaGreatDoorTie.lean); close each card by the builder's one call (the guide's Derived/Test/ToyasCard.lean, 'card_holds'). Laid BY PROGRAM, IN A SANDBOX (cutbox-door.mjs). By AI agents, Wed Nov 11 2026. No macro, syntax, notation, axiom, sorry.
-/
import Derived.Test.YtkcikcnimkofkaaGreatDoorRows
import GoSem.ClaimSeven
namespace Go.Proofs.YtkcikcnimkofkaaGreatDoor
namespace Rows

/-- THE TIED CARD OF 'compasslaw.ProjectPappus'. -/
def projectPappusCard : Claim7 := { stood := { row := projectPappusRow, standIns := [], harness := (true, "4ed2f14a428e5c2d85b7917256d34114f1d6ca9eda67e88be19c6e3dac9d080d"), looks := false }, kinds := [], alts := [], laidByText := true, laidKinds := [.data, .data, .data, .data, .pinned], laidTests := true, laidLooks := .later }
def ProjectPappusCardSaid : Prop := Claim7.holds Tryz.pinned (.plain (OpenSpec.ofChange projectPappusSpec)) projectPappusCard

/-- THE TIED CARD OF 'compasslaw.ProjectDesargues'. -/
def projectDesarguesCard : Claim7 := { stood := { row := projectDesarguesRow, standIns := [], harness := (true, "4ed2f14a428e5c2d85b7917256d34114f1d6ca9eda67e88be19c6e3dac9d080d"), looks := false }, kinds := [], alts := [], laidByText := true, laidKinds := [.data, .data, .data, .data, .pinned], laidTests := true, laidLooks := .later }
def ProjectDesarguesCardSaid : Prop := Claim7.holds Tryz.pinned (.plain (OpenSpec.ofChange projectDesarguesSpec)) projectDesarguesCard

/-- THE TIED CARD OF 'compasslaw.TriangleRouth'. -/
def triangleRouthCard : Claim7 := { stood := { row := triangleRouthRow, standIns := [], harness := (true, "4ed2f14a428e5c2d85b7917256d34114f1d6ca9eda67e88be19c6e3dac9d080d"), looks := false }, kinds := [], alts := [], laidByText := true, laidKinds := [.data, .data, .data, .data, .pinned], laidTests := true, laidLooks := .later }
def TriangleRouthCardSaid : Prop := Claim7.holds Tryz.pinned (.plain (OpenSpec.ofChange triangleRouthSpec)) triangleRouthCard

/-- THE TIED CARD OF 'compasslaw.LinePappus'. -/
def linePappusCard : Claim7 := { stood := { row := linePappusRow, standIns := [], harness := (true, "4ed2f14a428e5c2d85b7917256d34114f1d6ca9eda67e88be19c6e3dac9d080d"), looks := false }, kinds := [], alts := [], laidByText := true, laidKinds := [.data, .data, .data, .data, .pinned], laidTests := true, laidLooks := .later }
def LinePappusCardSaid : Prop := Claim7.holds Tryz.pinned (.plain (OpenSpec.ofChange linePappusSpec)) linePappusCard

/-- THE TIED CARD OF 'compasslaw.LineDesargues'. -/
def lineDesarguesCard : Claim7 := { stood := { row := lineDesarguesRow, standIns := [], harness := (true, "4ed2f14a428e5c2d85b7917256d34114f1d6ca9eda67e88be19c6e3dac9d080d"), looks := false }, kinds := [], alts := [], laidByText := true, laidKinds := [.data, .data, .data, .data, .pinned], laidTests := true, laidLooks := .later }
def LineDesarguesCardSaid : Prop := Claim7.holds Tryz.pinned (.plain (OpenSpec.ofChange lineDesarguesSpec)) lineDesarguesCard

/-- THE TIED CARD OF 'compasslaw.TriangleLemoine'. -/
def triangleLemoineCard : Claim7 := { stood := { row := triangleLemoineRow, standIns := [], harness := (true, "4ed2f14a428e5c2d85b7917256d34114f1d6ca9eda67e88be19c6e3dac9d080d"), looks := false }, kinds := [], alts := [], laidByText := true, laidKinds := [.data, .data, .data, .data, .pinned], laidTests := true, laidLooks := .later }
def TriangleLemoineCardSaid : Prop := Claim7.holds Tryz.pinned (.plain (OpenSpec.ofChange triangleLemoineSpec)) triangleLemoineCard

/-- THE TIED CARD OF 'compasslaw.MoveApply'. -/
def moveApplyCard : Claim7 := { stood := { row := moveApplyRow, standIns := [], harness := (true, "4ed2f14a428e5c2d85b7917256d34114f1d6ca9eda67e88be19c6e3dac9d080d"), looks := false }, kinds := [], alts := [], laidByText := true, laidKinds := [.data, .data, .data, .data, .pinned], laidTests := true, laidLooks := .later }
def MoveApplyCardSaid : Prop := Claim7.holds Tryz.pinned (.plain (OpenSpec.ofChange moveApplySpec)) moveApplyCard

/-- THE TIED CARD OF 'compasslaw.MoveBack'. -/
def moveBackCard : Claim7 := { stood := { row := moveBackRow, standIns := [], harness := (true, "4ed2f14a428e5c2d85b7917256d34114f1d6ca9eda67e88be19c6e3dac9d080d"), looks := false }, kinds := [], alts := [], laidByText := true, laidKinds := [.data, .data, .data, .data, .pinned], laidTests := true, laidLooks := .later }
def MoveBackCardSaid : Prop := Claim7.holds Tryz.pinned (.plain (OpenSpec.ofChange moveBackSpec)) moveBackCard

/-- THE TIED CARD OF 'compasslaw.MoveThree'. -/
def moveThreeCard : Claim7 := { stood := { row := moveThreeRow, standIns := [], harness := (true, "4ed2f14a428e5c2d85b7917256d34114f1d6ca9eda67e88be19c6e3dac9d080d"), looks := false }, kinds := [], alts := [], laidByText := true, laidKinds := [.data, .data, .data, .data, .pinned], laidTests := true, laidLooks := .later }
def MoveThreeCardSaid : Prop := Claim7.holds Tryz.pinned (.plain (OpenSpec.ofChange moveThreeSpec)) moveThreeCard

/-- THE TIED CARD OF 'compasslaw.MoveMirror'. -/
def moveMirrorCard : Claim7 := { stood := { row := moveMirrorRow, standIns := [], harness := (true, "4ed2f14a428e5c2d85b7917256d34114f1d6ca9eda67e88be19c6e3dac9d080d"), looks := false }, kinds := [], alts := [], laidByText := true, laidKinds := [.data, .data, .data, .data, .pinned], laidTests := true, laidLooks := .later }
def MoveMirrorCardSaid : Prop := Claim7.holds Tryz.pinned (.plain (OpenSpec.ofChange moveMirrorSpec)) moveMirrorCard

/-- THE TIED CARD OF 'compasslaw.MoveKind'. -/
def moveKindCard : Claim7 := { stood := { row := moveKindRow, standIns := [], harness := (true, "4ed2f14a428e5c2d85b7917256d34114f1d6ca9eda67e88be19c6e3dac9d080d"), looks := false }, kinds := [], alts := [], laidByText := true, laidKinds := [.data, .data, .data, .data, .pinned], laidTests := true, laidLooks := .later }
def MoveKindCardSaid : Prop := Claim7.holds Tryz.pinned (.plain (OpenSpec.ofChange moveKindSpec)) moveKindCard

/-- THE TIED CARD OF 'compasslaw.MoveFixed'. -/
def moveFixedCard : Claim7 := { stood := { row := moveFixedRow, standIns := [], harness := (true, "4ed2f14a428e5c2d85b7917256d34114f1d6ca9eda67e88be19c6e3dac9d080d"), looks := false }, kinds := [], alts := [], laidByText := true, laidKinds := [.data, .data, .data, .data, .pinned], laidTests := true, laidLooks := .later }
def MoveFixedCardSaid : Prop := Claim7.holds Tryz.pinned (.plain (OpenSpec.ofChange moveFixedSpec)) moveFixedCard

/-- THE TIED CARD OF 'compasslaw.MoveAreas'. -/
def moveAreasCard : Claim7 := { stood := { row := moveAreasRow, standIns := [], harness := (true, "4ed2f14a428e5c2d85b7917256d34114f1d6ca9eda67e88be19c6e3dac9d080d"), looks := false }, kinds := [], alts := [], laidByText := true, laidKinds := [.data, .data, .data, .data, .pinned], laidTests := true, laidLooks := .later }
def MoveAreasCardSaid : Prop := Claim7.holds Tryz.pinned (.plain (OpenSpec.ofChange moveAreasSpec)) moveAreasCard

/-- THE TIED CARD OF 'compasslaw.MoveTwoMirrors'. -/
def moveTwoMirrorsCard : Claim7 := { stood := { row := moveTwoMirrorsRow, standIns := [], harness := (true, "4ed2f14a428e5c2d85b7917256d34114f1d6ca9eda67e88be19c6e3dac9d080d"), looks := false }, kinds := [], alts := [], laidByText := true, laidKinds := [.data, .data, .data, .data, .pinned], laidTests := true, laidLooks := .later }
def MoveTwoMirrorsCardSaid : Prop := Claim7.holds Tryz.pinned (.plain (OpenSpec.ofChange moveTwoMirrorsSpec)) moveTwoMirrorsCard

/-- THE TIED CARD OF 'compasslaw.MoveHjelmslev'. -/
def moveHjelmslevCard : Claim7 := { stood := { row := moveHjelmslevRow, standIns := [], harness := (true, "4ed2f14a428e5c2d85b7917256d34114f1d6ca9eda67e88be19c6e3dac9d080d"), looks := false }, kinds := [], alts := [], laidByText := true, laidKinds := [.data, .data, .data, .data, .pinned], laidTests := true, laidLooks := .later }
def MoveHjelmslevCardSaid : Prop := Claim7.holds Tryz.pinned (.plain (OpenSpec.ofChange moveHjelmslevSpec)) moveHjelmslevCard

/-- THE TIED CARD OF 'compasslaw.MoveGroup'. -/
def moveGroupCard : Claim7 := { stood := { row := moveGroupRow, standIns := [], harness := (true, "4ed2f14a428e5c2d85b7917256d34114f1d6ca9eda67e88be19c6e3dac9d080d"), looks := false }, kinds := [], alts := [], laidByText := true, laidKinds := [.data, .data, .data, .data, .pinned], laidTests := true, laidLooks := .later }
def MoveGroupCardSaid : Prop := Claim7.holds Tryz.pinned (.plain (OpenSpec.ofChange moveGroupSpec)) moveGroupCard

/-- THE SECOND FORM's CARD OF 'compasslaw.ProjectPappus'. -/
def projectPappusUptoCard : Claim7 := { stood := { row := projectPappusUptoRow, standIns := [], harness := (true, "4ed2f14a428e5c2d85b7917256d34114f1d6ca9eda67e88be19c6e3dac9d080d"), looks := false }, kinds := [], alts := [], laidByText := true, laidKinds := [.data, .data, .data, .data, .pinned], laidTests := true, laidLooks := .later }
def ProjectPappusUptoCardSaid : Prop := Claim7.holds Tryz.pinned (.plain (OpenSpec.upto projectPappusSpec)) projectPappusUptoCard

/-- THE SECOND FORM's CARD OF 'compasslaw.ProjectDesargues'. -/
def projectDesarguesUptoCard : Claim7 := { stood := { row := projectDesarguesUptoRow, standIns := [], harness := (true, "4ed2f14a428e5c2d85b7917256d34114f1d6ca9eda67e88be19c6e3dac9d080d"), looks := false }, kinds := [], alts := [], laidByText := true, laidKinds := [.data, .data, .data, .data, .pinned], laidTests := true, laidLooks := .later }
def ProjectDesarguesUptoCardSaid : Prop := Claim7.holds Tryz.pinned (.plain (OpenSpec.upto projectDesarguesSpec)) projectDesarguesUptoCard

/-- THE SECOND FORM's CARD OF 'compasslaw.TriangleRouth'. -/
def triangleRouthUptoCard : Claim7 := { stood := { row := triangleRouthUptoRow, standIns := [], harness := (true, "4ed2f14a428e5c2d85b7917256d34114f1d6ca9eda67e88be19c6e3dac9d080d"), looks := false }, kinds := [], alts := [], laidByText := true, laidKinds := [.data, .data, .data, .data, .pinned], laidTests := true, laidLooks := .later }
def TriangleRouthUptoCardSaid : Prop := Claim7.holds Tryz.pinned (.plain (OpenSpec.upto triangleRouthSpec)) triangleRouthUptoCard

/-- THE SECOND FORM's CARD OF 'compasslaw.LinePappus'. -/
def linePappusUptoCard : Claim7 := { stood := { row := linePappusUptoRow, standIns := [], harness := (true, "4ed2f14a428e5c2d85b7917256d34114f1d6ca9eda67e88be19c6e3dac9d080d"), looks := false }, kinds := [], alts := [], laidByText := true, laidKinds := [.data, .data, .data, .data, .pinned], laidTests := true, laidLooks := .later }
def LinePappusUptoCardSaid : Prop := Claim7.holds Tryz.pinned (.plain (OpenSpec.upto linePappusSpec)) linePappusUptoCard

/-- THE SECOND FORM's CARD OF 'compasslaw.LineDesargues'. -/
def lineDesarguesUptoCard : Claim7 := { stood := { row := lineDesarguesUptoRow, standIns := [], harness := (true, "4ed2f14a428e5c2d85b7917256d34114f1d6ca9eda67e88be19c6e3dac9d080d"), looks := false }, kinds := [], alts := [], laidByText := true, laidKinds := [.data, .data, .data, .data, .pinned], laidTests := true, laidLooks := .later }
def LineDesarguesUptoCardSaid : Prop := Claim7.holds Tryz.pinned (.plain (OpenSpec.upto lineDesarguesSpec)) lineDesarguesUptoCard

/-- THE SECOND FORM's CARD OF 'compasslaw.TriangleLemoine'. -/
def triangleLemoineUptoCard : Claim7 := { stood := { row := triangleLemoineUptoRow, standIns := [], harness := (true, "4ed2f14a428e5c2d85b7917256d34114f1d6ca9eda67e88be19c6e3dac9d080d"), looks := false }, kinds := [], alts := [], laidByText := true, laidKinds := [.data, .data, .data, .data, .pinned], laidTests := true, laidLooks := .later }
def TriangleLemoineUptoCardSaid : Prop := Claim7.holds Tryz.pinned (.plain (OpenSpec.upto triangleLemoineSpec)) triangleLemoineUptoCard

/-- THE SECOND FORM's CARD OF 'compasslaw.MoveApply'. -/
def moveApplyUptoCard : Claim7 := { stood := { row := moveApplyUptoRow, standIns := [], harness := (true, "4ed2f14a428e5c2d85b7917256d34114f1d6ca9eda67e88be19c6e3dac9d080d"), looks := false }, kinds := [], alts := [], laidByText := true, laidKinds := [.data, .data, .data, .data, .pinned], laidTests := true, laidLooks := .later }
def MoveApplyUptoCardSaid : Prop := Claim7.holds Tryz.pinned (.plain (OpenSpec.upto moveApplySpec)) moveApplyUptoCard

/-- THE SECOND FORM's CARD OF 'compasslaw.MoveBack'. -/
def moveBackUptoCard : Claim7 := { stood := { row := moveBackUptoRow, standIns := [], harness := (true, "4ed2f14a428e5c2d85b7917256d34114f1d6ca9eda67e88be19c6e3dac9d080d"), looks := false }, kinds := [], alts := [], laidByText := true, laidKinds := [.data, .data, .data, .data, .pinned], laidTests := true, laidLooks := .later }
def MoveBackUptoCardSaid : Prop := Claim7.holds Tryz.pinned (.plain (OpenSpec.upto moveBackSpec)) moveBackUptoCard

/-- THE SECOND FORM's CARD OF 'compasslaw.MoveThree'. -/
def moveThreeUptoCard : Claim7 := { stood := { row := moveThreeUptoRow, standIns := [], harness := (true, "4ed2f14a428e5c2d85b7917256d34114f1d6ca9eda67e88be19c6e3dac9d080d"), looks := false }, kinds := [], alts := [], laidByText := true, laidKinds := [.data, .data, .data, .data, .pinned], laidTests := true, laidLooks := .later }
def MoveThreeUptoCardSaid : Prop := Claim7.holds Tryz.pinned (.plain (OpenSpec.upto moveThreeSpec)) moveThreeUptoCard

/-- THE SECOND FORM's CARD OF 'compasslaw.MoveMirror'. -/
def moveMirrorUptoCard : Claim7 := { stood := { row := moveMirrorUptoRow, standIns := [], harness := (true, "4ed2f14a428e5c2d85b7917256d34114f1d6ca9eda67e88be19c6e3dac9d080d"), looks := false }, kinds := [], alts := [], laidByText := true, laidKinds := [.data, .data, .data, .data, .pinned], laidTests := true, laidLooks := .later }
def MoveMirrorUptoCardSaid : Prop := Claim7.holds Tryz.pinned (.plain (OpenSpec.upto moveMirrorSpec)) moveMirrorUptoCard

/-- THE SECOND FORM's CARD OF 'compasslaw.MoveKind'. -/
def moveKindUptoCard : Claim7 := { stood := { row := moveKindUptoRow, standIns := [], harness := (true, "4ed2f14a428e5c2d85b7917256d34114f1d6ca9eda67e88be19c6e3dac9d080d"), looks := false }, kinds := [], alts := [], laidByText := true, laidKinds := [.data, .data, .data, .data, .pinned], laidTests := true, laidLooks := .later }
def MoveKindUptoCardSaid : Prop := Claim7.holds Tryz.pinned (.plain (OpenSpec.upto moveKindSpec)) moveKindUptoCard

/-- THE SECOND FORM's CARD OF 'compasslaw.MoveFixed'. -/
def moveFixedUptoCard : Claim7 := { stood := { row := moveFixedUptoRow, standIns := [], harness := (true, "4ed2f14a428e5c2d85b7917256d34114f1d6ca9eda67e88be19c6e3dac9d080d"), looks := false }, kinds := [], alts := [], laidByText := true, laidKinds := [.data, .data, .data, .data, .pinned], laidTests := true, laidLooks := .later }
def MoveFixedUptoCardSaid : Prop := Claim7.holds Tryz.pinned (.plain (OpenSpec.upto moveFixedSpec)) moveFixedUptoCard

/-- THE SECOND FORM's CARD OF 'compasslaw.MoveAreas'. -/
def moveAreasUptoCard : Claim7 := { stood := { row := moveAreasUptoRow, standIns := [], harness := (true, "4ed2f14a428e5c2d85b7917256d34114f1d6ca9eda67e88be19c6e3dac9d080d"), looks := false }, kinds := [], alts := [], laidByText := true, laidKinds := [.data, .data, .data, .data, .pinned], laidTests := true, laidLooks := .later }
def MoveAreasUptoCardSaid : Prop := Claim7.holds Tryz.pinned (.plain (OpenSpec.upto moveAreasSpec)) moveAreasUptoCard

/-- THE SECOND FORM's CARD OF 'compasslaw.MoveTwoMirrors'. -/
def moveTwoMirrorsUptoCard : Claim7 := { stood := { row := moveTwoMirrorsUptoRow, standIns := [], harness := (true, "4ed2f14a428e5c2d85b7917256d34114f1d6ca9eda67e88be19c6e3dac9d080d"), looks := false }, kinds := [], alts := [], laidByText := true, laidKinds := [.data, .data, .data, .data, .pinned], laidTests := true, laidLooks := .later }
def MoveTwoMirrorsUptoCardSaid : Prop := Claim7.holds Tryz.pinned (.plain (OpenSpec.upto moveTwoMirrorsSpec)) moveTwoMirrorsUptoCard

/-- THE SECOND FORM's CARD OF 'compasslaw.MoveHjelmslev'. -/
def moveHjelmslevUptoCard : Claim7 := { stood := { row := moveHjelmslevUptoRow, standIns := [], harness := (true, "4ed2f14a428e5c2d85b7917256d34114f1d6ca9eda67e88be19c6e3dac9d080d"), looks := false }, kinds := [], alts := [], laidByText := true, laidKinds := [.data, .data, .data, .data, .pinned], laidTests := true, laidLooks := .later }
def MoveHjelmslevUptoCardSaid : Prop := Claim7.holds Tryz.pinned (.plain (OpenSpec.upto moveHjelmslevSpec)) moveHjelmslevUptoCard

/-- THE SECOND FORM's CARD OF 'compasslaw.MoveGroup'. -/
def moveGroupUptoCard : Claim7 := { stood := { row := moveGroupUptoRow, standIns := [], harness := (true, "4ed2f14a428e5c2d85b7917256d34114f1d6ca9eda67e88be19c6e3dac9d080d"), looks := false }, kinds := [], alts := [], laidByText := true, laidKinds := [.data, .data, .data, .data, .pinned], laidTests := true, laidLooks := .later }
def MoveGroupUptoCardSaid : Prop := Claim7.holds Tryz.pinned (.plain (OpenSpec.upto moveGroupSpec)) moveGroupUptoCard
end Rows
end Go.Proofs.YtkcikcnimkofkaaGreatDoor
