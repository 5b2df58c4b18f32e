/-
  DERIVED. GIVEN WITH THE SEED: THE CARDS: each row of YtdgpmheeiaajkaaGreatDoorRows.lean that lists a variable, with what it lists TIED to the program's text (the seventh form; the later family's looks); each row that meets fmt, with fmt's text TOLD by the authors' own Lean function (tested against real Go, not proved from fmt's source: count such statements apart). THE CARD IS WHAT COUNTS. Prove the row's statement (the work); the ties are given (YtdgpmheeiaajkaaGreatDoorTie.lean); close each card by the builder's one call (the guide's Derived/Test/ToyasCard.lean, 'card_holds'). Laid BY PROGRAM, IN A SANDBOX (cutbox-door.mjs). By AI agents, Wed Nov 11 2026. No macro, syntax, notation, axiom, sorry.
-/
import Derived.Test.YtdgpmheeiaajkaaGreatDoorRows
import GoSem.ClaimSeven
namespace Go.Proofs.YtdgpmheeiaajkaaGreatDoor
namespace Rows

/-- THE TIED CARD OF 'compasslaw.TurnThree'. -/
def turnThreeCard : Claim7 := { stood := { row := turnThreeRow, standIns := [], harness := (true, "4518c2a0b105a542a6120b10659514bc3eba7bdd74e3d9e74ab2518e0c357bf6"), looks := false }, kinds := [], alts := [], laidByText := true, laidKinds := [.data, .data, .data, .data, .pinned], laidTests := true, laidLooks := .later }
def TurnThreeCardSaid : Prop := Claim7.holds Tryz.pinned (.plain (OpenSpec.ofChange turnThreeSpec)) turnThreeCard

/-- THE TIED CARD OF 'compasslaw.TurnAfter'. -/
def turnAfterCard : Claim7 := { stood := { row := turnAfterRow, standIns := [], harness := (true, "4518c2a0b105a542a6120b10659514bc3eba7bdd74e3d9e74ab2518e0c357bf6"), looks := false }, kinds := [], alts := [], laidByText := true, laidKinds := [.data, .data, .data, .data, .pinned], laidTests := true, laidLooks := .later }
def TurnAfterCardSaid : Prop := Claim7.holds Tryz.pinned (.plain (OpenSpec.ofChange turnAfterSpec)) turnAfterCard

/-- THE TIED CARD OF 'compasslaw.CircleButterfly'. -/
def circleButterflyCard : Claim7 := { stood := { row := circleButterflyRow, standIns := [], harness := (true, "4518c2a0b105a542a6120b10659514bc3eba7bdd74e3d9e74ab2518e0c357bf6"), looks := false }, kinds := [], alts := [], laidByText := true, laidKinds := [.data, .data, .data, .data, .pinned], laidTests := true, laidLooks := .later }
def CircleButterflyCardSaid : Prop := Claim7.holds Tryz.pinned (.plain (OpenSpec.ofChange circleButterflySpec)) circleButterflyCard

/-- THE TIED CARD OF 'compasslaw.TriangleFour'. -/
def triangleFourCard : Claim7 := { stood := { row := triangleFourRow, standIns := [], harness := (true, "4518c2a0b105a542a6120b10659514bc3eba7bdd74e3d9e74ab2518e0c357bf6"), looks := false }, kinds := [], alts := [], laidByText := true, laidKinds := [.data, .data, .data, .data, .pinned], laidTests := true, laidLooks := .later }
def TriangleFourCardSaid : Prop := Claim7.holds Tryz.pinned (.plain (OpenSpec.ofChange triangleFourSpec)) triangleFourCard

/-- THE TIED CARD OF 'compasslaw.TriangleTwice'. -/
def triangleTwiceCard : Claim7 := { stood := { row := triangleTwiceRow, standIns := [], harness := (true, "4518c2a0b105a542a6120b10659514bc3eba7bdd74e3d9e74ab2518e0c357bf6"), looks := false }, kinds := [], alts := [], laidByText := true, laidKinds := [.data, .data, .data, .data, .pinned], laidTests := true, laidLooks := .later }
def TriangleTwiceCardSaid : Prop := Claim7.holds Tryz.pinned (.plain (OpenSpec.ofChange triangleTwiceSpec)) triangleTwiceCard

/-- THE TIED CARD OF 'compasslaw.LinePlain'. -/
def linePlainCard : Claim7 := { stood := { row := linePlainRow, standIns := [], harness := (true, "4518c2a0b105a542a6120b10659514bc3eba7bdd74e3d9e74ab2518e0c357bf6"), looks := false }, kinds := [], alts := [], laidByText := true, laidKinds := [.data, .data, .data, .data, .pinned], laidTests := true, laidLooks := .later }
def LinePlainCardSaid : Prop := Claim7.holds Tryz.pinned (.plain (OpenSpec.ofChange linePlainSpec)) linePlainCard

/-- THE TIED CARD OF 'compasslaw.LineMeet'. -/
def lineMeetCard : Claim7 := { stood := { row := lineMeetRow, standIns := [], harness := (true, "4518c2a0b105a542a6120b10659514bc3eba7bdd74e3d9e74ab2518e0c357bf6"), looks := false }, kinds := [], alts := [], laidByText := true, laidKinds := [.data, .data, .data, .data, .pinned], laidTests := true, laidLooks := .later }
def LineMeetCardSaid : Prop := Claim7.holds Tryz.pinned (.plain (OpenSpec.ofChange lineMeetSpec)) lineMeetCard

/-- THE TIED CARD OF 'compasslaw.CircleAxis'. -/
def circleAxisCard : Claim7 := { stood := { row := circleAxisRow, standIns := [], harness := (true, "4518c2a0b105a542a6120b10659514bc3eba7bdd74e3d9e74ab2518e0c357bf6"), looks := false }, kinds := [], alts := [], laidByText := true, laidKinds := [.data, .data, .data, .data, .pinned], laidTests := true, laidLooks := .later }
def CircleAxisCardSaid : Prop := Claim7.holds Tryz.pinned (.plain (OpenSpec.ofChange circleAxisSpec)) circleAxisCard

/-- THE TIED CARD OF 'compasslaw.CircleHeart'. -/
def circleHeartCard : Claim7 := { stood := { row := circleHeartRow, standIns := [], harness := (true, "4518c2a0b105a542a6120b10659514bc3eba7bdd74e3d9e74ab2518e0c357bf6"), looks := false }, kinds := [], alts := [], laidByText := true, laidKinds := [.data, .data, .data, .data, .pinned], laidTests := true, laidLooks := .later }
def CircleHeartCardSaid : Prop := Claim7.holds Tryz.pinned (.plain (OpenSpec.ofChange circleHeartSpec)) circleHeartCard

/-- THE TIED CARD OF 'compasslaw.CircleLie'. -/
def circleLieCard : Claim7 := { stood := { row := circleLieRow, standIns := [], harness := (true, "4518c2a0b105a542a6120b10659514bc3eba7bdd74e3d9e74ab2518e0c357bf6"), looks := false }, kinds := [], alts := [], laidByText := true, laidKinds := [.data, .data, .data, .data, .pinned], laidTests := true, laidLooks := .later }
def CircleLieCardSaid : Prop := Claim7.holds Tryz.pinned (.plain (OpenSpec.ofChange circleLieSpec)) circleLieCard

/-- THE TIED CARD OF 'compasslaw.TriangleNine'. -/
def triangleNineCard : Claim7 := { stood := { row := triangleNineRow, standIns := [], harness := (true, "4518c2a0b105a542a6120b10659514bc3eba7bdd74e3d9e74ab2518e0c357bf6"), looks := false }, kinds := [], alts := [], laidByText := true, laidKinds := [.data, .data, .data, .data, .pinned], laidTests := true, laidLooks := .later }
def TriangleNineCardSaid : Prop := Claim7.holds Tryz.pinned (.plain (OpenSpec.ofChange triangleNineSpec)) triangleNineCard

/-- THE TIED CARD OF 'compasslaw.TurnApply'. -/
def turnApplyCard : Claim7 := { stood := { row := turnApplyRow, standIns := [], harness := (true, "4518c2a0b105a542a6120b10659514bc3eba7bdd74e3d9e74ab2518e0c357bf6"), looks := false }, kinds := [], alts := [], laidByText := true, laidKinds := [.data, .data, .data, .data, .pinned], laidTests := true, laidLooks := .later }
def TurnApplyCardSaid : Prop := Claim7.holds Tryz.pinned (.plain (OpenSpec.ofChange turnApplySpec)) turnApplyCard

/-- THE TIED CARD OF 'compasslaw.TurnCross'. -/
def turnCrossCard : Claim7 := { stood := { row := turnCrossRow, standIns := [], harness := (true, "4518c2a0b105a542a6120b10659514bc3eba7bdd74e3d9e74ab2518e0c357bf6"), looks := false }, kinds := [], alts := [], laidByText := true, laidKinds := [.data, .data, .data, .data, .pinned], laidTests := true, laidLooks := .later }
def TurnCrossCardSaid : Prop := Claim7.holds Tryz.pinned (.plain (OpenSpec.ofChange turnCrossSpec)) turnCrossCard

/-- THE TIED CARD OF 'compasslaw.TurnPtolemy'. -/
def turnPtolemyCard : Claim7 := { stood := { row := turnPtolemyRow, standIns := [], harness := (true, "4518c2a0b105a542a6120b10659514bc3eba7bdd74e3d9e74ab2518e0c357bf6"), looks := false }, kinds := [], alts := [], laidByText := true, laidKinds := [.data, .data, .data, .data, .pinned], laidTests := true, laidLooks := .later }
def TurnPtolemyCardSaid : Prop := Claim7.holds Tryz.pinned (.plain (OpenSpec.ofChange turnPtolemySpec)) turnPtolemyCard

/-- THE TIED CARD OF 'compasslaw.MoveMirrors'. -/
def moveMirrorsCard : Claim7 := { stood := { row := moveMirrorsRow, standIns := [], harness := (true, "4518c2a0b105a542a6120b10659514bc3eba7bdd74e3d9e74ab2518e0c357bf6"), looks := false }, kinds := [], alts := [], laidByText := true, laidKinds := [.data, .data, .data, .data, .pinned], laidTests := true, laidLooks := .later }
def MoveMirrorsCardSaid : Prop := Claim7.holds Tryz.pinned (.plain (OpenSpec.ofChange moveMirrorsSpec)) moveMirrorsCard

/-- THE TIED CARD OF 'compasslaw.TurnGroup'. -/
def turnGroupCard : Claim7 := { stood := { row := turnGroupRow, standIns := [], harness := (true, "4518c2a0b105a542a6120b10659514bc3eba7bdd74e3d9e74ab2518e0c357bf6"), looks := false }, kinds := [], alts := [], laidByText := true, laidKinds := [.data, .data, .data, .data, .pinned], laidTests := true, laidLooks := .later }
def TurnGroupCardSaid : Prop := Claim7.holds Tryz.pinned (.plain (OpenSpec.ofChange turnGroupSpec)) turnGroupCard

/-- THE TIED CARD OF 'compasslaw.ProjectKeeps'. -/
def projectKeepsCard : Claim7 := { stood := { row := projectKeepsRow, standIns := [], harness := (true, "4518c2a0b105a542a6120b10659514bc3eba7bdd74e3d9e74ab2518e0c357bf6"), looks := false }, kinds := [], alts := [], laidByText := true, laidKinds := [.data, .data, .data, .data, .pinned], laidTests := true, laidLooks := .later }
def ProjectKeepsCardSaid : Prop := Claim7.holds Tryz.pinned (.plain (OpenSpec.ofChange projectKeepsSpec)) projectKeepsCard

/-- THE SECOND FORM's CARD OF 'compasslaw.TurnThree'. -/
def turnThreeUptoCard : Claim7 := { stood := { row := turnThreeUptoRow, standIns := [], harness := (true, "4518c2a0b105a542a6120b10659514bc3eba7bdd74e3d9e74ab2518e0c357bf6"), looks := false }, kinds := [], alts := [], laidByText := true, laidKinds := [.data, .data, .data, .data, .pinned], laidTests := true, laidLooks := .later }
def TurnThreeUptoCardSaid : Prop := Claim7.holds Tryz.pinned (.plain (OpenSpec.upto turnThreeSpec)) turnThreeUptoCard

/-- THE SECOND FORM's CARD OF 'compasslaw.TurnAfter'. -/
def turnAfterUptoCard : Claim7 := { stood := { row := turnAfterUptoRow, standIns := [], harness := (true, "4518c2a0b105a542a6120b10659514bc3eba7bdd74e3d9e74ab2518e0c357bf6"), looks := false }, kinds := [], alts := [], laidByText := true, laidKinds := [.data, .data, .data, .data, .pinned], laidTests := true, laidLooks := .later }
def TurnAfterUptoCardSaid : Prop := Claim7.holds Tryz.pinned (.plain (OpenSpec.upto turnAfterSpec)) turnAfterUptoCard

/-- THE SECOND FORM's CARD OF 'compasslaw.CircleButterfly'. -/
def circleButterflyUptoCard : Claim7 := { stood := { row := circleButterflyUptoRow, standIns := [], harness := (true, "4518c2a0b105a542a6120b10659514bc3eba7bdd74e3d9e74ab2518e0c357bf6"), looks := false }, kinds := [], alts := [], laidByText := true, laidKinds := [.data, .data, .data, .data, .pinned], laidTests := true, laidLooks := .later }
def CircleButterflyUptoCardSaid : Prop := Claim7.holds Tryz.pinned (.plain (OpenSpec.upto circleButterflySpec)) circleButterflyUptoCard

/-- THE SECOND FORM's CARD OF 'compasslaw.TriangleFour'. -/
def triangleFourUptoCard : Claim7 := { stood := { row := triangleFourUptoRow, standIns := [], harness := (true, "4518c2a0b105a542a6120b10659514bc3eba7bdd74e3d9e74ab2518e0c357bf6"), looks := false }, kinds := [], alts := [], laidByText := true, laidKinds := [.data, .data, .data, .data, .pinned], laidTests := true, laidLooks := .later }
def TriangleFourUptoCardSaid : Prop := Claim7.holds Tryz.pinned (.plain (OpenSpec.upto triangleFourSpec)) triangleFourUptoCard

/-- THE SECOND FORM's CARD OF 'compasslaw.TriangleTwice'. -/
def triangleTwiceUptoCard : Claim7 := { stood := { row := triangleTwiceUptoRow, standIns := [], harness := (true, "4518c2a0b105a542a6120b10659514bc3eba7bdd74e3d9e74ab2518e0c357bf6"), looks := false }, kinds := [], alts := [], laidByText := true, laidKinds := [.data, .data, .data, .data, .pinned], laidTests := true, laidLooks := .later }
def TriangleTwiceUptoCardSaid : Prop := Claim7.holds Tryz.pinned (.plain (OpenSpec.upto triangleTwiceSpec)) triangleTwiceUptoCard

/-- THE SECOND FORM's CARD OF 'compasslaw.LinePlain'. -/
def linePlainUptoCard : Claim7 := { stood := { row := linePlainUptoRow, standIns := [], harness := (true, "4518c2a0b105a542a6120b10659514bc3eba7bdd74e3d9e74ab2518e0c357bf6"), looks := false }, kinds := [], alts := [], laidByText := true, laidKinds := [.data, .data, .data, .data, .pinned], laidTests := true, laidLooks := .later }
def LinePlainUptoCardSaid : Prop := Claim7.holds Tryz.pinned (.plain (OpenSpec.upto linePlainSpec)) linePlainUptoCard

/-- THE SECOND FORM's CARD OF 'compasslaw.LineMeet'. -/
def lineMeetUptoCard : Claim7 := { stood := { row := lineMeetUptoRow, standIns := [], harness := (true, "4518c2a0b105a542a6120b10659514bc3eba7bdd74e3d9e74ab2518e0c357bf6"), looks := false }, kinds := [], alts := [], laidByText := true, laidKinds := [.data, .data, .data, .data, .pinned], laidTests := true, laidLooks := .later }
def LineMeetUptoCardSaid : Prop := Claim7.holds Tryz.pinned (.plain (OpenSpec.upto lineMeetSpec)) lineMeetUptoCard

/-- THE SECOND FORM's CARD OF 'compasslaw.CircleAxis'. -/
def circleAxisUptoCard : Claim7 := { stood := { row := circleAxisUptoRow, standIns := [], harness := (true, "4518c2a0b105a542a6120b10659514bc3eba7bdd74e3d9e74ab2518e0c357bf6"), looks := false }, kinds := [], alts := [], laidByText := true, laidKinds := [.data, .data, .data, .data, .pinned], laidTests := true, laidLooks := .later }
def CircleAxisUptoCardSaid : Prop := Claim7.holds Tryz.pinned (.plain (OpenSpec.upto circleAxisSpec)) circleAxisUptoCard

/-- THE SECOND FORM's CARD OF 'compasslaw.CircleHeart'. -/
def circleHeartUptoCard : Claim7 := { stood := { row := circleHeartUptoRow, standIns := [], harness := (true, "4518c2a0b105a542a6120b10659514bc3eba7bdd74e3d9e74ab2518e0c357bf6"), looks := false }, kinds := [], alts := [], laidByText := true, laidKinds := [.data, .data, .data, .data, .pinned], laidTests := true, laidLooks := .later }
def CircleHeartUptoCardSaid : Prop := Claim7.holds Tryz.pinned (.plain (OpenSpec.upto circleHeartSpec)) circleHeartUptoCard

/-- THE SECOND FORM's CARD OF 'compasslaw.CircleLie'. -/
def circleLieUptoCard : Claim7 := { stood := { row := circleLieUptoRow, standIns := [], harness := (true, "4518c2a0b105a542a6120b10659514bc3eba7bdd74e3d9e74ab2518e0c357bf6"), looks := false }, kinds := [], alts := [], laidByText := true, laidKinds := [.data, .data, .data, .data, .pinned], laidTests := true, laidLooks := .later }
def CircleLieUptoCardSaid : Prop := Claim7.holds Tryz.pinned (.plain (OpenSpec.upto circleLieSpec)) circleLieUptoCard

/-- THE SECOND FORM's CARD OF 'compasslaw.TriangleNine'. -/
def triangleNineUptoCard : Claim7 := { stood := { row := triangleNineUptoRow, standIns := [], harness := (true, "4518c2a0b105a542a6120b10659514bc3eba7bdd74e3d9e74ab2518e0c357bf6"), looks := false }, kinds := [], alts := [], laidByText := true, laidKinds := [.data, .data, .data, .data, .pinned], laidTests := true, laidLooks := .later }
def TriangleNineUptoCardSaid : Prop := Claim7.holds Tryz.pinned (.plain (OpenSpec.upto triangleNineSpec)) triangleNineUptoCard

/-- THE SECOND FORM's CARD OF 'compasslaw.TurnApply'. -/
def turnApplyUptoCard : Claim7 := { stood := { row := turnApplyUptoRow, standIns := [], harness := (true, "4518c2a0b105a542a6120b10659514bc3eba7bdd74e3d9e74ab2518e0c357bf6"), looks := false }, kinds := [], alts := [], laidByText := true, laidKinds := [.data, .data, .data, .data, .pinned], laidTests := true, laidLooks := .later }
def TurnApplyUptoCardSaid : Prop := Claim7.holds Tryz.pinned (.plain (OpenSpec.upto turnApplySpec)) turnApplyUptoCard

/-- THE SECOND FORM's CARD OF 'compasslaw.TurnCross'. -/
def turnCrossUptoCard : Claim7 := { stood := { row := turnCrossUptoRow, standIns := [], harness := (true, "4518c2a0b105a542a6120b10659514bc3eba7bdd74e3d9e74ab2518e0c357bf6"), looks := false }, kinds := [], alts := [], laidByText := true, laidKinds := [.data, .data, .data, .data, .pinned], laidTests := true, laidLooks := .later }
def TurnCrossUptoCardSaid : Prop := Claim7.holds Tryz.pinned (.plain (OpenSpec.upto turnCrossSpec)) turnCrossUptoCard

/-- THE SECOND FORM's CARD OF 'compasslaw.TurnPtolemy'. -/
def turnPtolemyUptoCard : Claim7 := { stood := { row := turnPtolemyUptoRow, standIns := [], harness := (true, "4518c2a0b105a542a6120b10659514bc3eba7bdd74e3d9e74ab2518e0c357bf6"), looks := false }, kinds := [], alts := [], laidByText := true, laidKinds := [.data, .data, .data, .data, .pinned], laidTests := true, laidLooks := .later }
def TurnPtolemyUptoCardSaid : Prop := Claim7.holds Tryz.pinned (.plain (OpenSpec.upto turnPtolemySpec)) turnPtolemyUptoCard

/-- THE SECOND FORM's CARD OF 'compasslaw.MoveMirrors'. -/
def moveMirrorsUptoCard : Claim7 := { stood := { row := moveMirrorsUptoRow, standIns := [], harness := (true, "4518c2a0b105a542a6120b10659514bc3eba7bdd74e3d9e74ab2518e0c357bf6"), looks := false }, kinds := [], alts := [], laidByText := true, laidKinds := [.data, .data, .data, .data, .pinned], laidTests := true, laidLooks := .later }
def MoveMirrorsUptoCardSaid : Prop := Claim7.holds Tryz.pinned (.plain (OpenSpec.upto moveMirrorsSpec)) moveMirrorsUptoCard

/-- THE SECOND FORM's CARD OF 'compasslaw.TurnGroup'. -/
def turnGroupUptoCard : Claim7 := { stood := { row := turnGroupUptoRow, standIns := [], harness := (true, "4518c2a0b105a542a6120b10659514bc3eba7bdd74e3d9e74ab2518e0c357bf6"), looks := false }, kinds := [], alts := [], laidByText := true, laidKinds := [.data, .data, .data, .data, .pinned], laidTests := true, laidLooks := .later }
def TurnGroupUptoCardSaid : Prop := Claim7.holds Tryz.pinned (.plain (OpenSpec.upto turnGroupSpec)) turnGroupUptoCard

/-- THE SECOND FORM's CARD OF 'compasslaw.ProjectKeeps'. -/
def projectKeepsUptoCard : Claim7 := { stood := { row := projectKeepsUptoRow, standIns := [], harness := (true, "4518c2a0b105a542a6120b10659514bc3eba7bdd74e3d9e74ab2518e0c357bf6"), looks := false }, kinds := [], alts := [], laidByText := true, laidKinds := [.data, .data, .data, .data, .pinned], laidTests := true, laidLooks := .later }
def ProjectKeepsUptoCardSaid : Prop := Claim7.holds Tryz.pinned (.plain (OpenSpec.upto projectKeepsSpec)) projectKeepsUptoCard
end Rows
end Go.Proofs.YtdgpmheeiaajkaaGreatDoor
