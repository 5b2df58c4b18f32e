/-
  DERIVED. GIVEN WITH THE SEED: THE CARDS: each row of YtldhbbignahgeaaGreatDoorRows.lean that lists a variable, with what it lists TIED to the program's text (the seventh form; the later family's looks); each row that meets fmt, with fmt's text TOLD by the authors' own Lean function (tested against real Go, not proved from fmt's source: count such statements apart). THE CARD IS WHAT COUNTS. Prove the row's statement (the work); the ties are given (YtldhbbignahgeaaGreatDoorTie.lean); close each card by the builder's one call (the guide's Derived/Test/ToyasCard.lean, 'card_holds'). Laid BY PROGRAM, IN A SANDBOX (cutbox-door.mjs). By AI agents, Wed Nov 11 2026. No macro, syntax, notation, axiom, sorry.
-/
import Derived.Test.YtldhbbignahgeaaGreatDoorRows
import GoSem.ClaimSeven
namespace Go.Proofs.YtldhbbignahgeaaGreatDoor
namespace Rows

/-- THE TIED CARD OF 'compasslaw.TriangleSides'. -/
def triangleSidesCard : Claim7 := { stood := { row := triangleSidesRow, standIns := [], harness := (true, "ef8c9761056efaa9f3b81e151a0c7ccc4a053412c77711df4fbe0795179751f3"), looks := false }, kinds := [], alts := [], laidByText := true, laidKinds := [.data, .data, .data, .data, .pinned], laidTests := true, laidLooks := .later }
def TriangleSidesCardSaid : Prop := Claim7.holds Tryz.pinned (.plain (OpenSpec.ofChange triangleSidesSpec)) triangleSidesCard

/-- THE TIED CARD OF 'compasslaw.TriangleWeights'. -/
def triangleWeightsCard : Claim7 := { stood := { row := triangleWeightsRow, standIns := [], harness := (true, "ef8c9761056efaa9f3b81e151a0c7ccc4a053412c77711df4fbe0795179751f3"), looks := false }, kinds := [], alts := [], laidByText := true, laidKinds := [.data, .data, .data, .data, .pinned], laidTests := true, laidLooks := .later }
def TriangleWeightsCardSaid : Prop := Claim7.holds Tryz.pinned (.plain (OpenSpec.ofChange triangleWeightsSpec)) triangleWeightsCard

/-- THE TIED CARD OF 'compasslaw.TriangleWeigh'. -/
def triangleWeighCard : Claim7 := { stood := { row := triangleWeighRow, standIns := [], harness := (true, "ef8c9761056efaa9f3b81e151a0c7ccc4a053412c77711df4fbe0795179751f3"), looks := false }, kinds := [], alts := [], laidByText := true, laidKinds := [.data, .data, .data, .data, .pinned], laidTests := true, laidLooks := .later }
def TriangleWeighCardSaid : Prop := Claim7.holds Tryz.pinned (.plain (OpenSpec.ofChange triangleWeighSpec)) triangleWeighCard

/-- THE TIED CARD OF 'compasslaw.TriangleFeet'. -/
def triangleFeetCard : Claim7 := { stood := { row := triangleFeetRow, standIns := [], harness := (true, "ef8c9761056efaa9f3b81e151a0c7ccc4a053412c77711df4fbe0795179751f3"), looks := false }, kinds := [], alts := [], laidByText := true, laidKinds := [.data, .data, .data, .data, .pinned], laidTests := true, laidLooks := .later }
def TriangleFeetCardSaid : Prop := Claim7.holds Tryz.pinned (.plain (OpenSpec.ofChange triangleFeetSpec)) triangleFeetCard

/-- THE TIED CARD OF 'compasslaw.TriangleRays'. -/
def triangleRaysCard : Claim7 := { stood := { row := triangleRaysRow, standIns := [], harness := (true, "ef8c9761056efaa9f3b81e151a0c7ccc4a053412c77711df4fbe0795179751f3"), looks := false }, kinds := [], alts := [], laidByText := true, laidKinds := [.data, .data, .data, .data, .pinned], laidTests := true, laidLooks := .later }
def TriangleRaysCardSaid : Prop := Claim7.holds Tryz.pinned (.plain (OpenSpec.ofChange triangleRaysSpec)) triangleRaysCard

/-- THE TIED CARD OF 'compasslaw.TriangleCircle'. -/
def triangleCircleCard : Claim7 := { stood := { row := triangleCircleRow, standIns := [], harness := (true, "ef8c9761056efaa9f3b81e151a0c7ccc4a053412c77711df4fbe0795179751f3"), looks := false }, kinds := [], alts := [], laidByText := true, laidKinds := [.data, .data, .data, .data, .pinned], laidTests := true, laidLooks := .later }
def TriangleCircleCardSaid : Prop := Claim7.holds Tryz.pinned (.plain (OpenSpec.ofChange triangleCircleSpec)) triangleCircleCard

/-- THE TIED CARD OF 'compasslaw.TriangleEuler'. -/
def triangleEulerCard : Claim7 := { stood := { row := triangleEulerRow, standIns := [], harness := (true, "ef8c9761056efaa9f3b81e151a0c7ccc4a053412c77711df4fbe0795179751f3"), looks := false }, kinds := [], alts := [], laidByText := true, laidKinds := [.data, .data, .data, .data, .pinned], laidTests := true, laidLooks := .later }
def TriangleEulerCardSaid : Prop := Claim7.holds Tryz.pinned (.plain (OpenSpec.ofChange triangleEulerSpec)) triangleEulerCard

/-- THE TIED CARD OF 'compasslaw.TriangleNine'. -/
def triangleNineCard : Claim7 := { stood := { row := triangleNineRow, standIns := [], harness := (true, "ef8c9761056efaa9f3b81e151a0c7ccc4a053412c77711df4fbe0795179751f3"), looks := false }, kinds := [], alts := [], laidByText := true, laidKinds := [.data, .data, .data, .data, .pinned], laidTests := true, laidLooks := .later }
def TriangleNineCardSaid : Prop := Claim7.holds Tryz.pinned (.plain (OpenSpec.ofChange triangleNineSpec)) triangleNineCard

/-- THE TIED CARD OF 'compasslaw.TriangleMenelaus'. -/
def triangleMenelausCard : Claim7 := { stood := { row := triangleMenelausRow, standIns := [], harness := (true, "ef8c9761056efaa9f3b81e151a0c7ccc4a053412c77711df4fbe0795179751f3"), looks := false }, kinds := [], alts := [], laidByText := true, laidKinds := [.data, .data, .data, .data, .pinned], laidTests := true, laidLooks := .later }
def TriangleMenelausCardSaid : Prop := Claim7.holds Tryz.pinned (.plain (OpenSpec.ofChange triangleMenelausSpec)) triangleMenelausCard

/-- THE TIED CARD OF 'compasslaw.TriangleMass'. -/
def triangleMassCard : Claim7 := { stood := { row := triangleMassRow, standIns := [], harness := (true, "ef8c9761056efaa9f3b81e151a0c7ccc4a053412c77711df4fbe0795179751f3"), looks := false }, kinds := [], alts := [], laidByText := true, laidKinds := [.data, .data, .data, .data, .pinned], laidTests := true, laidLooks := .later }
def TriangleMassCardSaid : Prop := Claim7.holds Tryz.pinned (.plain (OpenSpec.ofChange triangleMassSpec)) triangleMassCard

/-- THE TIED CARD OF 'compasslaw.CircleThrough'. -/
def circleThroughCard : Claim7 := { stood := { row := circleThroughRow, standIns := [], harness := (true, "ef8c9761056efaa9f3b81e151a0c7ccc4a053412c77711df4fbe0795179751f3"), looks := false }, kinds := [], alts := [], laidByText := true, laidKinds := [.data, .data, .data, .data, .pinned], laidTests := true, laidLooks := .later }
def CircleThroughCardSaid : Prop := Claim7.holds Tryz.pinned (.plain (OpenSpec.ofChange circleThroughSpec)) circleThroughCard

/-- THE TIED CARD OF 'compasslaw.CircleAxis'. -/
def circleAxisCard : Claim7 := { stood := { row := circleAxisRow, standIns := [], harness := (true, "ef8c9761056efaa9f3b81e151a0c7ccc4a053412c77711df4fbe0795179751f3"), looks := false }, kinds := [], alts := [], laidByText := true, laidKinds := [.data, .data, .data, .data, .pinned], laidTests := true, laidLooks := .later }
def CircleAxisCardSaid : Prop := Claim7.holds Tryz.pinned (.plain (OpenSpec.ofChange circleAxisSpec)) circleAxisCard

/-- THE TIED CARD OF 'compasslaw.CircleHeart'. -/
def circleHeartCard : Claim7 := { stood := { row := circleHeartRow, standIns := [], harness := (true, "ef8c9761056efaa9f3b81e151a0c7ccc4a053412c77711df4fbe0795179751f3"), looks := false }, kinds := [], alts := [], laidByText := true, laidKinds := [.data, .data, .data, .data, .pinned], laidTests := true, laidLooks := .later }
def CircleHeartCardSaid : Prop := Claim7.holds Tryz.pinned (.plain (OpenSpec.ofChange circleHeartSpec)) circleHeartCard

/-- THE TIED CARD OF 'compasslaw.CircleLie'. -/
def circleLieCard : Claim7 := { stood := { row := circleLieRow, standIns := [], harness := (true, "ef8c9761056efaa9f3b81e151a0c7ccc4a053412c77711df4fbe0795179751f3"), looks := false }, kinds := [], alts := [], laidByText := true, laidKinds := [.data, .data, .data, .data, .pinned], laidTests := true, laidLooks := .later }
def CircleLieCardSaid : Prop := Claim7.holds Tryz.pinned (.plain (OpenSpec.ofChange circleLieSpec)) circleLieCard

/-- THE TIED CARD OF 'compasslaw.TurnCross'. -/
def turnCrossCard : Claim7 := { stood := { row := turnCrossRow, standIns := [], harness := (true, "ef8c9761056efaa9f3b81e151a0c7ccc4a053412c77711df4fbe0795179751f3"), looks := false }, kinds := [], alts := [], laidByText := true, laidKinds := [.data, .data, .data, .data, .pinned], laidTests := true, laidLooks := .later }
def TurnCrossCardSaid : Prop := Claim7.holds Tryz.pinned (.plain (OpenSpec.ofChange turnCrossSpec)) turnCrossCard

/-- THE TIED CARD OF 'compasslaw.TurnApply'. -/
def turnApplyCard : Claim7 := { stood := { row := turnApplyRow, standIns := [], harness := (true, "ef8c9761056efaa9f3b81e151a0c7ccc4a053412c77711df4fbe0795179751f3"), looks := false }, kinds := [], alts := [], laidByText := true, laidKinds := [.data, .data, .data, .data, .pinned], laidTests := true, laidLooks := .later }
def TurnApplyCardSaid : Prop := Claim7.holds Tryz.pinned (.plain (OpenSpec.ofChange turnApplySpec)) turnApplyCard

/-- THE TIED CARD OF 'compasslaw.TurnPtolemy'. -/
def turnPtolemyCard : Claim7 := { stood := { row := turnPtolemyRow, standIns := [], harness := (true, "ef8c9761056efaa9f3b81e151a0c7ccc4a053412c77711df4fbe0795179751f3"), looks := false }, kinds := [], alts := [], laidByText := true, laidKinds := [.data, .data, .data, .data, .pinned], laidTests := true, laidLooks := .later }
def TurnPtolemyCardSaid : Prop := Claim7.holds Tryz.pinned (.plain (OpenSpec.ofChange turnPtolemySpec)) turnPtolemyCard

/-- THE TIED CARD OF 'compasslaw.AngleMiddle'. -/
def angleMiddleCard : Claim7 := { stood := { row := angleMiddleRow, standIns := [], harness := (true, "ef8c9761056efaa9f3b81e151a0c7ccc4a053412c77711df4fbe0795179751f3"), looks := false }, kinds := [], alts := [], laidByText := true, laidKinds := [.data, .data, .data, .data, .pinned], laidTests := true, laidLooks := .later }
def AngleMiddleCardSaid : Prop := Claim7.holds Tryz.pinned (.plain (OpenSpec.ofChange angleMiddleSpec)) angleMiddleCard

/-- THE TIED CARD OF 'compasslaw.LinePlain'. -/
def linePlainCard : Claim7 := { stood := { row := linePlainRow, standIns := [], harness := (true, "ef8c9761056efaa9f3b81e151a0c7ccc4a053412c77711df4fbe0795179751f3"), looks := false }, kinds := [], alts := [], laidByText := true, laidKinds := [.data, .data, .data, .data, .pinned], laidTests := true, laidLooks := .later }
def LinePlainCardSaid : Prop := Claim7.holds Tryz.pinned (.plain (OpenSpec.ofChange linePlainSpec)) linePlainCard

/-- THE TIED CARD OF 'compasslaw.LineMeet'. -/
def lineMeetCard : Claim7 := { stood := { row := lineMeetRow, standIns := [], harness := (true, "ef8c9761056efaa9f3b81e151a0c7ccc4a053412c77711df4fbe0795179751f3"), looks := false }, kinds := [], alts := [], laidByText := true, laidKinds := [.data, .data, .data, .data, .pinned], laidTests := true, laidLooks := .later }
def LineMeetCardSaid : Prop := Claim7.holds Tryz.pinned (.plain (OpenSpec.ofChange lineMeetSpec)) lineMeetCard

/-- THE SECOND FORM's CARD OF 'compasslaw.TriangleSides'. -/
def triangleSidesUptoCard : Claim7 := { stood := { row := triangleSidesUptoRow, standIns := [], harness := (true, "ef8c9761056efaa9f3b81e151a0c7ccc4a053412c77711df4fbe0795179751f3"), looks := false }, kinds := [], alts := [], laidByText := true, laidKinds := [.data, .data, .data, .data, .pinned], laidTests := true, laidLooks := .later }
def TriangleSidesUptoCardSaid : Prop := Claim7.holds Tryz.pinned (.plain (OpenSpec.upto triangleSidesSpec)) triangleSidesUptoCard

/-- THE SECOND FORM's CARD OF 'compasslaw.TriangleWeights'. -/
def triangleWeightsUptoCard : Claim7 := { stood := { row := triangleWeightsUptoRow, standIns := [], harness := (true, "ef8c9761056efaa9f3b81e151a0c7ccc4a053412c77711df4fbe0795179751f3"), looks := false }, kinds := [], alts := [], laidByText := true, laidKinds := [.data, .data, .data, .data, .pinned], laidTests := true, laidLooks := .later }
def TriangleWeightsUptoCardSaid : Prop := Claim7.holds Tryz.pinned (.plain (OpenSpec.upto triangleWeightsSpec)) triangleWeightsUptoCard

/-- THE SECOND FORM's CARD OF 'compasslaw.TriangleWeigh'. -/
def triangleWeighUptoCard : Claim7 := { stood := { row := triangleWeighUptoRow, standIns := [], harness := (true, "ef8c9761056efaa9f3b81e151a0c7ccc4a053412c77711df4fbe0795179751f3"), looks := false }, kinds := [], alts := [], laidByText := true, laidKinds := [.data, .data, .data, .data, .pinned], laidTests := true, laidLooks := .later }
def TriangleWeighUptoCardSaid : Prop := Claim7.holds Tryz.pinned (.plain (OpenSpec.upto triangleWeighSpec)) triangleWeighUptoCard

/-- THE SECOND FORM's CARD OF 'compasslaw.TriangleFeet'. -/
def triangleFeetUptoCard : Claim7 := { stood := { row := triangleFeetUptoRow, standIns := [], harness := (true, "ef8c9761056efaa9f3b81e151a0c7ccc4a053412c77711df4fbe0795179751f3"), looks := false }, kinds := [], alts := [], laidByText := true, laidKinds := [.data, .data, .data, .data, .pinned], laidTests := true, laidLooks := .later }
def TriangleFeetUptoCardSaid : Prop := Claim7.holds Tryz.pinned (.plain (OpenSpec.upto triangleFeetSpec)) triangleFeetUptoCard

/-- THE SECOND FORM's CARD OF 'compasslaw.TriangleRays'. -/
def triangleRaysUptoCard : Claim7 := { stood := { row := triangleRaysUptoRow, standIns := [], harness := (true, "ef8c9761056efaa9f3b81e151a0c7ccc4a053412c77711df4fbe0795179751f3"), looks := false }, kinds := [], alts := [], laidByText := true, laidKinds := [.data, .data, .data, .data, .pinned], laidTests := true, laidLooks := .later }
def TriangleRaysUptoCardSaid : Prop := Claim7.holds Tryz.pinned (.plain (OpenSpec.upto triangleRaysSpec)) triangleRaysUptoCard

/-- THE SECOND FORM's CARD OF 'compasslaw.TriangleCircle'. -/
def triangleCircleUptoCard : Claim7 := { stood := { row := triangleCircleUptoRow, standIns := [], harness := (true, "ef8c9761056efaa9f3b81e151a0c7ccc4a053412c77711df4fbe0795179751f3"), looks := false }, kinds := [], alts := [], laidByText := true, laidKinds := [.data, .data, .data, .data, .pinned], laidTests := true, laidLooks := .later }
def TriangleCircleUptoCardSaid : Prop := Claim7.holds Tryz.pinned (.plain (OpenSpec.upto triangleCircleSpec)) triangleCircleUptoCard

/-- THE SECOND FORM's CARD OF 'compasslaw.TriangleEuler'. -/
def triangleEulerUptoCard : Claim7 := { stood := { row := triangleEulerUptoRow, standIns := [], harness := (true, "ef8c9761056efaa9f3b81e151a0c7ccc4a053412c77711df4fbe0795179751f3"), looks := false }, kinds := [], alts := [], laidByText := true, laidKinds := [.data, .data, .data, .data, .pinned], laidTests := true, laidLooks := .later }
def TriangleEulerUptoCardSaid : Prop := Claim7.holds Tryz.pinned (.plain (OpenSpec.upto triangleEulerSpec)) triangleEulerUptoCard

/-- THE SECOND FORM's CARD OF 'compasslaw.TriangleNine'. -/
def triangleNineUptoCard : Claim7 := { stood := { row := triangleNineUptoRow, standIns := [], harness := (true, "ef8c9761056efaa9f3b81e151a0c7ccc4a053412c77711df4fbe0795179751f3"), looks := false }, kinds := [], alts := [], laidByText := true, laidKinds := [.data, .data, .data, .data, .pinned], laidTests := true, laidLooks := .later }
def TriangleNineUptoCardSaid : Prop := Claim7.holds Tryz.pinned (.plain (OpenSpec.upto triangleNineSpec)) triangleNineUptoCard

/-- THE SECOND FORM's CARD OF 'compasslaw.TriangleMenelaus'. -/
def triangleMenelausUptoCard : Claim7 := { stood := { row := triangleMenelausUptoRow, standIns := [], harness := (true, "ef8c9761056efaa9f3b81e151a0c7ccc4a053412c77711df4fbe0795179751f3"), looks := false }, kinds := [], alts := [], laidByText := true, laidKinds := [.data, .data, .data, .data, .pinned], laidTests := true, laidLooks := .later }
def TriangleMenelausUptoCardSaid : Prop := Claim7.holds Tryz.pinned (.plain (OpenSpec.upto triangleMenelausSpec)) triangleMenelausUptoCard

/-- THE SECOND FORM's CARD OF 'compasslaw.TriangleMass'. -/
def triangleMassUptoCard : Claim7 := { stood := { row := triangleMassUptoRow, standIns := [], harness := (true, "ef8c9761056efaa9f3b81e151a0c7ccc4a053412c77711df4fbe0795179751f3"), looks := false }, kinds := [], alts := [], laidByText := true, laidKinds := [.data, .data, .data, .data, .pinned], laidTests := true, laidLooks := .later }
def TriangleMassUptoCardSaid : Prop := Claim7.holds Tryz.pinned (.plain (OpenSpec.upto triangleMassSpec)) triangleMassUptoCard

/-- THE SECOND FORM's CARD OF 'compasslaw.CircleThrough'. -/
def circleThroughUptoCard : Claim7 := { stood := { row := circleThroughUptoRow, standIns := [], harness := (true, "ef8c9761056efaa9f3b81e151a0c7ccc4a053412c77711df4fbe0795179751f3"), looks := false }, kinds := [], alts := [], laidByText := true, laidKinds := [.data, .data, .data, .data, .pinned], laidTests := true, laidLooks := .later }
def CircleThroughUptoCardSaid : Prop := Claim7.holds Tryz.pinned (.plain (OpenSpec.upto circleThroughSpec)) circleThroughUptoCard

/-- THE SECOND FORM's CARD OF 'compasslaw.CircleAxis'. -/
def circleAxisUptoCard : Claim7 := { stood := { row := circleAxisUptoRow, standIns := [], harness := (true, "ef8c9761056efaa9f3b81e151a0c7ccc4a053412c77711df4fbe0795179751f3"), looks := false }, kinds := [], alts := [], laidByText := true, laidKinds := [.data, .data, .data, .data, .pinned], laidTests := true, laidLooks := .later }
def CircleAxisUptoCardSaid : Prop := Claim7.holds Tryz.pinned (.plain (OpenSpec.upto circleAxisSpec)) circleAxisUptoCard

/-- THE SECOND FORM's CARD OF 'compasslaw.CircleHeart'. -/
def circleHeartUptoCard : Claim7 := { stood := { row := circleHeartUptoRow, standIns := [], harness := (true, "ef8c9761056efaa9f3b81e151a0c7ccc4a053412c77711df4fbe0795179751f3"), looks := false }, kinds := [], alts := [], laidByText := true, laidKinds := [.data, .data, .data, .data, .pinned], laidTests := true, laidLooks := .later }
def CircleHeartUptoCardSaid : Prop := Claim7.holds Tryz.pinned (.plain (OpenSpec.upto circleHeartSpec)) circleHeartUptoCard

/-- THE SECOND FORM's CARD OF 'compasslaw.CircleLie'. -/
def circleLieUptoCard : Claim7 := { stood := { row := circleLieUptoRow, standIns := [], harness := (true, "ef8c9761056efaa9f3b81e151a0c7ccc4a053412c77711df4fbe0795179751f3"), looks := false }, kinds := [], alts := [], laidByText := true, laidKinds := [.data, .data, .data, .data, .pinned], laidTests := true, laidLooks := .later }
def CircleLieUptoCardSaid : Prop := Claim7.holds Tryz.pinned (.plain (OpenSpec.upto circleLieSpec)) circleLieUptoCard

/-- THE SECOND FORM's CARD OF 'compasslaw.TurnCross'. -/
def turnCrossUptoCard : Claim7 := { stood := { row := turnCrossUptoRow, standIns := [], harness := (true, "ef8c9761056efaa9f3b81e151a0c7ccc4a053412c77711df4fbe0795179751f3"), looks := false }, kinds := [], alts := [], laidByText := true, laidKinds := [.data, .data, .data, .data, .pinned], laidTests := true, laidLooks := .later }
def TurnCrossUptoCardSaid : Prop := Claim7.holds Tryz.pinned (.plain (OpenSpec.upto turnCrossSpec)) turnCrossUptoCard

/-- THE SECOND FORM's CARD OF 'compasslaw.TurnApply'. -/
def turnApplyUptoCard : Claim7 := { stood := { row := turnApplyUptoRow, standIns := [], harness := (true, "ef8c9761056efaa9f3b81e151a0c7ccc4a053412c77711df4fbe0795179751f3"), looks := false }, kinds := [], alts := [], laidByText := true, laidKinds := [.data, .data, .data, .data, .pinned], laidTests := true, laidLooks := .later }
def TurnApplyUptoCardSaid : Prop := Claim7.holds Tryz.pinned (.plain (OpenSpec.upto turnApplySpec)) turnApplyUptoCard

/-- THE SECOND FORM's CARD OF 'compasslaw.TurnPtolemy'. -/
def turnPtolemyUptoCard : Claim7 := { stood := { row := turnPtolemyUptoRow, standIns := [], harness := (true, "ef8c9761056efaa9f3b81e151a0c7ccc4a053412c77711df4fbe0795179751f3"), looks := false }, kinds := [], alts := [], laidByText := true, laidKinds := [.data, .data, .data, .data, .pinned], laidTests := true, laidLooks := .later }
def TurnPtolemyUptoCardSaid : Prop := Claim7.holds Tryz.pinned (.plain (OpenSpec.upto turnPtolemySpec)) turnPtolemyUptoCard

/-- THE SECOND FORM's CARD OF 'compasslaw.AngleMiddle'. -/
def angleMiddleUptoCard : Claim7 := { stood := { row := angleMiddleUptoRow, standIns := [], harness := (true, "ef8c9761056efaa9f3b81e151a0c7ccc4a053412c77711df4fbe0795179751f3"), looks := false }, kinds := [], alts := [], laidByText := true, laidKinds := [.data, .data, .data, .data, .pinned], laidTests := true, laidLooks := .later }
def AngleMiddleUptoCardSaid : Prop := Claim7.holds Tryz.pinned (.plain (OpenSpec.upto angleMiddleSpec)) angleMiddleUptoCard

/-- THE SECOND FORM's CARD OF 'compasslaw.LinePlain'. -/
def linePlainUptoCard : Claim7 := { stood := { row := linePlainUptoRow, standIns := [], harness := (true, "ef8c9761056efaa9f3b81e151a0c7ccc4a053412c77711df4fbe0795179751f3"), looks := false }, kinds := [], alts := [], laidByText := true, laidKinds := [.data, .data, .data, .data, .pinned], laidTests := true, laidLooks := .later }
def LinePlainUptoCardSaid : Prop := Claim7.holds Tryz.pinned (.plain (OpenSpec.upto linePlainSpec)) linePlainUptoCard

/-- THE SECOND FORM's CARD OF 'compasslaw.LineMeet'. -/
def lineMeetUptoCard : Claim7 := { stood := { row := lineMeetUptoRow, standIns := [], harness := (true, "ef8c9761056efaa9f3b81e151a0c7ccc4a053412c77711df4fbe0795179751f3"), looks := false }, kinds := [], alts := [], laidByText := true, laidKinds := [.data, .data, .data, .data, .pinned], laidTests := true, laidLooks := .later }
def LineMeetUptoCardSaid : Prop := Claim7.holds Tryz.pinned (.plain (OpenSpec.upto lineMeetSpec)) lineMeetUptoCard
end Rows
end Go.Proofs.YtldhbbignahgeaaGreatDoor
