/-
  DERIVED. GIVEN WITH THE SEED: THE CARDS: each row of YtogmiiacfnfnpaaGreatDoorRows.lean that lists a variable, with what it lists TIED to the program's text (the seventh form; the later family's looks); each row that meets fmt, with fmt's text TOLD by the authors' own Lean function (tested against real Go, not proved from fmt's source: count such statements apart). THE CARD IS WHAT COUNTS. Prove the row's statement (the work); the ties are given (YtogmiiacfnfnpaaGreatDoorTie.lean); close each card by the builder's one call (the guide's Derived/Test/ToyasCard.lean, 'card_holds'). Laid BY PROGRAM, IN A SANDBOX (cutbox-door.mjs). By AI agents, Wed Nov 11 2026. No macro, syntax, notation, axiom, sorry.
-/
import Derived.Test.YtogmiiacfnfnpaaGreatDoorRows
import GoSem.ClaimSeven
namespace Go.Proofs.YtogmiiacfnfnpaaGreatDoor
namespace Rows

/-- THE TIED CARD OF 'compasslaw.LinePlain'. -/
def linePlainCard : Claim7 := { stood := { row := linePlainRow, standIns := [], harness := (true, "df0fb5417fb2c60ca95456b894484a65c1dac85d4557f81bb07f8a9820d6f8b6"), looks := false }, kinds := [], alts := [], laidByText := true, laidKinds := [.data, .data, .data, .data, .pinned], laidTests := true, laidLooks := .later }
def LinePlainCardSaid : Prop := Claim7.holds Tryz.pinned (.plain (OpenSpec.ofChange linePlainSpec)) linePlainCard

/-- THE TIED CARD OF 'compasslaw.LineMeet'. -/
def lineMeetCard : Claim7 := { stood := { row := lineMeetRow, standIns := [], harness := (true, "df0fb5417fb2c60ca95456b894484a65c1dac85d4557f81bb07f8a9820d6f8b6"), looks := false }, kinds := [], alts := [], laidByText := true, laidKinds := [.data, .data, .data, .data, .pinned], laidTests := true, laidLooks := .later }
def LineMeetCardSaid : Prop := Claim7.holds Tryz.pinned (.plain (OpenSpec.ofChange lineMeetSpec)) lineMeetCard

/-- THE TIED CARD OF 'compasslaw.AngleMiddle'. -/
def angleMiddleCard : Claim7 := { stood := { row := angleMiddleRow, standIns := [], harness := (true, "df0fb5417fb2c60ca95456b894484a65c1dac85d4557f81bb07f8a9820d6f8b6"), looks := false }, kinds := [], alts := [], laidByText := true, laidKinds := [.data, .data, .data, .data, .pinned], laidTests := true, laidLooks := .later }
def AngleMiddleCardSaid : Prop := Claim7.holds Tryz.pinned (.plain (OpenSpec.ofChange angleMiddleSpec)) angleMiddleCard

/-- THE TIED CARD OF 'compasslaw.CirclePower'. -/
def circlePowerCard : Claim7 := { stood := { row := circlePowerRow, standIns := [], harness := (true, "df0fb5417fb2c60ca95456b894484a65c1dac85d4557f81bb07f8a9820d6f8b6"), looks := false }, kinds := [], alts := [], laidByText := true, laidKinds := [.data, .data, .data, .data, .pinned], laidTests := true, laidLooks := .later }
def CirclePowerCardSaid : Prop := Claim7.holds Tryz.pinned (.plain (OpenSpec.ofChange circlePowerSpec)) circlePowerCard

/-- THE TIED CARD OF 'compasslaw.CircleTouch'. -/
def circleTouchCard : Claim7 := { stood := { row := circleTouchRow, standIns := [], harness := (true, "df0fb5417fb2c60ca95456b894484a65c1dac85d4557f81bb07f8a9820d6f8b6"), looks := false }, kinds := [], alts := [], laidByText := true, laidKinds := [.data, .data, .data, .data, .pinned], laidTests := true, laidLooks := .later }
def CircleTouchCardSaid : Prop := Claim7.holds Tryz.pinned (.plain (OpenSpec.ofChange circleTouchSpec)) circleTouchCard

/-- THE TIED CARD OF 'compasslaw.CircleSecond'. -/
def circleSecondCard : Claim7 := { stood := { row := circleSecondRow, standIns := [], harness := (true, "df0fb5417fb2c60ca95456b894484a65c1dac85d4557f81bb07f8a9820d6f8b6"), looks := false }, kinds := [], alts := [], laidByText := true, laidKinds := [.data, .data, .data, .data, .pinned], laidTests := true, laidLooks := .later }
def CircleSecondCardSaid : Prop := Claim7.holds Tryz.pinned (.plain (OpenSpec.ofChange circleSecondSpec)) circleSecondCard

/-- THE TIED CARD OF 'compasslaw.CircleFar'. -/
def circleFarCard : Claim7 := { stood := { row := circleFarRow, standIns := [], harness := (true, "df0fb5417fb2c60ca95456b894484a65c1dac85d4557f81bb07f8a9820d6f8b6"), looks := false }, kinds := [], alts := [], laidByText := true, laidKinds := [.data, .data, .data, .data, .pinned], laidTests := true, laidLooks := .later }
def CircleFarCardSaid : Prop := Claim7.holds Tryz.pinned (.plain (OpenSpec.ofChange circleFarSpec)) circleFarCard

/-- THE TIED CARD OF 'compasslaw.CircleHire'. -/
def circleHireCard : Claim7 := { stood := { row := circleHireRow, standIns := [], harness := (true, "df0fb5417fb2c60ca95456b894484a65c1dac85d4557f81bb07f8a9820d6f8b6"), looks := false }, kinds := [], alts := [], laidByText := true, laidKinds := [.data, .data, .data, .data, .pinned], laidTests := true, laidLooks := .later }
def CircleHireCardSaid : Prop := Claim7.holds Tryz.pinned (.plain (OpenSpec.ofChange circleHireSpec)) circleHireCard

/-- THE TIED CARD OF 'compasslaw.CircleThales'. -/
def circleThalesCard : Claim7 := { stood := { row := circleThalesRow, standIns := [], harness := (true, "df0fb5417fb2c60ca95456b894484a65c1dac85d4557f81bb07f8a9820d6f8b6"), looks := false }, kinds := [], alts := [], laidByText := true, laidKinds := [.data, .data, .data, .data, .pinned], laidTests := true, laidLooks := .later }
def CircleThalesCardSaid : Prop := Claim7.holds Tryz.pinned (.plain (OpenSpec.ofChange circleThalesSpec)) circleThalesCard

/-- THE TIED CARD OF 'compasslaw.CircleEuclid'. -/
def circleEuclidCard : Claim7 := { stood := { row := circleEuclidRow, standIns := [], harness := (true, "df0fb5417fb2c60ca95456b894484a65c1dac85d4557f81bb07f8a9820d6f8b6"), looks := false }, kinds := [], alts := [], laidByText := true, laidKinds := [.data, .data, .data, .data, .pinned], laidTests := true, laidLooks := .later }
def CircleEuclidCardSaid : Prop := Claim7.holds Tryz.pinned (.plain (OpenSpec.ofChange circleEuclidSpec)) circleEuclidCard

/-- THE TIED CARD OF 'compasslaw.TurnPoint'. -/
def turnPointCard : Claim7 := { stood := { row := turnPointRow, standIns := [], harness := (true, "df0fb5417fb2c60ca95456b894484a65c1dac85d4557f81bb07f8a9820d6f8b6"), looks := false }, kinds := [], alts := [], laidByText := true, laidKinds := [.data, .data, .data, .data, .pinned], laidTests := true, laidLooks := .later }
def TurnPointCardSaid : Prop := Claim7.holds Tryz.pinned (.plain (OpenSpec.ofChange turnPointSpec)) turnPointCard

/-- THE TIED CARD OF 'compasslaw.TurnPtolemy'. -/
def turnPtolemyCard : Claim7 := { stood := { row := turnPtolemyRow, standIns := [], harness := (true, "df0fb5417fb2c60ca95456b894484a65c1dac85d4557f81bb07f8a9820d6f8b6"), looks := false }, kinds := [], alts := [], laidByText := true, laidKinds := [.data, .data, .data, .data, .pinned], laidTests := true, laidLooks := .later }
def TurnPtolemyCardSaid : Prop := Claim7.holds Tryz.pinned (.plain (OpenSpec.ofChange turnPtolemySpec)) turnPtolemyCard

/-- THE SECOND FORM's CARD OF 'compasslaw.LinePlain'. -/
def linePlainUptoCard : Claim7 := { stood := { row := linePlainUptoRow, standIns := [], harness := (true, "df0fb5417fb2c60ca95456b894484a65c1dac85d4557f81bb07f8a9820d6f8b6"), looks := false }, kinds := [], alts := [], laidByText := true, laidKinds := [.data, .data, .data, .data, .pinned], laidTests := true, laidLooks := .later }
def LinePlainUptoCardSaid : Prop := Claim7.holds Tryz.pinned (.plain (OpenSpec.upto linePlainSpec)) linePlainUptoCard

/-- THE SECOND FORM's CARD OF 'compasslaw.LineMeet'. -/
def lineMeetUptoCard : Claim7 := { stood := { row := lineMeetUptoRow, standIns := [], harness := (true, "df0fb5417fb2c60ca95456b894484a65c1dac85d4557f81bb07f8a9820d6f8b6"), looks := false }, kinds := [], alts := [], laidByText := true, laidKinds := [.data, .data, .data, .data, .pinned], laidTests := true, laidLooks := .later }
def LineMeetUptoCardSaid : Prop := Claim7.holds Tryz.pinned (.plain (OpenSpec.upto lineMeetSpec)) lineMeetUptoCard

/-- THE SECOND FORM's CARD OF 'compasslaw.AngleMiddle'. -/
def angleMiddleUptoCard : Claim7 := { stood := { row := angleMiddleUptoRow, standIns := [], harness := (true, "df0fb5417fb2c60ca95456b894484a65c1dac85d4557f81bb07f8a9820d6f8b6"), looks := false }, kinds := [], alts := [], laidByText := true, laidKinds := [.data, .data, .data, .data, .pinned], laidTests := true, laidLooks := .later }
def AngleMiddleUptoCardSaid : Prop := Claim7.holds Tryz.pinned (.plain (OpenSpec.upto angleMiddleSpec)) angleMiddleUptoCard

/-- THE SECOND FORM's CARD OF 'compasslaw.CirclePower'. -/
def circlePowerUptoCard : Claim7 := { stood := { row := circlePowerUptoRow, standIns := [], harness := (true, "df0fb5417fb2c60ca95456b894484a65c1dac85d4557f81bb07f8a9820d6f8b6"), looks := false }, kinds := [], alts := [], laidByText := true, laidKinds := [.data, .data, .data, .data, .pinned], laidTests := true, laidLooks := .later }
def CirclePowerUptoCardSaid : Prop := Claim7.holds Tryz.pinned (.plain (OpenSpec.upto circlePowerSpec)) circlePowerUptoCard

/-- THE SECOND FORM's CARD OF 'compasslaw.CircleTouch'. -/
def circleTouchUptoCard : Claim7 := { stood := { row := circleTouchUptoRow, standIns := [], harness := (true, "df0fb5417fb2c60ca95456b894484a65c1dac85d4557f81bb07f8a9820d6f8b6"), looks := false }, kinds := [], alts := [], laidByText := true, laidKinds := [.data, .data, .data, .data, .pinned], laidTests := true, laidLooks := .later }
def CircleTouchUptoCardSaid : Prop := Claim7.holds Tryz.pinned (.plain (OpenSpec.upto circleTouchSpec)) circleTouchUptoCard

/-- THE SECOND FORM's CARD OF 'compasslaw.CircleSecond'. -/
def circleSecondUptoCard : Claim7 := { stood := { row := circleSecondUptoRow, standIns := [], harness := (true, "df0fb5417fb2c60ca95456b894484a65c1dac85d4557f81bb07f8a9820d6f8b6"), looks := false }, kinds := [], alts := [], laidByText := true, laidKinds := [.data, .data, .data, .data, .pinned], laidTests := true, laidLooks := .later }
def CircleSecondUptoCardSaid : Prop := Claim7.holds Tryz.pinned (.plain (OpenSpec.upto circleSecondSpec)) circleSecondUptoCard

/-- THE SECOND FORM's CARD OF 'compasslaw.CircleFar'. -/
def circleFarUptoCard : Claim7 := { stood := { row := circleFarUptoRow, standIns := [], harness := (true, "df0fb5417fb2c60ca95456b894484a65c1dac85d4557f81bb07f8a9820d6f8b6"), looks := false }, kinds := [], alts := [], laidByText := true, laidKinds := [.data, .data, .data, .data, .pinned], laidTests := true, laidLooks := .later }
def CircleFarUptoCardSaid : Prop := Claim7.holds Tryz.pinned (.plain (OpenSpec.upto circleFarSpec)) circleFarUptoCard

/-- THE SECOND FORM's CARD OF 'compasslaw.CircleHire'. -/
def circleHireUptoCard : Claim7 := { stood := { row := circleHireUptoRow, standIns := [], harness := (true, "df0fb5417fb2c60ca95456b894484a65c1dac85d4557f81bb07f8a9820d6f8b6"), looks := false }, kinds := [], alts := [], laidByText := true, laidKinds := [.data, .data, .data, .data, .pinned], laidTests := true, laidLooks := .later }
def CircleHireUptoCardSaid : Prop := Claim7.holds Tryz.pinned (.plain (OpenSpec.upto circleHireSpec)) circleHireUptoCard

/-- THE SECOND FORM's CARD OF 'compasslaw.CircleThales'. -/
def circleThalesUptoCard : Claim7 := { stood := { row := circleThalesUptoRow, standIns := [], harness := (true, "df0fb5417fb2c60ca95456b894484a65c1dac85d4557f81bb07f8a9820d6f8b6"), looks := false }, kinds := [], alts := [], laidByText := true, laidKinds := [.data, .data, .data, .data, .pinned], laidTests := true, laidLooks := .later }
def CircleThalesUptoCardSaid : Prop := Claim7.holds Tryz.pinned (.plain (OpenSpec.upto circleThalesSpec)) circleThalesUptoCard

/-- THE SECOND FORM's CARD OF 'compasslaw.CircleEuclid'. -/
def circleEuclidUptoCard : Claim7 := { stood := { row := circleEuclidUptoRow, standIns := [], harness := (true, "df0fb5417fb2c60ca95456b894484a65c1dac85d4557f81bb07f8a9820d6f8b6"), looks := false }, kinds := [], alts := [], laidByText := true, laidKinds := [.data, .data, .data, .data, .pinned], laidTests := true, laidLooks := .later }
def CircleEuclidUptoCardSaid : Prop := Claim7.holds Tryz.pinned (.plain (OpenSpec.upto circleEuclidSpec)) circleEuclidUptoCard

/-- THE SECOND FORM's CARD OF 'compasslaw.TurnPoint'. -/
def turnPointUptoCard : Claim7 := { stood := { row := turnPointUptoRow, standIns := [], harness := (true, "df0fb5417fb2c60ca95456b894484a65c1dac85d4557f81bb07f8a9820d6f8b6"), looks := false }, kinds := [], alts := [], laidByText := true, laidKinds := [.data, .data, .data, .data, .pinned], laidTests := true, laidLooks := .later }
def TurnPointUptoCardSaid : Prop := Claim7.holds Tryz.pinned (.plain (OpenSpec.upto turnPointSpec)) turnPointUptoCard

/-- THE SECOND FORM's CARD OF 'compasslaw.TurnPtolemy'. -/
def turnPtolemyUptoCard : Claim7 := { stood := { row := turnPtolemyUptoRow, standIns := [], harness := (true, "df0fb5417fb2c60ca95456b894484a65c1dac85d4557f81bb07f8a9820d6f8b6"), looks := false }, kinds := [], alts := [], laidByText := true, laidKinds := [.data, .data, .data, .data, .pinned], laidTests := true, laidLooks := .later }
def TurnPtolemyUptoCardSaid : Prop := Claim7.holds Tryz.pinned (.plain (OpenSpec.upto turnPtolemySpec)) turnPtolemyUptoCard
end Rows
end Go.Proofs.YtogmiiacfnfnpaaGreatDoor
