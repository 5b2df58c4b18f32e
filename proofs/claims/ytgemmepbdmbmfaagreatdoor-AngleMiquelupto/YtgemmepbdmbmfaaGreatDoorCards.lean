/-
  DERIVED. GIVEN WITH THE SEED: THE CARDS: each row of YtgemmepbdmbmfaaGreatDoorRows.lean that lists a variable, with what it lists TIED to the program's text (the seventh form; the later family's looks); each row that meets fmt, with fmt's text TOLD by the authors' own Lean function (tested against real Go, not proved from fmt's source: count such statements apart). THE CARD IS WHAT COUNTS. Prove the row's statement (the work); the ties are given (YtgemmepbdmbmfaaGreatDoorTie.lean); close each card by the builder's one call (the guide's Derived/Test/ToyasCard.lean, 'card_holds'). Laid BY PROGRAM, IN A SANDBOX (cutbox-door.mjs). By AI agents, Wed Nov 11 2026. No macro, syntax, notation, axiom, sorry.
-/
import Derived.Test.YtgemmepbdmbmfaaGreatDoorRows
import GoSem.ClaimSeven
namespace Go.Proofs.YtgemmepbdmbmfaaGreatDoor
namespace Rows

/-- THE TIED CARD OF 'compasslaw.ProjectKeeps'. -/
def projectKeepsCard : Claim7 := { stood := { row := projectKeepsRow, standIns := [], harness := (true, "9826e996cad04264ac9a4dacf9049209ffbeac560c5162fdd4d89c560a9ca34a"), looks := false }, kinds := [], alts := [], laidByText := true, laidKinds := [.data, .data, .data, .data, .pinned], laidTests := true, laidLooks := .later }
def ProjectKeepsCardSaid : Prop := Claim7.holds Tryz.pinned (.plain (OpenSpec.ofChange projectKeepsSpec)) projectKeepsCard

/-- THE TIED CARD OF 'compasslaw.ProjectStaudt'. -/
def projectStaudtCard : Claim7 := { stood := { row := projectStaudtRow, standIns := [], harness := (true, "9826e996cad04264ac9a4dacf9049209ffbeac560c5162fdd4d89c560a9ca34a"), looks := false }, kinds := [], alts := [], laidByText := true, laidKinds := [.data, .data, .data, .data, .pinned], laidTests := true, laidLooks := .later }
def ProjectStaudtCardSaid : Prop := Claim7.holds Tryz.pinned (.plain (OpenSpec.ofChange projectStaudtSpec)) projectStaudtCard

/-- THE TIED CARD OF 'compasslaw.ProjectFour'. -/
def projectFourCard : Claim7 := { stood := { row := projectFourRow, standIns := [], harness := (true, "9826e996cad04264ac9a4dacf9049209ffbeac560c5162fdd4d89c560a9ca34a"), looks := false }, kinds := [], alts := [], laidByText := true, laidKinds := [.data, .data, .data, .data, .pinned], laidTests := true, laidLooks := .later }
def ProjectFourCardSaid : Prop := Claim7.holds Tryz.pinned (.plain (OpenSpec.ofChange projectFourSpec)) projectFourCard

/-- THE TIED CARD OF 'compasslaw.TurnRound'. -/
def turnRoundCard : Claim7 := { stood := { row := turnRoundRow, standIns := [], harness := (true, "9826e996cad04264ac9a4dacf9049209ffbeac560c5162fdd4d89c560a9ca34a"), looks := false }, kinds := [], alts := [], laidByText := true, laidKinds := [.data, .data, .data, .data, .pinned], laidTests := true, laidLooks := .later }
def TurnRoundCardSaid : Prop := Claim7.holds Tryz.pinned (.plain (OpenSpec.ofChange turnRoundSpec)) turnRoundCard

/-- THE TIED CARD OF 'compasslaw.TurnTwice'. -/
def turnTwiceCard : Claim7 := { stood := { row := turnTwiceRow, standIns := [], harness := (true, "9826e996cad04264ac9a4dacf9049209ffbeac560c5162fdd4d89c560a9ca34a"), looks := false }, kinds := [], alts := [], laidByText := true, laidKinds := [.data, .data, .data, .data, .pinned], laidTests := true, laidLooks := .later }
def TurnTwiceCardSaid : Prop := Claim7.holds Tryz.pinned (.plain (OpenSpec.ofChange turnTwiceSpec)) turnTwiceCard

/-- THE TIED CARD OF 'compasslaw.TurnCarry'. -/
def turnCarryCard : Claim7 := { stood := { row := turnCarryRow, standIns := [], harness := (true, "9826e996cad04264ac9a4dacf9049209ffbeac560c5162fdd4d89c560a9ca34a"), looks := false }, kinds := [], alts := [], laidByText := true, laidKinds := [.data, .data, .data, .data, .pinned], laidTests := true, laidLooks := .later }
def TurnCarryCardSaid : Prop := Claim7.holds Tryz.pinned (.plain (OpenSpec.ofChange turnCarrySpec)) turnCarryCard

/-- THE TIED CARD OF 'compasslaw.ConicSteiner'. -/
def conicSteinerCard : Claim7 := { stood := { row := conicSteinerRow, standIns := [], harness := (true, "9826e996cad04264ac9a4dacf9049209ffbeac560c5162fdd4d89c560a9ca34a"), looks := false }, kinds := [], alts := [], laidByText := true, laidKinds := [.data, .data, .data, .data, .pinned], laidTests := true, laidLooks := .later }
def ConicSteinerCardSaid : Prop := Claim7.holds Tryz.pinned (.plain (OpenSpec.ofChange conicSteinerSpec)) conicSteinerCard

/-- THE TIED CARD OF 'compasslaw.ConicHire'. -/
def conicHireCard : Claim7 := { stood := { row := conicHireRow, standIns := [], harness := (true, "9826e996cad04264ac9a4dacf9049209ffbeac560c5162fdd4d89c560a9ca34a"), looks := false }, kinds := [], alts := [], laidByText := true, laidKinds := [.data, .data, .data, .data, .pinned], laidTests := true, laidLooks := .later }
def ConicHireCardSaid : Prop := Claim7.holds Tryz.pinned (.plain (OpenSpec.ofChange conicHireSpec)) conicHireCard

/-- THE TIED CARD OF 'compasslaw.ConicFour'. -/
def conicFourCard : Claim7 := { stood := { row := conicFourRow, standIns := [], harness := (true, "9826e996cad04264ac9a4dacf9049209ffbeac560c5162fdd4d89c560a9ca34a"), looks := false }, kinds := [], alts := [], laidByText := true, laidKinds := [.data, .data, .data, .data, .pinned], laidTests := true, laidLooks := .later }
def ConicFourCardSaid : Prop := Claim7.holds Tryz.pinned (.plain (OpenSpec.ofChange conicFourSpec)) conicFourCard

/-- THE TIED CARD OF 'compasslaw.ConicSecond'. -/
def conicSecondCard : Claim7 := { stood := { row := conicSecondRow, standIns := [], harness := (true, "9826e996cad04264ac9a4dacf9049209ffbeac560c5162fdd4d89c560a9ca34a"), looks := false }, kinds := [], alts := [], laidByText := true, laidKinds := [.data, .data, .data, .data, .pinned], laidTests := true, laidLooks := .later }
def ConicSecondCardSaid : Prop := Claim7.holds Tryz.pinned (.plain (OpenSpec.ofChange conicSecondSpec)) conicSecondCard

/-- THE TIED CARD OF 'compasslaw.CirclePtolemy'. -/
def circlePtolemyCard : Claim7 := { stood := { row := circlePtolemyRow, standIns := [], harness := (true, "9826e996cad04264ac9a4dacf9049209ffbeac560c5162fdd4d89c560a9ca34a"), looks := false }, kinds := [], alts := [], laidByText := true, laidKinds := [.data, .data, .data, .data, .pinned], laidTests := true, laidLooks := .later }
def CirclePtolemyCardSaid : Prop := Claim7.holds Tryz.pinned (.plain (OpenSpec.ofChange circlePtolemySpec)) circlePtolemyCard

/-- THE TIED CARD OF 'compasslaw.AngleEuclid'. -/
def angleEuclidCard : Claim7 := { stood := { row := angleEuclidRow, standIns := [], harness := (true, "9826e996cad04264ac9a4dacf9049209ffbeac560c5162fdd4d89c560a9ca34a"), looks := false }, kinds := [], alts := [], laidByText := true, laidKinds := [.data, .data, .data, .data, .pinned], laidTests := true, laidLooks := .later }
def AngleEuclidCardSaid : Prop := Claim7.holds Tryz.pinned (.plain (OpenSpec.ofChange angleEuclidSpec)) angleEuclidCard

/-- THE TIED CARD OF 'compasslaw.AngleMiquel'. -/
def angleMiquelCard : Claim7 := { stood := { row := angleMiquelRow, standIns := [], harness := (true, "9826e996cad04264ac9a4dacf9049209ffbeac560c5162fdd4d89c560a9ca34a"), looks := false }, kinds := [], alts := [], laidByText := true, laidKinds := [.data, .data, .data, .data, .pinned], laidTests := true, laidLooks := .later }
def AngleMiquelCardSaid : Prop := Claim7.holds Tryz.pinned (.plain (OpenSpec.ofChange angleMiquelSpec)) angleMiquelCard

/-- THE TIED CARD OF 'compasslaw.TurnKeeps'. -/
def turnKeepsCard : Claim7 := { stood := { row := turnKeepsRow, standIns := [], harness := (true, "9826e996cad04264ac9a4dacf9049209ffbeac560c5162fdd4d89c560a9ca34a"), looks := false }, kinds := [], alts := [], laidByText := true, laidKinds := [.data, .data, .data, .data, .pinned], laidTests := true, laidLooks := .later }
def TurnKeepsCardSaid : Prop := Claim7.holds Tryz.pinned (.plain (OpenSpec.ofChange turnKeepsSpec)) turnKeepsCard

/-- THE TIED CARD OF 'compasslaw.ConicPencil'. -/
def conicPencilCard : Claim7 := { stood := { row := conicPencilRow, standIns := [], harness := (true, "9826e996cad04264ac9a4dacf9049209ffbeac560c5162fdd4d89c560a9ca34a"), looks := false }, kinds := [], alts := [], laidByText := true, laidKinds := [.data, .data, .data, .data, .pinned], laidTests := true, laidLooks := .later }
def ConicPencilCardSaid : Prop := Claim7.holds Tryz.pinned (.plain (OpenSpec.ofChange conicPencilSpec)) conicPencilCard

/-- THE TIED CARD OF 'compasslaw.ConicPolar'. -/
def conicPolarCard : Claim7 := { stood := { row := conicPolarRow, standIns := [], harness := (true, "9826e996cad04264ac9a4dacf9049209ffbeac560c5162fdd4d89c560a9ca34a"), looks := false }, kinds := [], alts := [], laidByText := true, laidKinds := [.data, .data, .data, .data, .pinned], laidTests := true, laidLooks := .later }
def ConicPolarCardSaid : Prop := Claim7.holds Tryz.pinned (.plain (OpenSpec.ofChange conicPolarSpec)) conicPolarCard

/-- THE SECOND FORM's CARD OF 'compasslaw.ProjectKeeps'. -/
def projectKeepsUptoCard : Claim7 := { stood := { row := projectKeepsUptoRow, standIns := [], harness := (true, "9826e996cad04264ac9a4dacf9049209ffbeac560c5162fdd4d89c560a9ca34a"), looks := false }, kinds := [], alts := [], laidByText := true, laidKinds := [.data, .data, .data, .data, .pinned], laidTests := true, laidLooks := .later }
def ProjectKeepsUptoCardSaid : Prop := Claim7.holds Tryz.pinned (.plain (OpenSpec.upto projectKeepsSpec)) projectKeepsUptoCard

/-- THE SECOND FORM's CARD OF 'compasslaw.ProjectStaudt'. -/
def projectStaudtUptoCard : Claim7 := { stood := { row := projectStaudtUptoRow, standIns := [], harness := (true, "9826e996cad04264ac9a4dacf9049209ffbeac560c5162fdd4d89c560a9ca34a"), looks := false }, kinds := [], alts := [], laidByText := true, laidKinds := [.data, .data, .data, .data, .pinned], laidTests := true, laidLooks := .later }
def ProjectStaudtUptoCardSaid : Prop := Claim7.holds Tryz.pinned (.plain (OpenSpec.upto projectStaudtSpec)) projectStaudtUptoCard

/-- THE SECOND FORM's CARD OF 'compasslaw.ProjectFour'. -/
def projectFourUptoCard : Claim7 := { stood := { row := projectFourUptoRow, standIns := [], harness := (true, "9826e996cad04264ac9a4dacf9049209ffbeac560c5162fdd4d89c560a9ca34a"), looks := false }, kinds := [], alts := [], laidByText := true, laidKinds := [.data, .data, .data, .data, .pinned], laidTests := true, laidLooks := .later }
def ProjectFourUptoCardSaid : Prop := Claim7.holds Tryz.pinned (.plain (OpenSpec.upto projectFourSpec)) projectFourUptoCard

/-- THE SECOND FORM's CARD OF 'compasslaw.TurnRound'. -/
def turnRoundUptoCard : Claim7 := { stood := { row := turnRoundUptoRow, standIns := [], harness := (true, "9826e996cad04264ac9a4dacf9049209ffbeac560c5162fdd4d89c560a9ca34a"), looks := false }, kinds := [], alts := [], laidByText := true, laidKinds := [.data, .data, .data, .data, .pinned], laidTests := true, laidLooks := .later }
def TurnRoundUptoCardSaid : Prop := Claim7.holds Tryz.pinned (.plain (OpenSpec.upto turnRoundSpec)) turnRoundUptoCard

/-- THE SECOND FORM's CARD OF 'compasslaw.TurnTwice'. -/
def turnTwiceUptoCard : Claim7 := { stood := { row := turnTwiceUptoRow, standIns := [], harness := (true, "9826e996cad04264ac9a4dacf9049209ffbeac560c5162fdd4d89c560a9ca34a"), looks := false }, kinds := [], alts := [], laidByText := true, laidKinds := [.data, .data, .data, .data, .pinned], laidTests := true, laidLooks := .later }
def TurnTwiceUptoCardSaid : Prop := Claim7.holds Tryz.pinned (.plain (OpenSpec.upto turnTwiceSpec)) turnTwiceUptoCard

/-- THE SECOND FORM's CARD OF 'compasslaw.TurnCarry'. -/
def turnCarryUptoCard : Claim7 := { stood := { row := turnCarryUptoRow, standIns := [], harness := (true, "9826e996cad04264ac9a4dacf9049209ffbeac560c5162fdd4d89c560a9ca34a"), looks := false }, kinds := [], alts := [], laidByText := true, laidKinds := [.data, .data, .data, .data, .pinned], laidTests := true, laidLooks := .later }
def TurnCarryUptoCardSaid : Prop := Claim7.holds Tryz.pinned (.plain (OpenSpec.upto turnCarrySpec)) turnCarryUptoCard

/-- THE SECOND FORM's CARD OF 'compasslaw.ConicSteiner'. -/
def conicSteinerUptoCard : Claim7 := { stood := { row := conicSteinerUptoRow, standIns := [], harness := (true, "9826e996cad04264ac9a4dacf9049209ffbeac560c5162fdd4d89c560a9ca34a"), looks := false }, kinds := [], alts := [], laidByText := true, laidKinds := [.data, .data, .data, .data, .pinned], laidTests := true, laidLooks := .later }
def ConicSteinerUptoCardSaid : Prop := Claim7.holds Tryz.pinned (.plain (OpenSpec.upto conicSteinerSpec)) conicSteinerUptoCard

/-- THE SECOND FORM's CARD OF 'compasslaw.ConicHire'. -/
def conicHireUptoCard : Claim7 := { stood := { row := conicHireUptoRow, standIns := [], harness := (true, "9826e996cad04264ac9a4dacf9049209ffbeac560c5162fdd4d89c560a9ca34a"), looks := false }, kinds := [], alts := [], laidByText := true, laidKinds := [.data, .data, .data, .data, .pinned], laidTests := true, laidLooks := .later }
def ConicHireUptoCardSaid : Prop := Claim7.holds Tryz.pinned (.plain (OpenSpec.upto conicHireSpec)) conicHireUptoCard

/-- THE SECOND FORM's CARD OF 'compasslaw.ConicFour'. -/
def conicFourUptoCard : Claim7 := { stood := { row := conicFourUptoRow, standIns := [], harness := (true, "9826e996cad04264ac9a4dacf9049209ffbeac560c5162fdd4d89c560a9ca34a"), looks := false }, kinds := [], alts := [], laidByText := true, laidKinds := [.data, .data, .data, .data, .pinned], laidTests := true, laidLooks := .later }
def ConicFourUptoCardSaid : Prop := Claim7.holds Tryz.pinned (.plain (OpenSpec.upto conicFourSpec)) conicFourUptoCard

/-- THE SECOND FORM's CARD OF 'compasslaw.ConicSecond'. -/
def conicSecondUptoCard : Claim7 := { stood := { row := conicSecondUptoRow, standIns := [], harness := (true, "9826e996cad04264ac9a4dacf9049209ffbeac560c5162fdd4d89c560a9ca34a"), looks := false }, kinds := [], alts := [], laidByText := true, laidKinds := [.data, .data, .data, .data, .pinned], laidTests := true, laidLooks := .later }
def ConicSecondUptoCardSaid : Prop := Claim7.holds Tryz.pinned (.plain (OpenSpec.upto conicSecondSpec)) conicSecondUptoCard

/-- THE SECOND FORM's CARD OF 'compasslaw.CirclePtolemy'. -/
def circlePtolemyUptoCard : Claim7 := { stood := { row := circlePtolemyUptoRow, standIns := [], harness := (true, "9826e996cad04264ac9a4dacf9049209ffbeac560c5162fdd4d89c560a9ca34a"), looks := false }, kinds := [], alts := [], laidByText := true, laidKinds := [.data, .data, .data, .data, .pinned], laidTests := true, laidLooks := .later }
def CirclePtolemyUptoCardSaid : Prop := Claim7.holds Tryz.pinned (.plain (OpenSpec.upto circlePtolemySpec)) circlePtolemyUptoCard

/-- THE SECOND FORM's CARD OF 'compasslaw.AngleEuclid'. -/
def angleEuclidUptoCard : Claim7 := { stood := { row := angleEuclidUptoRow, standIns := [], harness := (true, "9826e996cad04264ac9a4dacf9049209ffbeac560c5162fdd4d89c560a9ca34a"), looks := false }, kinds := [], alts := [], laidByText := true, laidKinds := [.data, .data, .data, .data, .pinned], laidTests := true, laidLooks := .later }
def AngleEuclidUptoCardSaid : Prop := Claim7.holds Tryz.pinned (.plain (OpenSpec.upto angleEuclidSpec)) angleEuclidUptoCard

/-- THE SECOND FORM's CARD OF 'compasslaw.AngleMiquel'. -/
def angleMiquelUptoCard : Claim7 := { stood := { row := angleMiquelUptoRow, standIns := [], harness := (true, "9826e996cad04264ac9a4dacf9049209ffbeac560c5162fdd4d89c560a9ca34a"), looks := false }, kinds := [], alts := [], laidByText := true, laidKinds := [.data, .data, .data, .data, .pinned], laidTests := true, laidLooks := .later }
def AngleMiquelUptoCardSaid : Prop := Claim7.holds Tryz.pinned (.plain (OpenSpec.upto angleMiquelSpec)) angleMiquelUptoCard

/-- THE SECOND FORM's CARD OF 'compasslaw.TurnKeeps'. -/
def turnKeepsUptoCard : Claim7 := { stood := { row := turnKeepsUptoRow, standIns := [], harness := (true, "9826e996cad04264ac9a4dacf9049209ffbeac560c5162fdd4d89c560a9ca34a"), looks := false }, kinds := [], alts := [], laidByText := true, laidKinds := [.data, .data, .data, .data, .pinned], laidTests := true, laidLooks := .later }
def TurnKeepsUptoCardSaid : Prop := Claim7.holds Tryz.pinned (.plain (OpenSpec.upto turnKeepsSpec)) turnKeepsUptoCard

/-- THE SECOND FORM's CARD OF 'compasslaw.ConicPencil'. -/
def conicPencilUptoCard : Claim7 := { stood := { row := conicPencilUptoRow, standIns := [], harness := (true, "9826e996cad04264ac9a4dacf9049209ffbeac560c5162fdd4d89c560a9ca34a"), looks := false }, kinds := [], alts := [], laidByText := true, laidKinds := [.data, .data, .data, .data, .pinned], laidTests := true, laidLooks := .later }
def ConicPencilUptoCardSaid : Prop := Claim7.holds Tryz.pinned (.plain (OpenSpec.upto conicPencilSpec)) conicPencilUptoCard

/-- THE SECOND FORM's CARD OF 'compasslaw.ConicPolar'. -/
def conicPolarUptoCard : Claim7 := { stood := { row := conicPolarUptoRow, standIns := [], harness := (true, "9826e996cad04264ac9a4dacf9049209ffbeac560c5162fdd4d89c560a9ca34a"), looks := false }, kinds := [], alts := [], laidByText := true, laidKinds := [.data, .data, .data, .data, .pinned], laidTests := true, laidLooks := .later }
def ConicPolarUptoCardSaid : Prop := Claim7.holds Tryz.pinned (.plain (OpenSpec.upto conicPolarSpec)) conicPolarUptoCard
end Rows
end Go.Proofs.YtgemmepbdmbmfaaGreatDoor
