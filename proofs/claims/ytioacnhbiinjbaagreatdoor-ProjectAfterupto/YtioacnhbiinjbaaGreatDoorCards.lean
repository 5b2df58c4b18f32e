/-
  DERIVED. GIVEN WITH THE SEED: THE CARDS: each row of YtioacnhbiinjbaaGreatDoorRows.lean that lists a variable, with what it lists TIED to the program's text (the seventh form; the later family's looks); each row that meets fmt, with fmt's text TOLD by the authors' own Lean function (tested against real Go, not proved from fmt's source: count such statements apart). THE CARD IS WHAT COUNTS. Prove the row's statement (the work); the ties are given (YtioacnhbiinjbaaGreatDoorTie.lean); close each card by the builder's one call (the guide's Derived/Test/ToyasCard.lean, 'card_holds'). Laid BY PROGRAM, IN A SANDBOX (cutbox-door.mjs). By AI agents, Wed Nov 11 2026. No macro, syntax, notation, axiom, sorry.
-/
import Derived.Test.YtioacnhbiinjbaaGreatDoorRows
import GoSem.ClaimSeven
namespace Go.Proofs.YtioacnhbiinjbaaGreatDoor
namespace Rows

/-- THE TIED CARD OF 'compasslaw.TurnOf'. -/
def turnOfCard : Claim7 := { stood := { row := turnOfRow, standIns := [], harness := (true, "16934264d1aac71ce0e46fe3a17f04fb863a3ea41dcfa3ab7419d517924895a5"), looks := false }, kinds := [], alts := [], laidByText := true, laidKinds := [.data, .data, .data, .data, .pinned], laidTests := true, laidLooks := .later }
def TurnOfCardSaid : Prop := Claim7.holds Tryz.pinned (.plain (OpenSpec.ofChange turnOfSpec)) turnOfCard

/-- THE TIED CARD OF 'compasslaw.TurnTo'. -/
def turnToCard : Claim7 := { stood := { row := turnToRow, standIns := [], harness := (true, "16934264d1aac71ce0e46fe3a17f04fb863a3ea41dcfa3ab7419d517924895a5"), looks := false }, kinds := [], alts := [], laidByText := true, laidKinds := [.data, .data, .data, .data, .pinned], laidTests := true, laidLooks := .later }
def TurnToCardSaid : Prop := Claim7.holds Tryz.pinned (.plain (OpenSpec.ofChange turnToSpec)) turnToCard

/-- THE TIED CARD OF 'compasslaw.LineNewton'. -/
def lineNewtonCard : Claim7 := { stood := { row := lineNewtonRow, standIns := [], harness := (true, "16934264d1aac71ce0e46fe3a17f04fb863a3ea41dcfa3ab7419d517924895a5"), looks := false }, kinds := [], alts := [], laidByText := true, laidKinds := [.data, .data, .data, .data, .pinned], laidTests := true, laidLooks := .later }
def LineNewtonCardSaid : Prop := Claim7.holds Tryz.pinned (.plain (OpenSpec.ofChange lineNewtonSpec)) lineNewtonCard

/-- THE TIED CARD OF 'compasslaw.ConicMiddles'. -/
def conicMiddlesCard : Claim7 := { stood := { row := conicMiddlesRow, standIns := [], harness := (true, "16934264d1aac71ce0e46fe3a17f04fb863a3ea41dcfa3ab7419d517924895a5"), looks := false }, kinds := [], alts := [], laidByText := true, laidKinds := [.data, .data, .data, .data, .pinned], laidTests := true, laidLooks := .later }
def ConicMiddlesCardSaid : Prop := Claim7.holds Tryz.pinned (.plain (OpenSpec.ofChange conicMiddlesSpec)) conicMiddlesCard

/-- THE TIED CARD OF 'compasslaw.ConicKind'. -/
def conicKindCard : Claim7 := { stood := { row := conicKindRow, standIns := [], harness := (true, "16934264d1aac71ce0e46fe3a17f04fb863a3ea41dcfa3ab7419d517924895a5"), looks := false }, kinds := [], alts := [], laidByText := true, laidKinds := [.data, .data, .data, .data, .pinned], laidTests := true, laidLooks := .later }
def ConicKindCardSaid : Prop := Claim7.holds Tryz.pinned (.plain (OpenSpec.ofChange conicKindSpec)) conicKindCard

/-- THE TIED CARD OF 'compasslaw.CircleAxes'. -/
def circleAxesCard : Claim7 := { stood := { row := circleAxesRow, standIns := [], harness := (true, "16934264d1aac71ce0e46fe3a17f04fb863a3ea41dcfa3ab7419d517924895a5"), looks := false }, kinds := [], alts := [], laidByText := true, laidKinds := [.data, .data, .data, .data, .pinned], laidTests := true, laidLooks := .later }
def CircleAxesCardSaid : Prop := Claim7.holds Tryz.pinned (.plain (OpenSpec.ofChange circleAxesSpec)) circleAxesCard

/-- THE TIED CARD OF 'compasslaw.ProjectPlain'. -/
def projectPlainCard : Claim7 := { stood := { row := projectPlainRow, standIns := [], harness := (true, "16934264d1aac71ce0e46fe3a17f04fb863a3ea41dcfa3ab7419d517924895a5"), looks := false }, kinds := [], alts := [], laidByText := true, laidKinds := [.data, .data, .data, .data, .pinned], laidTests := true, laidLooks := .later }
def ProjectPlainCardSaid : Prop := Claim7.holds Tryz.pinned (.plain (OpenSpec.ofChange projectPlainSpec)) projectPlainCard

/-- THE TIED CARD OF 'compasslaw.ProjectHarmonic'. -/
def projectHarmonicCard : Claim7 := { stood := { row := projectHarmonicRow, standIns := [], harness := (true, "16934264d1aac71ce0e46fe3a17f04fb863a3ea41dcfa3ab7419d517924895a5"), looks := false }, kinds := [], alts := [], laidByText := true, laidKinds := [.data, .data, .data, .data, .pinned], laidTests := true, laidLooks := .later }
def ProjectHarmonicCardSaid : Prop := Claim7.holds Tryz.pinned (.plain (OpenSpec.ofChange projectHarmonicSpec)) projectHarmonicCard

/-- THE TIED CARD OF 'compasslaw.ProjectRatio'. -/
def projectRatioCard : Claim7 := { stood := { row := projectRatioRow, standIns := [], harness := (true, "16934264d1aac71ce0e46fe3a17f04fb863a3ea41dcfa3ab7419d517924895a5"), looks := false }, kinds := [], alts := [], laidByText := true, laidKinds := [.data, .data, .data, .data, .pinned], laidTests := true, laidLooks := .later }
def ProjectRatioCardSaid : Prop := Claim7.holds Tryz.pinned (.plain (OpenSpec.ofChange projectRatioSpec)) projectRatioCard

/-- THE TIED CARD OF 'compasslaw.ProjectApply'. -/
def projectApplyCard : Claim7 := { stood := { row := projectApplyRow, standIns := [], harness := (true, "16934264d1aac71ce0e46fe3a17f04fb863a3ea41dcfa3ab7419d517924895a5"), looks := false }, kinds := [], alts := [], laidByText := true, laidKinds := [.data, .data, .data, .data, .pinned], laidTests := true, laidLooks := .later }
def ProjectApplyCardSaid : Prop := Claim7.holds Tryz.pinned (.plain (OpenSpec.ofChange projectApplySpec)) projectApplyCard

/-- THE TIED CARD OF 'compasslaw.ProjectAfter'. -/
def projectAfterCard : Claim7 := { stood := { row := projectAfterRow, standIns := [], harness := (true, "16934264d1aac71ce0e46fe3a17f04fb863a3ea41dcfa3ab7419d517924895a5"), looks := false }, kinds := [], alts := [], laidByText := true, laidKinds := [.data, .data, .data, .data, .pinned], laidTests := true, laidLooks := .later }
def ProjectAfterCardSaid : Prop := Claim7.holds Tryz.pinned (.plain (OpenSpec.ofChange projectAfterSpec)) projectAfterCard

/-- THE TIED CARD OF 'compasslaw.AngleMiddle'. -/
def angleMiddleCard : Claim7 := { stood := { row := angleMiddleRow, standIns := [], harness := (true, "16934264d1aac71ce0e46fe3a17f04fb863a3ea41dcfa3ab7419d517924895a5"), looks := false }, kinds := [], alts := [], laidByText := true, laidKinds := [.data, .data, .data, .data, .pinned], laidTests := true, laidLooks := .later }
def AngleMiddleCardSaid : Prop := Claim7.holds Tryz.pinned (.plain (OpenSpec.ofChange angleMiddleSpec)) angleMiddleCard

/-- THE TIED CARD OF 'compasslaw.TrianglePartners'. -/
def trianglePartnersCard : Claim7 := { stood := { row := trianglePartnersRow, standIns := [], harness := (true, "16934264d1aac71ce0e46fe3a17f04fb863a3ea41dcfa3ab7419d517924895a5"), looks := false }, kinds := [], alts := [], laidByText := true, laidKinds := [.data, .data, .data, .data, .pinned], laidTests := true, laidLooks := .later }
def TrianglePartnersCardSaid : Prop := Claim7.holds Tryz.pinned (.plain (OpenSpec.ofChange trianglePartnersSpec)) trianglePartnersCard

/-- THE TIED CARD OF 'compasslaw.TriangleSimson'. -/
def triangleSimsonCard : Claim7 := { stood := { row := triangleSimsonRow, standIns := [], harness := (true, "16934264d1aac71ce0e46fe3a17f04fb863a3ea41dcfa3ab7419d517924895a5"), looks := false }, kinds := [], alts := [], laidByText := true, laidKinds := [.data, .data, .data, .data, .pinned], laidTests := true, laidLooks := .later }
def TriangleSimsonCardSaid : Prop := Claim7.holds Tryz.pinned (.plain (OpenSpec.ofChange triangleSimsonSpec)) triangleSimsonCard

/-- THE SECOND FORM's CARD OF 'compasslaw.TurnOf'. -/
def turnOfUptoCard : Claim7 := { stood := { row := turnOfUptoRow, standIns := [], harness := (true, "16934264d1aac71ce0e46fe3a17f04fb863a3ea41dcfa3ab7419d517924895a5"), looks := false }, kinds := [], alts := [], laidByText := true, laidKinds := [.data, .data, .data, .data, .pinned], laidTests := true, laidLooks := .later }
def TurnOfUptoCardSaid : Prop := Claim7.holds Tryz.pinned (.plain (OpenSpec.upto turnOfSpec)) turnOfUptoCard

/-- THE SECOND FORM's CARD OF 'compasslaw.TurnTo'. -/
def turnToUptoCard : Claim7 := { stood := { row := turnToUptoRow, standIns := [], harness := (true, "16934264d1aac71ce0e46fe3a17f04fb863a3ea41dcfa3ab7419d517924895a5"), looks := false }, kinds := [], alts := [], laidByText := true, laidKinds := [.data, .data, .data, .data, .pinned], laidTests := true, laidLooks := .later }
def TurnToUptoCardSaid : Prop := Claim7.holds Tryz.pinned (.plain (OpenSpec.upto turnToSpec)) turnToUptoCard

/-- THE SECOND FORM's CARD OF 'compasslaw.LineNewton'. -/
def lineNewtonUptoCard : Claim7 := { stood := { row := lineNewtonUptoRow, standIns := [], harness := (true, "16934264d1aac71ce0e46fe3a17f04fb863a3ea41dcfa3ab7419d517924895a5"), looks := false }, kinds := [], alts := [], laidByText := true, laidKinds := [.data, .data, .data, .data, .pinned], laidTests := true, laidLooks := .later }
def LineNewtonUptoCardSaid : Prop := Claim7.holds Tryz.pinned (.plain (OpenSpec.upto lineNewtonSpec)) lineNewtonUptoCard

/-- THE SECOND FORM's CARD OF 'compasslaw.ConicMiddles'. -/
def conicMiddlesUptoCard : Claim7 := { stood := { row := conicMiddlesUptoRow, standIns := [], harness := (true, "16934264d1aac71ce0e46fe3a17f04fb863a3ea41dcfa3ab7419d517924895a5"), looks := false }, kinds := [], alts := [], laidByText := true, laidKinds := [.data, .data, .data, .data, .pinned], laidTests := true, laidLooks := .later }
def ConicMiddlesUptoCardSaid : Prop := Claim7.holds Tryz.pinned (.plain (OpenSpec.upto conicMiddlesSpec)) conicMiddlesUptoCard

/-- THE SECOND FORM's CARD OF 'compasslaw.ConicKind'. -/
def conicKindUptoCard : Claim7 := { stood := { row := conicKindUptoRow, standIns := [], harness := (true, "16934264d1aac71ce0e46fe3a17f04fb863a3ea41dcfa3ab7419d517924895a5"), looks := false }, kinds := [], alts := [], laidByText := true, laidKinds := [.data, .data, .data, .data, .pinned], laidTests := true, laidLooks := .later }
def ConicKindUptoCardSaid : Prop := Claim7.holds Tryz.pinned (.plain (OpenSpec.upto conicKindSpec)) conicKindUptoCard

/-- THE SECOND FORM's CARD OF 'compasslaw.CircleAxes'. -/
def circleAxesUptoCard : Claim7 := { stood := { row := circleAxesUptoRow, standIns := [], harness := (true, "16934264d1aac71ce0e46fe3a17f04fb863a3ea41dcfa3ab7419d517924895a5"), looks := false }, kinds := [], alts := [], laidByText := true, laidKinds := [.data, .data, .data, .data, .pinned], laidTests := true, laidLooks := .later }
def CircleAxesUptoCardSaid : Prop := Claim7.holds Tryz.pinned (.plain (OpenSpec.upto circleAxesSpec)) circleAxesUptoCard

/-- THE SECOND FORM's CARD OF 'compasslaw.ProjectPlain'. -/
def projectPlainUptoCard : Claim7 := { stood := { row := projectPlainUptoRow, standIns := [], harness := (true, "16934264d1aac71ce0e46fe3a17f04fb863a3ea41dcfa3ab7419d517924895a5"), looks := false }, kinds := [], alts := [], laidByText := true, laidKinds := [.data, .data, .data, .data, .pinned], laidTests := true, laidLooks := .later }
def ProjectPlainUptoCardSaid : Prop := Claim7.holds Tryz.pinned (.plain (OpenSpec.upto projectPlainSpec)) projectPlainUptoCard

/-- THE SECOND FORM's CARD OF 'compasslaw.ProjectHarmonic'. -/
def projectHarmonicUptoCard : Claim7 := { stood := { row := projectHarmonicUptoRow, standIns := [], harness := (true, "16934264d1aac71ce0e46fe3a17f04fb863a3ea41dcfa3ab7419d517924895a5"), looks := false }, kinds := [], alts := [], laidByText := true, laidKinds := [.data, .data, .data, .data, .pinned], laidTests := true, laidLooks := .later }
def ProjectHarmonicUptoCardSaid : Prop := Claim7.holds Tryz.pinned (.plain (OpenSpec.upto projectHarmonicSpec)) projectHarmonicUptoCard

/-- THE SECOND FORM's CARD OF 'compasslaw.ProjectRatio'. -/
def projectRatioUptoCard : Claim7 := { stood := { row := projectRatioUptoRow, standIns := [], harness := (true, "16934264d1aac71ce0e46fe3a17f04fb863a3ea41dcfa3ab7419d517924895a5"), looks := false }, kinds := [], alts := [], laidByText := true, laidKinds := [.data, .data, .data, .data, .pinned], laidTests := true, laidLooks := .later }
def ProjectRatioUptoCardSaid : Prop := Claim7.holds Tryz.pinned (.plain (OpenSpec.upto projectRatioSpec)) projectRatioUptoCard

/-- THE SECOND FORM's CARD OF 'compasslaw.ProjectApply'. -/
def projectApplyUptoCard : Claim7 := { stood := { row := projectApplyUptoRow, standIns := [], harness := (true, "16934264d1aac71ce0e46fe3a17f04fb863a3ea41dcfa3ab7419d517924895a5"), looks := false }, kinds := [], alts := [], laidByText := true, laidKinds := [.data, .data, .data, .data, .pinned], laidTests := true, laidLooks := .later }
def ProjectApplyUptoCardSaid : Prop := Claim7.holds Tryz.pinned (.plain (OpenSpec.upto projectApplySpec)) projectApplyUptoCard

/-- THE SECOND FORM's CARD OF 'compasslaw.ProjectAfter'. -/
def projectAfterUptoCard : Claim7 := { stood := { row := projectAfterUptoRow, standIns := [], harness := (true, "16934264d1aac71ce0e46fe3a17f04fb863a3ea41dcfa3ab7419d517924895a5"), looks := false }, kinds := [], alts := [], laidByText := true, laidKinds := [.data, .data, .data, .data, .pinned], laidTests := true, laidLooks := .later }
def ProjectAfterUptoCardSaid : Prop := Claim7.holds Tryz.pinned (.plain (OpenSpec.upto projectAfterSpec)) projectAfterUptoCard

/-- THE SECOND FORM's CARD OF 'compasslaw.AngleMiddle'. -/
def angleMiddleUptoCard : Claim7 := { stood := { row := angleMiddleUptoRow, standIns := [], harness := (true, "16934264d1aac71ce0e46fe3a17f04fb863a3ea41dcfa3ab7419d517924895a5"), looks := false }, kinds := [], alts := [], laidByText := true, laidKinds := [.data, .data, .data, .data, .pinned], laidTests := true, laidLooks := .later }
def AngleMiddleUptoCardSaid : Prop := Claim7.holds Tryz.pinned (.plain (OpenSpec.upto angleMiddleSpec)) angleMiddleUptoCard

/-- THE SECOND FORM's CARD OF 'compasslaw.TrianglePartners'. -/
def trianglePartnersUptoCard : Claim7 := { stood := { row := trianglePartnersUptoRow, standIns := [], harness := (true, "16934264d1aac71ce0e46fe3a17f04fb863a3ea41dcfa3ab7419d517924895a5"), looks := false }, kinds := [], alts := [], laidByText := true, laidKinds := [.data, .data, .data, .data, .pinned], laidTests := true, laidLooks := .later }
def TrianglePartnersUptoCardSaid : Prop := Claim7.holds Tryz.pinned (.plain (OpenSpec.upto trianglePartnersSpec)) trianglePartnersUptoCard

/-- THE SECOND FORM's CARD OF 'compasslaw.TriangleSimson'. -/
def triangleSimsonUptoCard : Claim7 := { stood := { row := triangleSimsonUptoRow, standIns := [], harness := (true, "16934264d1aac71ce0e46fe3a17f04fb863a3ea41dcfa3ab7419d517924895a5"), looks := false }, kinds := [], alts := [], laidByText := true, laidKinds := [.data, .data, .data, .data, .pinned], laidTests := true, laidLooks := .later }
def TriangleSimsonUptoCardSaid : Prop := Claim7.holds Tryz.pinned (.plain (OpenSpec.upto triangleSimsonSpec)) triangleSimsonUptoCard
end Rows
end Go.Proofs.YtioacnhbiinjbaaGreatDoor
