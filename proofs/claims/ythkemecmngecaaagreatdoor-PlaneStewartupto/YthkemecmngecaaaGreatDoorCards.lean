/-
  DERIVED. GIVEN WITH THE SEED: THE CARDS: each row of YthkemecmngecaaaGreatDoorRows.lean that lists a variable, with what it lists TIED to the program's text (the seventh form; the later family's looks); each row that meets fmt, with fmt's text TOLD by the authors' own Lean function (tested against real Go, not proved from fmt's source: count such statements apart). THE CARD IS WHAT COUNTS. Prove the row's statement (the work); the ties are given (YthkemecmngecaaaGreatDoorTie.lean); close each card by the builder's one call (the guide's Derived/Test/ToyasCard.lean, 'card_holds'). Laid BY PROGRAM, IN A SANDBOX (cutbox-door.mjs). By AI agents, Wed Nov 11 2026. No macro, syntax, notation, axiom, sorry.
-/
import Derived.Test.YthkemecmngecaaaGreatDoorRows
import GoSem.ClaimSeven
namespace Go.Proofs.YthkemecmngecaaaGreatDoor
namespace Rows

/-- THE TIED CARD OF 'compasslaw.PlaneArea'. -/
def planeAreaCard : Claim7 := { stood := { row := planeAreaRow, standIns := [], harness := (true, "f1f3837c33c33dd8e63dceb19ceaff40ac6c7d3a713fe8a5d603f2383b7b63b0"), looks := false }, kinds := [], alts := [], laidByText := true, laidKinds := [.data, .data, .data, .data, .pinned], laidTests := true, laidLooks := .later }
def PlaneAreaCardSaid : Prop := Claim7.holds Tryz.pinned (.plain (OpenSpec.ofChange planeAreaSpec)) planeAreaCard

/-- THE TIED CARD OF 'compasslaw.PlaneAt'. -/
def planeAtCard : Claim7 := { stood := { row := planeAtRow, standIns := [], harness := (true, "f1f3837c33c33dd8e63dceb19ceaff40ac6c7d3a713fe8a5d603f2383b7b63b0"), looks := false }, kinds := [], alts := [], laidByText := true, laidKinds := [.data, .data, .data, .data, .pinned], laidTests := true, laidLooks := .later }
def PlaneAtCardSaid : Prop := Claim7.holds Tryz.pinned (.plain (OpenSpec.ofChange planeAtSpec)) planeAtCard

/-- THE TIED CARD OF 'compasslaw.PlaneRatio'. -/
def planeRatioCard : Claim7 := { stood := { row := planeRatioRow, standIns := [], harness := (true, "f1f3837c33c33dd8e63dceb19ceaff40ac6c7d3a713fe8a5d603f2383b7b63b0"), looks := false }, kinds := [], alts := [], laidByText := true, laidKinds := [.data, .data, .data, .data, .pinned], laidTests := true, laidLooks := .later }
def PlaneRatioCardSaid : Prop := Claim7.holds Tryz.pinned (.plain (OpenSpec.ofChange planeRatioSpec)) planeRatioCard

/-- THE TIED CARD OF 'compasslaw.PlaneStewart'. -/
def planeStewartCard : Claim7 := { stood := { row := planeStewartRow, standIns := [], harness := (true, "f1f3837c33c33dd8e63dceb19ceaff40ac6c7d3a713fe8a5d603f2383b7b63b0"), looks := false }, kinds := [], alts := [], laidByText := true, laidKinds := [.data, .data, .data, .data, .pinned], laidTests := true, laidLooks := .later }
def PlaneStewartCardSaid : Prop := Claim7.holds Tryz.pinned (.plain (OpenSpec.ofChange planeStewartSpec)) planeStewartCard

/-- THE TIED CARD OF 'compasslaw.PlaneVarignon'. -/
def planeVarignonCard : Claim7 := { stood := { row := planeVarignonRow, standIns := [], harness := (true, "f1f3837c33c33dd8e63dceb19ceaff40ac6c7d3a713fe8a5d603f2383b7b63b0"), looks := false }, kinds := [], alts := [], laidByText := true, laidKinds := [.data, .data, .data, .data, .pinned], laidTests := true, laidLooks := .later }
def PlaneVarignonCardSaid : Prop := Claim7.holds Tryz.pinned (.plain (OpenSpec.ofChange planeVarignonSpec)) planeVarignonCard

/-- THE TIED CARD OF 'compasslaw.PlaneHeron'. -/
def planeHeronCard : Claim7 := { stood := { row := planeHeronRow, standIns := [], harness := (true, "f1f3837c33c33dd8e63dceb19ceaff40ac6c7d3a713fe8a5d603f2383b7b63b0"), looks := false }, kinds := [], alts := [], laidByText := true, laidKinds := [.data, .data, .data, .data, .pinned], laidTests := true, laidLooks := .later }
def PlaneHeronCardSaid : Prop := Claim7.holds Tryz.pinned (.plain (OpenSpec.ofChange planeHeronSpec)) planeHeronCard

/-- THE SECOND FORM's CARD OF 'compasslaw.PlaneArea'. -/
def planeAreaUptoCard : Claim7 := { stood := { row := planeAreaUptoRow, standIns := [], harness := (true, "f1f3837c33c33dd8e63dceb19ceaff40ac6c7d3a713fe8a5d603f2383b7b63b0"), looks := false }, kinds := [], alts := [], laidByText := true, laidKinds := [.data, .data, .data, .data, .pinned], laidTests := true, laidLooks := .later }
def PlaneAreaUptoCardSaid : Prop := Claim7.holds Tryz.pinned (.plain (OpenSpec.upto planeAreaSpec)) planeAreaUptoCard

/-- THE SECOND FORM's CARD OF 'compasslaw.PlaneAt'. -/
def planeAtUptoCard : Claim7 := { stood := { row := planeAtUptoRow, standIns := [], harness := (true, "f1f3837c33c33dd8e63dceb19ceaff40ac6c7d3a713fe8a5d603f2383b7b63b0"), looks := false }, kinds := [], alts := [], laidByText := true, laidKinds := [.data, .data, .data, .data, .pinned], laidTests := true, laidLooks := .later }
def PlaneAtUptoCardSaid : Prop := Claim7.holds Tryz.pinned (.plain (OpenSpec.upto planeAtSpec)) planeAtUptoCard

/-- THE SECOND FORM's CARD OF 'compasslaw.PlaneRatio'. -/
def planeRatioUptoCard : Claim7 := { stood := { row := planeRatioUptoRow, standIns := [], harness := (true, "f1f3837c33c33dd8e63dceb19ceaff40ac6c7d3a713fe8a5d603f2383b7b63b0"), looks := false }, kinds := [], alts := [], laidByText := true, laidKinds := [.data, .data, .data, .data, .pinned], laidTests := true, laidLooks := .later }
def PlaneRatioUptoCardSaid : Prop := Claim7.holds Tryz.pinned (.plain (OpenSpec.upto planeRatioSpec)) planeRatioUptoCard

/-- THE SECOND FORM's CARD OF 'compasslaw.PlaneStewart'. -/
def planeStewartUptoCard : Claim7 := { stood := { row := planeStewartUptoRow, standIns := [], harness := (true, "f1f3837c33c33dd8e63dceb19ceaff40ac6c7d3a713fe8a5d603f2383b7b63b0"), looks := false }, kinds := [], alts := [], laidByText := true, laidKinds := [.data, .data, .data, .data, .pinned], laidTests := true, laidLooks := .later }
def PlaneStewartUptoCardSaid : Prop := Claim7.holds Tryz.pinned (.plain (OpenSpec.upto planeStewartSpec)) planeStewartUptoCard

/-- THE SECOND FORM's CARD OF 'compasslaw.PlaneVarignon'. -/
def planeVarignonUptoCard : Claim7 := { stood := { row := planeVarignonUptoRow, standIns := [], harness := (true, "f1f3837c33c33dd8e63dceb19ceaff40ac6c7d3a713fe8a5d603f2383b7b63b0"), looks := false }, kinds := [], alts := [], laidByText := true, laidKinds := [.data, .data, .data, .data, .pinned], laidTests := true, laidLooks := .later }
def PlaneVarignonUptoCardSaid : Prop := Claim7.holds Tryz.pinned (.plain (OpenSpec.upto planeVarignonSpec)) planeVarignonUptoCard

/-- THE SECOND FORM's CARD OF 'compasslaw.PlaneHeron'. -/
def planeHeronUptoCard : Claim7 := { stood := { row := planeHeronUptoRow, standIns := [], harness := (true, "f1f3837c33c33dd8e63dceb19ceaff40ac6c7d3a713fe8a5d603f2383b7b63b0"), looks := false }, kinds := [], alts := [], laidByText := true, laidKinds := [.data, .data, .data, .data, .pinned], laidTests := true, laidLooks := .later }
def PlaneHeronUptoCardSaid : Prop := Claim7.holds Tryz.pinned (.plain (OpenSpec.upto planeHeronSpec)) planeHeronUptoCard
end Rows
end Go.Proofs.YthkemecmngecaaaGreatDoor
