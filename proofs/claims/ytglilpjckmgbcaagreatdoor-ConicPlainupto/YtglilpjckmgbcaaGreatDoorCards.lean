/-
  DERIVED. GIVEN WITH THE SEED: THE CARDS: each row of YtglilpjckmgbcaaGreatDoorRows.lean that lists a variable, with what it lists TIED to the program's text (the seventh form; the later family's looks); each row that meets fmt, with fmt's text TOLD by the authors' own Lean function (tested against real Go, not proved from fmt's source: count such statements apart). THE CARD IS WHAT COUNTS. Prove the row's statement (the work); the ties are given (YtglilpjckmgbcaaGreatDoorTie.lean); close each card by the builder's one call (the guide's Derived/Test/ToyasCard.lean, 'card_holds'). Laid BY PROGRAM, IN A SANDBOX (cutbox-door.mjs). By AI agents, Wed Nov 11 2026. No macro, syntax, notation, axiom, sorry.
-/
import Derived.Test.YtglilpjckmgbcaaGreatDoorRows
import GoSem.ClaimSeven
namespace Go.Proofs.YtglilpjckmgbcaaGreatDoor
namespace Rows

/-- THE TIED CARD OF 'compasslaw.TriangleCeva'. -/
def triangleCevaCard : Claim7 := { stood := { row := triangleCevaRow, standIns := [], harness := (true, "39e045f9c4bb196f79fad01a96257d3c677aa9aba7f96386e68a61c598ee573d"), looks := false }, kinds := [], alts := [], laidByText := true, laidKinds := [.data, .data, .data, .data, .pinned], laidTests := true, laidLooks := .later }
def TriangleCevaCardSaid : Prop := Claim7.holds Tryz.pinned (.plain (OpenSpec.ofChange triangleCevaSpec)) triangleCevaCard

/-- THE TIED CARD OF 'compasslaw.TriangleCarnot'. -/
def triangleCarnotCard : Claim7 := { stood := { row := triangleCarnotRow, standIns := [], harness := (true, "39e045f9c4bb196f79fad01a96257d3c677aa9aba7f96386e68a61c598ee573d"), looks := false }, kinds := [], alts := [], laidByText := true, laidKinds := [.data, .data, .data, .data, .pinned], laidTests := true, laidLooks := .later }
def TriangleCarnotCardSaid : Prop := Claim7.holds Tryz.pinned (.plain (OpenSpec.ofChange triangleCarnotSpec)) triangleCarnotCard

/-- THE TIED CARD OF 'compasslaw.TriangleAubel'. -/
def triangleAubelCard : Claim7 := { stood := { row := triangleAubelRow, standIns := [], harness := (true, "39e045f9c4bb196f79fad01a96257d3c677aa9aba7f96386e68a61c598ee573d"), looks := false }, kinds := [], alts := [], laidByText := true, laidKinds := [.data, .data, .data, .data, .pinned], laidTests := true, laidLooks := .later }
def TriangleAubelCardSaid : Prop := Claim7.holds Tryz.pinned (.plain (OpenSpec.ofChange triangleAubelSpec)) triangleAubelCard

/-- THE TIED CARD OF 'compasslaw.ConicPlain'. -/
def conicPlainCard : Claim7 := { stood := { row := conicPlainRow, standIns := [], harness := (true, "39e045f9c4bb196f79fad01a96257d3c677aa9aba7f96386e68a61c598ee573d"), looks := false }, kinds := [], alts := [], laidByText := true, laidKinds := [.data, .data, .data, .data, .pinned], laidTests := true, laidLooks := .later }
def ConicPlainCardSaid : Prop := Claim7.holds Tryz.pinned (.plain (OpenSpec.ofChange conicPlainSpec)) conicPlainCard

/-- THE SECOND FORM's CARD OF 'compasslaw.TriangleCeva'. -/
def triangleCevaUptoCard : Claim7 := { stood := { row := triangleCevaUptoRow, standIns := [], harness := (true, "39e045f9c4bb196f79fad01a96257d3c677aa9aba7f96386e68a61c598ee573d"), looks := false }, kinds := [], alts := [], laidByText := true, laidKinds := [.data, .data, .data, .data, .pinned], laidTests := true, laidLooks := .later }
def TriangleCevaUptoCardSaid : Prop := Claim7.holds Tryz.pinned (.plain (OpenSpec.upto triangleCevaSpec)) triangleCevaUptoCard

/-- THE SECOND FORM's CARD OF 'compasslaw.TriangleCarnot'. -/
def triangleCarnotUptoCard : Claim7 := { stood := { row := triangleCarnotUptoRow, standIns := [], harness := (true, "39e045f9c4bb196f79fad01a96257d3c677aa9aba7f96386e68a61c598ee573d"), looks := false }, kinds := [], alts := [], laidByText := true, laidKinds := [.data, .data, .data, .data, .pinned], laidTests := true, laidLooks := .later }
def TriangleCarnotUptoCardSaid : Prop := Claim7.holds Tryz.pinned (.plain (OpenSpec.upto triangleCarnotSpec)) triangleCarnotUptoCard

/-- THE SECOND FORM's CARD OF 'compasslaw.TriangleAubel'. -/
def triangleAubelUptoCard : Claim7 := { stood := { row := triangleAubelUptoRow, standIns := [], harness := (true, "39e045f9c4bb196f79fad01a96257d3c677aa9aba7f96386e68a61c598ee573d"), looks := false }, kinds := [], alts := [], laidByText := true, laidKinds := [.data, .data, .data, .data, .pinned], laidTests := true, laidLooks := .later }
def TriangleAubelUptoCardSaid : Prop := Claim7.holds Tryz.pinned (.plain (OpenSpec.upto triangleAubelSpec)) triangleAubelUptoCard

/-- THE SECOND FORM's CARD OF 'compasslaw.ConicPlain'. -/
def conicPlainUptoCard : Claim7 := { stood := { row := conicPlainUptoRow, standIns := [], harness := (true, "39e045f9c4bb196f79fad01a96257d3c677aa9aba7f96386e68a61c598ee573d"), looks := false }, kinds := [], alts := [], laidByText := true, laidKinds := [.data, .data, .data, .data, .pinned], laidTests := true, laidLooks := .later }
def ConicPlainUptoCardSaid : Prop := Claim7.holds Tryz.pinned (.plain (OpenSpec.upto conicPlainSpec)) conicPlainUptoCard
end Rows
end Go.Proofs.YtglilpjckmgbcaaGreatDoor
