/-
  DERIVED. GIVEN WITH THE SEED: THE CARDS: each row of YtkafcpodhflhpaaGreatDoorRows.lean that lists a variable, with what it lists TIED to the program's text (the seventh form; the later family's looks); each row that meets fmt, with fmt's text TOLD by the authors' own Lean function (tested against real Go, not proved from fmt's source: count such statements apart). THE CARD IS WHAT COUNTS. Prove the row's statement (the work); the ties are given (YtkafcpodhflhpaaGreatDoorTie.lean); close each card by the builder's one call (the guide's Derived/Test/ToyasCard.lean, 'card_holds'). Laid BY PROGRAM, IN A SANDBOX (cutbox-door.mjs). By AI agents, Wed Nov 11 2026. No macro, syntax, notation, axiom, sorry.
-/
import Derived.Test.YtkafcpodhflhpaaGreatDoorRows
import GoSem.ClaimSeven
namespace Go.Proofs.YtkafcpodhflhpaaGreatDoor
namespace Rows

/-- THE TIED CARD OF 'compasslaw.ConicThrough'. -/
def conicThroughCard : Claim7 := { stood := { row := conicThroughRow, standIns := [], harness := (true, "45e3d30416d7f01b40a4f4bf4dedb64904cc7b5663ff869e42fbc58cda6b786a"), looks := false }, kinds := [], alts := [], laidByText := true, laidKinds := [.data, .data, .data, .data, .pinned], laidTests := true, laidLooks := .later }
def ConicThroughCardSaid : Prop := Claim7.holds Tryz.pinned (.plain (OpenSpec.ofChange conicThroughSpec)) conicThroughCard

/-- THE TIED CARD OF 'compasslaw.ConicPascal'. -/
def conicPascalCard : Claim7 := { stood := { row := conicPascalRow, standIns := [], harness := (true, "45e3d30416d7f01b40a4f4bf4dedb64904cc7b5663ff869e42fbc58cda6b786a"), looks := false }, kinds := [], alts := [], laidByText := true, laidKinds := [.data, .data, .data, .data, .pinned], laidTests := true, laidLooks := .later }
def ConicPascalCardSaid : Prop := Claim7.holds Tryz.pinned (.plain (OpenSpec.ofChange conicPascalSpec)) conicPascalCard

/-- THE TIED CARD OF 'compasslaw.ConicBrianchon'. -/
def conicBrianchonCard : Claim7 := { stood := { row := conicBrianchonRow, standIns := [], harness := (true, "45e3d30416d7f01b40a4f4bf4dedb64904cc7b5663ff869e42fbc58cda6b786a"), looks := false }, kinds := [], alts := [], laidByText := true, laidKinds := [.data, .data, .data, .data, .pinned], laidTests := true, laidLooks := .later }
def ConicBrianchonCardSaid : Prop := Claim7.holds Tryz.pinned (.plain (OpenSpec.ofChange conicBrianchonSpec)) conicBrianchonCard

/-- THE TIED CARD OF 'compasslaw.ConicChords'. -/
def conicChordsCard : Claim7 := { stood := { row := conicChordsRow, standIns := [], harness := (true, "45e3d30416d7f01b40a4f4bf4dedb64904cc7b5663ff869e42fbc58cda6b786a"), looks := false }, kinds := [], alts := [], laidByText := true, laidKinds := [.data, .data, .data, .data, .pinned], laidTests := true, laidLooks := .later }
def ConicChordsCardSaid : Prop := Claim7.holds Tryz.pinned (.plain (OpenSpec.ofChange conicChordsSpec)) conicChordsCard

/-- THE SECOND FORM's CARD OF 'compasslaw.ConicThrough'. -/
def conicThroughUptoCard : Claim7 := { stood := { row := conicThroughUptoRow, standIns := [], harness := (true, "45e3d30416d7f01b40a4f4bf4dedb64904cc7b5663ff869e42fbc58cda6b786a"), looks := false }, kinds := [], alts := [], laidByText := true, laidKinds := [.data, .data, .data, .data, .pinned], laidTests := true, laidLooks := .later }
def ConicThroughUptoCardSaid : Prop := Claim7.holds Tryz.pinned (.plain (OpenSpec.upto conicThroughSpec)) conicThroughUptoCard

/-- THE SECOND FORM's CARD OF 'compasslaw.ConicPascal'. -/
def conicPascalUptoCard : Claim7 := { stood := { row := conicPascalUptoRow, standIns := [], harness := (true, "45e3d30416d7f01b40a4f4bf4dedb64904cc7b5663ff869e42fbc58cda6b786a"), looks := false }, kinds := [], alts := [], laidByText := true, laidKinds := [.data, .data, .data, .data, .pinned], laidTests := true, laidLooks := .later }
def ConicPascalUptoCardSaid : Prop := Claim7.holds Tryz.pinned (.plain (OpenSpec.upto conicPascalSpec)) conicPascalUptoCard

/-- THE SECOND FORM's CARD OF 'compasslaw.ConicBrianchon'. -/
def conicBrianchonUptoCard : Claim7 := { stood := { row := conicBrianchonUptoRow, standIns := [], harness := (true, "45e3d30416d7f01b40a4f4bf4dedb64904cc7b5663ff869e42fbc58cda6b786a"), looks := false }, kinds := [], alts := [], laidByText := true, laidKinds := [.data, .data, .data, .data, .pinned], laidTests := true, laidLooks := .later }
def ConicBrianchonUptoCardSaid : Prop := Claim7.holds Tryz.pinned (.plain (OpenSpec.upto conicBrianchonSpec)) conicBrianchonUptoCard

/-- THE SECOND FORM's CARD OF 'compasslaw.ConicChords'. -/
def conicChordsUptoCard : Claim7 := { stood := { row := conicChordsUptoRow, standIns := [], harness := (true, "45e3d30416d7f01b40a4f4bf4dedb64904cc7b5663ff869e42fbc58cda6b786a"), looks := false }, kinds := [], alts := [], laidByText := true, laidKinds := [.data, .data, .data, .data, .pinned], laidTests := true, laidLooks := .later }
def ConicChordsUptoCardSaid : Prop := Claim7.holds Tryz.pinned (.plain (OpenSpec.upto conicChordsSpec)) conicChordsUptoCard
end Rows
end Go.Proofs.YtkafcpodhflhpaaGreatDoor
