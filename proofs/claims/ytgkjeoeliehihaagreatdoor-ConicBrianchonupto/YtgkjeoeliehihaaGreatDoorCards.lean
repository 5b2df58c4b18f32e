/-
  DERIVED. GIVEN WITH THE SEED: THE CARDS: each row of YtgkjeoeliehihaaGreatDoorRows.lean that lists a variable, with what it lists TIED to the program's text (the seventh form; the later family's looks); each row that meets fmt, with fmt's text TOLD by the authors' own Lean function (tested against real Go, not proved from fmt's source: count such statements apart). THE CARD IS WHAT COUNTS. Prove the row's statement (the work); the ties are given (YtgkjeoeliehihaaGreatDoorTie.lean); close each card by the builder's one call (the guide's Derived/Test/ToyasCard.lean, 'card_holds'). Laid BY PROGRAM, IN A SANDBOX (cutbox-door.mjs). By AI agents, Wed Nov 11 2026. No macro, syntax, notation, axiom, sorry.
-/
import Derived.Test.YtgkjeoeliehihaaGreatDoorRows
import GoSem.ClaimSeven
namespace Go.Proofs.YtgkjeoeliehihaaGreatDoor
namespace Rows

/-- THE TIED CARD OF 'compasslaw.ConicBrianchon'. -/
def conicBrianchonCard : Claim7 := { stood := { row := conicBrianchonRow, standIns := [], harness := (true, "f18160ad3d85fbac62549353609d7fafb40b473af865bf540107feb750b8ad2b"), looks := false }, kinds := [], alts := [], laidByText := true, laidKinds := [.data, .data, .data, .data, .pinned], laidTests := true, laidLooks := .later }
def ConicBrianchonCardSaid : Prop := Claim7.holds Tryz.pinned (.plain (OpenSpec.ofChange conicBrianchonSpec)) conicBrianchonCard

/-- THE SECOND FORM's CARD OF 'compasslaw.ConicBrianchon'. -/
def conicBrianchonUptoCard : Claim7 := { stood := { row := conicBrianchonUptoRow, standIns := [], harness := (true, "f18160ad3d85fbac62549353609d7fafb40b473af865bf540107feb750b8ad2b"), looks := false }, kinds := [], alts := [], laidByText := true, laidKinds := [.data, .data, .data, .data, .pinned], laidTests := true, laidLooks := .later }
def ConicBrianchonUptoCardSaid : Prop := Claim7.holds Tryz.pinned (.plain (OpenSpec.upto conicBrianchonSpec)) conicBrianchonUptoCard
end Rows
end Go.Proofs.YtgkjeoeliehihaaGreatDoor
