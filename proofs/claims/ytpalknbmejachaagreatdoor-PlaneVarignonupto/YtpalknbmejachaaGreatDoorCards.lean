/-
  DERIVED. GIVEN WITH THE SEED: THE CARDS: each row of YtpalknbmejachaaGreatDoorRows.lean that lists a variable, with what it lists TIED to the program's text (the seventh form; the later family's looks); each row that meets fmt, with fmt's text TOLD by the authors' own Lean function (tested against real Go, not proved from fmt's source: count such statements apart). THE CARD IS WHAT COUNTS. Prove the row's statement (the work); the ties are given (YtpalknbmejachaaGreatDoorTie.lean); close each card by the builder's one call (the guide's Derived/Test/ToyasCard.lean, 'card_holds'). Laid BY PROGRAM, IN A SANDBOX (cutbox-door.mjs). By AI agents, Wed Nov 11 2026. No macro, syntax, notation, axiom, sorry.
-/
import Derived.Test.YtpalknbmejachaaGreatDoorRows
import GoSem.ClaimSeven
namespace Go.Proofs.YtpalknbmejachaaGreatDoor
namespace Rows

/-- THE TIED CARD OF 'compasslaw.PlaneRatio'. -/
def planeRatioCard : Claim7 := { stood := { row := planeRatioRow, standIns := [], harness := (true, "a43b37adc62c5f94e9a21c9431eb8b8b149b42301051360462729cfefb3a5823"), looks := false }, kinds := [], alts := [], laidByText := true, laidKinds := [.data, .data, .data, .data, .pinned], laidTests := true, laidLooks := .later }
def PlaneRatioCardSaid : Prop := Claim7.holds Tryz.pinned (.plain (OpenSpec.ofChange planeRatioSpec)) planeRatioCard

/-- THE TIED CARD OF 'compasslaw.PlaneVarignon'. -/
def planeVarignonCard : Claim7 := { stood := { row := planeVarignonRow, standIns := [], harness := (true, "a43b37adc62c5f94e9a21c9431eb8b8b149b42301051360462729cfefb3a5823"), looks := false }, kinds := [], alts := [], laidByText := true, laidKinds := [.data, .data, .data, .data, .pinned], laidTests := true, laidLooks := .later }
def PlaneVarignonCardSaid : Prop := Claim7.holds Tryz.pinned (.plain (OpenSpec.ofChange planeVarignonSpec)) planeVarignonCard

/-- THE TIED CARD OF 'compasslaw.PlaneFlags'. -/
def planeFlagsCard : Claim7 := { stood := { row := planeFlagsRow, standIns := [], harness := (true, "a43b37adc62c5f94e9a21c9431eb8b8b149b42301051360462729cfefb3a5823"), looks := false }, kinds := [], alts := [], laidByText := true, laidKinds := [.data, .data, .data, .data, .pinned], laidTests := true, laidLooks := .later }
def PlaneFlagsCardSaid : Prop := Claim7.holds Tryz.pinned (.plain (OpenSpec.ofChange planeFlagsSpec)) planeFlagsCard

/-- THE TIED CARD OF 'compasslaw.LineNearest'. -/
def lineNearestCard : Claim7 := { stood := { row := lineNearestRow, standIns := [], harness := (true, "a43b37adc62c5f94e9a21c9431eb8b8b149b42301051360462729cfefb3a5823"), looks := false }, kinds := [], alts := [], laidByText := true, laidKinds := [.data, .data, .data, .data, .pinned], laidTests := true, laidLooks := .later }
def LineNearestCardSaid : Prop := Claim7.holds Tryz.pinned (.plain (OpenSpec.ofChange lineNearestSpec)) lineNearestCard

/-- THE TIED CARD OF 'compasslaw.LineConcur'. -/
def lineConcurCard : Claim7 := { stood := { row := lineConcurRow, standIns := [], harness := (true, "a43b37adc62c5f94e9a21c9431eb8b8b149b42301051360462729cfefb3a5823"), looks := false }, kinds := [], alts := [], laidByText := true, laidKinds := [.data, .data, .data, .data, .pinned], laidTests := true, laidLooks := .later }
def LineConcurCardSaid : Prop := Claim7.holds Tryz.pinned (.plain (OpenSpec.ofChange lineConcurSpec)) lineConcurCard

/-- THE TIED CARD OF 'compasslaw.LinePappus'. -/
def linePappusCard : Claim7 := { stood := { row := linePappusRow, standIns := [], harness := (true, "a43b37adc62c5f94e9a21c9431eb8b8b149b42301051360462729cfefb3a5823"), looks := false }, kinds := [], alts := [], laidByText := true, laidKinds := [.data, .data, .data, .data, .pinned], laidTests := true, laidLooks := .later }
def LinePappusCardSaid : Prop := Claim7.holds Tryz.pinned (.plain (OpenSpec.ofChange linePappusSpec)) linePappusCard

/-- THE SECOND FORM's CARD OF 'compasslaw.PlaneRatio'. -/
def planeRatioUptoCard : Claim7 := { stood := { row := planeRatioUptoRow, standIns := [], harness := (true, "a43b37adc62c5f94e9a21c9431eb8b8b149b42301051360462729cfefb3a5823"), looks := false }, kinds := [], alts := [], laidByText := true, laidKinds := [.data, .data, .data, .data, .pinned], laidTests := true, laidLooks := .later }
def PlaneRatioUptoCardSaid : Prop := Claim7.holds Tryz.pinned (.plain (OpenSpec.upto planeRatioSpec)) planeRatioUptoCard

/-- THE SECOND FORM's CARD OF 'compasslaw.PlaneVarignon'. -/
def planeVarignonUptoCard : Claim7 := { stood := { row := planeVarignonUptoRow, standIns := [], harness := (true, "a43b37adc62c5f94e9a21c9431eb8b8b149b42301051360462729cfefb3a5823"), looks := false }, kinds := [], alts := [], laidByText := true, laidKinds := [.data, .data, .data, .data, .pinned], laidTests := true, laidLooks := .later }
def PlaneVarignonUptoCardSaid : Prop := Claim7.holds Tryz.pinned (.plain (OpenSpec.upto planeVarignonSpec)) planeVarignonUptoCard

/-- THE SECOND FORM's CARD OF 'compasslaw.PlaneFlags'. -/
def planeFlagsUptoCard : Claim7 := { stood := { row := planeFlagsUptoRow, standIns := [], harness := (true, "a43b37adc62c5f94e9a21c9431eb8b8b149b42301051360462729cfefb3a5823"), looks := false }, kinds := [], alts := [], laidByText := true, laidKinds := [.data, .data, .data, .data, .pinned], laidTests := true, laidLooks := .later }
def PlaneFlagsUptoCardSaid : Prop := Claim7.holds Tryz.pinned (.plain (OpenSpec.upto planeFlagsSpec)) planeFlagsUptoCard

/-- THE SECOND FORM's CARD OF 'compasslaw.LineNearest'. -/
def lineNearestUptoCard : Claim7 := { stood := { row := lineNearestUptoRow, standIns := [], harness := (true, "a43b37adc62c5f94e9a21c9431eb8b8b149b42301051360462729cfefb3a5823"), looks := false }, kinds := [], alts := [], laidByText := true, laidKinds := [.data, .data, .data, .data, .pinned], laidTests := true, laidLooks := .later }
def LineNearestUptoCardSaid : Prop := Claim7.holds Tryz.pinned (.plain (OpenSpec.upto lineNearestSpec)) lineNearestUptoCard

/-- THE SECOND FORM's CARD OF 'compasslaw.LineConcur'. -/
def lineConcurUptoCard : Claim7 := { stood := { row := lineConcurUptoRow, standIns := [], harness := (true, "a43b37adc62c5f94e9a21c9431eb8b8b149b42301051360462729cfefb3a5823"), looks := false }, kinds := [], alts := [], laidByText := true, laidKinds := [.data, .data, .data, .data, .pinned], laidTests := true, laidLooks := .later }
def LineConcurUptoCardSaid : Prop := Claim7.holds Tryz.pinned (.plain (OpenSpec.upto lineConcurSpec)) lineConcurUptoCard

/-- THE SECOND FORM's CARD OF 'compasslaw.LinePappus'. -/
def linePappusUptoCard : Claim7 := { stood := { row := linePappusUptoRow, standIns := [], harness := (true, "a43b37adc62c5f94e9a21c9431eb8b8b149b42301051360462729cfefb3a5823"), looks := false }, kinds := [], alts := [], laidByText := true, laidKinds := [.data, .data, .data, .data, .pinned], laidTests := true, laidLooks := .later }
def LinePappusUptoCardSaid : Prop := Claim7.holds Tryz.pinned (.plain (OpenSpec.upto linePappusSpec)) linePappusUptoCard
end Rows
end Go.Proofs.YtpalknbmejachaaGreatDoor
