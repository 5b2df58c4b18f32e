/- Closed facts of the program that every row asks for: more. -/
import Derived.Test.YtnhplfjlhdpgoaaGreatDoorKFA
namespace Go.Proofs.YtnhplfjlhdpgoaaGreatDoor

set_option maxRecDepth 100000 in
theorem maps_rowed : mapsRowed Tryz.pinned.checked.prog = true := by kernel_rfl
set_option maxRecDepth 100000 in
theorem stops_heard : Tryz.pinned.checked.prog.stopsHeard = true := by kernel_rfl
set_option maxRecDepth 100000 in
theorem laid_out : laidOutB Tryz.pinned.checked.prog = true := by kernel_rfl
end Go.Proofs.YtnhplfjlhdpgoaaGreatDoor
