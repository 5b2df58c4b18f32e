/- A closed fact of the row of SpaceSide. -/
import Derived.Test.YtnjaoobohkmjkaaGreatDoorRows
import Derived.Test.YtnjaoobohkmjkaaGreatDoorChecked
import Derived.SevenTiedAt
import Derived.KernelRfl
namespace Go.Proofs.YtnjaoobohkmjkaaGreatDoor

set_option maxRecDepth 100000 in
theorem goes_by : false = Rows.spaceSideUptoRow.goesBy Tryz.pinned.checked.prog := by kernel_rfl
end Go.Proofs.YtnjaoobohkmjkaaGreatDoor
