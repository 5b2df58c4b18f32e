/- A closed fact of the row of TriangleNine. -/
import Derived.Test.YtldhbbignahgeaaGreatDoorRows
import Derived.Test.YtldhbbignahgeaaGreatDoorChecked
import Derived.SevenTiedAt
import Derived.KernelRfl
namespace Go.Proofs.YtldhbbignahgeaaGreatDoor

set_option maxRecDepth 100000 in
theorem goes_by : false = Rows.triangleNineUptoRow.goesBy Tryz.pinned.checked.prog := by kernel_rfl
end Go.Proofs.YtldhbbignahgeaaGreatDoor
