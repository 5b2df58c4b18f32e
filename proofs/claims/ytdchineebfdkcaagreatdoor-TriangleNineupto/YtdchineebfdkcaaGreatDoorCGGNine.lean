/- A closed fact of the row of TriangleNine. -/
import Derived.Test.YtdchineebfdkcaaGreatDoorRows
import Derived.Test.YtdchineebfdkcaaGreatDoorChecked
import Derived.SevenTiedAt
import Derived.KernelRfl
namespace Go.Proofs.YtdchineebfdkcaaGreatDoor

set_option maxRecDepth 100000 in
theorem goes_by : false = Rows.triangleNineUptoRow.goesBy Tryz.pinned.checked.prog := by kernel_rfl
end Go.Proofs.YtdchineebfdkcaaGreatDoor
