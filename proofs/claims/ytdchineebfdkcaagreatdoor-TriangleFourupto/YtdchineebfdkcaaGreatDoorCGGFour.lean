/- A closed fact of the row of TriangleFour. -/
import Derived.Test.YtdchineebfdkcaaGreatDoorRows
import Derived.Test.YtdchineebfdkcaaGreatDoorChecked
import Derived.SevenTiedAt
import Derived.KernelRfl
namespace Go.Proofs.YtdchineebfdkcaaGreatDoor

set_option maxRecDepth 100000 in
theorem goes_by : false = Rows.triangleFourUptoRow.goesBy Tryz.pinned.checked.prog := by kernel_rfl
end Go.Proofs.YtdchineebfdkcaaGreatDoor
