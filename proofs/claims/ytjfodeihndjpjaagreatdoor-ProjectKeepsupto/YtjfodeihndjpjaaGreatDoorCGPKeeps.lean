/- A closed fact of the row of ProjectKeeps. -/
import Derived.Test.YtjfodeihndjpjaaGreatDoorRows
import Derived.Test.YtjfodeihndjpjaaGreatDoorChecked
import Derived.SevenTiedAt
import Derived.KernelRfl
namespace Go.Proofs.YtjfodeihndjpjaaGreatDoor

set_option maxRecDepth 100000 in
theorem goes_by : false = Rows.projectKeepsUptoRow.goesBy Tryz.pinned.checked.prog := by kernel_rfl
end Go.Proofs.YtjfodeihndjpjaaGreatDoor
