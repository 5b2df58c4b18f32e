/- A closed fact of the row of ConicThrough. -/
import Derived.Test.YtkafcpodhflhpaaGreatDoorRows
import Derived.Test.YtkafcpodhflhpaaGreatDoorChecked
import Derived.SevenTiedAt
import Derived.KernelRfl
namespace Go.Proofs.YtkafcpodhflhpaaGreatDoor

set_option maxRecDepth 100000 in
theorem goes_by : false = Rows.conicThroughUptoRow.goesBy Tryz.pinned.checked.prog := by kernel_rfl
end Go.Proofs.YtkafcpodhflhpaaGreatDoor
