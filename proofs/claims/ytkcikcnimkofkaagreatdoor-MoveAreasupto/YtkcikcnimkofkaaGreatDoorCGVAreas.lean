/- A closed fact of the row of MoveAreas. -/
import Derived.Test.YtkcikcnimkofkaaGreatDoorRows
import Derived.Test.YtkcikcnimkofkaaGreatDoorChecked
import Derived.SevenTiedAt
import Derived.KernelRfl
namespace Go.Proofs.YtkcikcnimkofkaaGreatDoor

set_option maxRecDepth 100000 in
theorem goes_by : false = Rows.moveAreasUptoRow.goesBy Tryz.pinned.checked.prog := by kernel_rfl
end Go.Proofs.YtkcikcnimkofkaaGreatDoor
