/- A closed fact of the row of ProjectAfter. -/
import Derived.Test.YtioacnhbiinjbaaGreatDoorRows
import Derived.Test.YtioacnhbiinjbaaGreatDoorChecked
import Derived.SevenTiedAt
import Derived.KernelRfl
namespace Go.Proofs.YtioacnhbiinjbaaGreatDoor

set_option maxRecDepth 100000 in
theorem goes_by : false = Rows.projectAfterUptoRow.goesBy Tryz.pinned.checked.prog := by kernel_rfl
end Go.Proofs.YtioacnhbiinjbaaGreatDoor
