/- A closed fact of the row of GridBest. -/
import Derived.Test.YtnhplfjlhdpgoaaGreatDoorRows
import Derived.Test.YtnhplfjlhdpgoaaGreatDoorChecked
import Derived.SevenTiedAt
import Derived.KernelRfl
namespace Go.Proofs.YtnhplfjlhdpgoaaGreatDoor

set_option maxRecDepth 100000 in
theorem goes_by : false = Rows.gridBestRow.goesBy Tryz.pinned.checked.prog := by kernel_rfl
end Go.Proofs.YtnhplfjlhdpgoaaGreatDoor
