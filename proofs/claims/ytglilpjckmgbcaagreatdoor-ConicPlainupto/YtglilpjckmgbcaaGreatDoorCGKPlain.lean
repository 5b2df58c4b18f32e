/- A closed fact of the row of ConicPlain. -/
import Derived.Test.YtglilpjckmgbcaaGreatDoorRows
import Derived.Test.YtglilpjckmgbcaaGreatDoorChecked
import Derived.SevenTiedAt
import Derived.KernelRfl
namespace Go.Proofs.YtglilpjckmgbcaaGreatDoor

set_option maxRecDepth 100000 in
theorem goes_by : false = Rows.conicPlainUptoRow.goesBy Tryz.pinned.checked.prog := by kernel_rfl
end Go.Proofs.YtglilpjckmgbcaaGreatDoor
