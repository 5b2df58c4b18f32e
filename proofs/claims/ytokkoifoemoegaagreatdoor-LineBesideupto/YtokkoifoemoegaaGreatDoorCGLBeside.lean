/- A closed fact of the row of LineBeside. -/
import Derived.Test.YtokkoifoemoegaaGreatDoorRows
import Derived.Test.YtokkoifoemoegaaGreatDoorChecked
import Derived.SevenTiedAt
import Derived.KernelRfl
namespace Go.Proofs.YtokkoifoemoegaaGreatDoor

set_option maxRecDepth 100000 in
theorem goes_by : false = Rows.lineBesideUptoRow.goesBy Tryz.pinned.checked.prog := by kernel_rfl
end Go.Proofs.YtokkoifoemoegaaGreatDoor
