/- A closed fact of the row of TurnKeeps. -/
import Derived.Test.YtibifijaanjekaaGreatDoorRows
import Derived.Test.YtibifijaanjekaaGreatDoorChecked
import Derived.SevenTiedAt
import Derived.KernelRfl
namespace Go.Proofs.YtibifijaanjekaaGreatDoor

set_option maxRecDepth 100000 in
theorem goes_by : false = Rows.turnKeepsUptoRow.goesBy Tryz.pinned.checked.prog := by kernel_rfl
end Go.Proofs.YtibifijaanjekaaGreatDoor
