/- Closed facts of the program that every row asks for: its main. -/
import Derived.Test.YtokkoifoemoegaaGreatDoorRows
import Derived.Test.YtokkoifoemoegaaGreatDoorChecked
import Derived.JoinedOf
import Derived.KernelRfl
namespace Go.Proofs.YtokkoifoemoegaaGreatDoor

set_option maxRecDepth 100000 in
theorem main_is : Tryz.pinned.checked.prog.mainIs = some (true, "8cea5baecc6fae4f9d5d59057f2913800a5b760f535bd7b0859d4ecbe0921d7e".toList) := by kernel_rfl
end Go.Proofs.YtokkoifoemoegaaGreatDoor
