/- Closed facts of the program that every row asks for: its main. -/
import Derived.Test.YtjfodeihndjpjaaGreatDoorRows
import Derived.Test.YtjfodeihndjpjaaGreatDoorChecked
import Derived.JoinedOf
import Derived.KernelRfl
namespace Go.Proofs.YtjfodeihndjpjaaGreatDoor

set_option maxRecDepth 100000 in
theorem main_is : Tryz.pinned.checked.prog.mainIs = some (true, "5d72df0e5f852be8b31893fb18689c1f217ffbf28c7f5abe0589160d23ccc203".toList) := by kernel_rfl
end Go.Proofs.YtjfodeihndjpjaaGreatDoor
