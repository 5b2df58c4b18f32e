/- Closed facts of the program that every row asks for: its main. -/
import Derived.Test.YthhnabccdehmgaaGreatDoorRows
import Derived.Test.YthhnabccdehmgaaGreatDoorChecked
import Derived.JoinedOf
import Derived.KernelRfl
namespace Go.Proofs.YthhnabccdehmgaaGreatDoor

set_option maxRecDepth 100000 in
theorem main_is : Tryz.pinned.checked.prog.mainIs = some (true, "983851f4e3fba1606ca5423afb3cafb3da76dd70ceabafd7043e2c89cacc8a2a".toList) := by kernel_rfl
end Go.Proofs.YthhnabccdehmgaaGreatDoor
