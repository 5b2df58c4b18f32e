/- Closed facts of the program that every row asks for: its main. -/
import Derived.Test.YtglilpjckmgbcaaGreatDoorRows
import Derived.Test.YtglilpjckmgbcaaGreatDoorChecked
import Derived.JoinedOf
import Derived.KernelRfl
namespace Go.Proofs.YtglilpjckmgbcaaGreatDoor

set_option maxRecDepth 100000 in
theorem main_is : Tryz.pinned.checked.prog.mainIs = some (true, "39e045f9c4bb196f79fad01a96257d3c677aa9aba7f96386e68a61c598ee573d".toList) := by kernel_rfl
end Go.Proofs.YtglilpjckmgbcaaGreatDoor
