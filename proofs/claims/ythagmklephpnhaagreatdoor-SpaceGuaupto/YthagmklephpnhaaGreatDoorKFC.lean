/- Closed facts of the program that every row asks for: its main. -/
import Derived.Test.YthagmklephpnhaaGreatDoorRows
import Derived.Test.YthagmklephpnhaaGreatDoorChecked
import Derived.JoinedOf
import Derived.KernelRfl
namespace Go.Proofs.YthagmklephpnhaaGreatDoor

set_option maxRecDepth 100000 in
theorem main_is : Tryz.pinned.checked.prog.mainIs = some (true, "161ea14bc1b2ab8762113075307022e0a87148f37e3cca2cd8be3095fca5d88f".toList) := by kernel_rfl
end Go.Proofs.YthagmklephpnhaaGreatDoor
