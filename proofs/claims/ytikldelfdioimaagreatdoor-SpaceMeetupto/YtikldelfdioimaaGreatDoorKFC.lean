/- Closed facts of the program that every row asks for: its main. -/
import Derived.Test.YtikldelfdioimaaGreatDoorRows
import Derived.Test.YtikldelfdioimaaGreatDoorChecked
import Derived.JoinedOf
import Derived.KernelRfl
namespace Go.Proofs.YtikldelfdioimaaGreatDoor

set_option maxRecDepth 100000 in
theorem main_is : Tryz.pinned.checked.prog.mainIs = some (true, "454eb79efb2ea9817243ff39e5e114518c4f6b9840b7354bc2c1fc194897b9ea".toList) := by kernel_rfl
end Go.Proofs.YtikldelfdioimaaGreatDoor
