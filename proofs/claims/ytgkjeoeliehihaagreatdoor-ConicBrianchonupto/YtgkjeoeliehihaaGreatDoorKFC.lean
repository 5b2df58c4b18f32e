/- Closed facts of the program that every row asks for: its main. -/
import Derived.Test.YtgkjeoeliehihaaGreatDoorRows
import Derived.Test.YtgkjeoeliehihaaGreatDoorChecked
import Derived.JoinedOf
import Derived.KernelRfl
namespace Go.Proofs.YtgkjeoeliehihaaGreatDoor

set_option maxRecDepth 100000 in
theorem main_is : Tryz.pinned.checked.prog.mainIs = some (true, "f18160ad3d85fbac62549353609d7fafb40b473af865bf540107feb750b8ad2b".toList) := by kernel_rfl
end Go.Proofs.YtgkjeoeliehihaaGreatDoor
