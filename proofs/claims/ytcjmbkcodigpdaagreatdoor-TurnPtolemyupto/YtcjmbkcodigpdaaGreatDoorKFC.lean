/- Closed facts of the program that every row asks for: its main. -/
import Derived.Test.YtcjmbkcodigpdaaGreatDoorRows
import Derived.Test.YtcjmbkcodigpdaaGreatDoorChecked
import Derived.JoinedOf
import Derived.KernelRfl
namespace Go.Proofs.YtcjmbkcodigpdaaGreatDoor

set_option maxRecDepth 100000 in
theorem main_is : Tryz.pinned.checked.prog.mainIs = some (true, "1ed14fac444234a339042f5861f908e3f931193abec79d506ec670d7570cebcb".toList) := by kernel_rfl
end Go.Proofs.YtcjmbkcodigpdaaGreatDoor
