/- Closed facts of the program that every row asks for: its main. -/
import Derived.Test.YtdchineebfdkcaaGreatDoorRows
import Derived.Test.YtdchineebfdkcaaGreatDoorChecked
import Derived.JoinedOf
import Derived.KernelRfl
namespace Go.Proofs.YtdchineebfdkcaaGreatDoor

set_option maxRecDepth 100000 in
theorem main_is : Tryz.pinned.checked.prog.mainIs = some (true, "ab18107174674eaf8bbc7992bb5cff62f9f7fee79b6c3e669e55deab05aa49b4".toList) := by kernel_rfl
end Go.Proofs.YtdchineebfdkcaaGreatDoor
