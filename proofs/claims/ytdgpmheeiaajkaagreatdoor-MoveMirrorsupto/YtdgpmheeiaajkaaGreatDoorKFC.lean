/- Closed facts of the program that every row asks for: its main. -/
import Derived.Test.YtdgpmheeiaajkaaGreatDoorRows
import Derived.Test.YtdgpmheeiaajkaaGreatDoorChecked
import Derived.JoinedOf
import Derived.KernelRfl
namespace Go.Proofs.YtdgpmheeiaajkaaGreatDoor

set_option maxRecDepth 100000 in
theorem main_is : Tryz.pinned.checked.prog.mainIs = some (true, "4518c2a0b105a542a6120b10659514bc3eba7bdd74e3d9e74ab2518e0c357bf6".toList) := by kernel_rfl
end Go.Proofs.YtdgpmheeiaajkaaGreatDoor
