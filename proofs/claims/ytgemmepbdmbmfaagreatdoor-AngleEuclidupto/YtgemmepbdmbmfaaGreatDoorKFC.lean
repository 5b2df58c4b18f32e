/- Closed facts of the program that every row asks for: its main. -/
import Derived.Test.YtgemmepbdmbmfaaGreatDoorRows
import Derived.Test.YtgemmepbdmbmfaaGreatDoorChecked
import Derived.JoinedOf
import Derived.KernelRfl
namespace Go.Proofs.YtgemmepbdmbmfaaGreatDoor

set_option maxRecDepth 100000 in
theorem main_is : Tryz.pinned.checked.prog.mainIs = some (true, "9826e996cad04264ac9a4dacf9049209ffbeac560c5162fdd4d89c560a9ca34a".toList) := by kernel_rfl
end Go.Proofs.YtgemmepbdmbmfaaGreatDoor
