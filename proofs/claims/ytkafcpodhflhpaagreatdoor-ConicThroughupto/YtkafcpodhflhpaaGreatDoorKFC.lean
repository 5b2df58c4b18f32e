/- Closed facts of the program that every row asks for: its main. -/
import Derived.Test.YtkafcpodhflhpaaGreatDoorRows
import Derived.Test.YtkafcpodhflhpaaGreatDoorChecked
import Derived.JoinedOf
import Derived.KernelRfl
namespace Go.Proofs.YtkafcpodhflhpaaGreatDoor

set_option maxRecDepth 100000 in
theorem main_is : Tryz.pinned.checked.prog.mainIs = some (true, "45e3d30416d7f01b40a4f4bf4dedb64904cc7b5663ff869e42fbc58cda6b786a".toList) := by kernel_rfl
end Go.Proofs.YtkafcpodhflhpaaGreatDoor
