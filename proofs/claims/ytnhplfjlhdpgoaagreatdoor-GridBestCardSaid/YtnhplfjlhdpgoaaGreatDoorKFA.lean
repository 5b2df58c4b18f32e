/- Closed facts of the program that every row asks for: its first words are reckoned once. -/
import Derived.Test.YtnhplfjlhdpgoaaGreatDoorRows
import Derived.Test.YtnhplfjlhdpgoaaGreatDoorChecked
import Derived.JoinedOf
import Derived.KernelRfl
namespace Go.Proofs.YtnhplfjlhdpgoaaGreatDoor

set_option maxRecDepth 100000 in
theorem head_word : (behindMainWord (wordsSigns Tryz.pinned.checked.prog.initOrder.toList)).head? = some "cut".toList := by kernel_rfl
theorem first_words : ∃ r, behindMainWord (wordsSigns Tryz.pinned.checked.prog.initOrder.toList) = "cut".toList :: r := by
  have h := head_word
  generalize behindMainWord (wordsSigns Tryz.pinned.checked.prog.initOrder.toList) = l at *
  cases l with
  | nil => cases h
  | cons a r => exact ⟨r, by rw [Option.some.inj h]⟩
theorem strip_cut (r : List (List Char)) : stripLifts liftWords ("cut".toList :: r) = ([], "cut".toList :: r) := by kernel_rfl
set_option maxRecDepth 100000 in
theorem lays_not : Tryz.pinned.checked.prog.laysLater = false := by kernel_rfl
set_option maxRecDepth 100000 in
theorem bears_not : Tryz.pinned.checked.prog.bearsReflect = false := by kernel_rfl
set_option maxRecDepth 100000 in
theorem door_fits : Tryz.pinned.checked.prog.doorFits [] = true := by kernel_rfl
set_option maxRecDepth 100000 in
theorem may_enter : Tryz.pinned.checked.prog.mayEnter = true := by
  obtain ⟨r, hr⟩ := first_words
  unfold Program.mayEnter
  rw [hr]
  dsimp only
  rw [strip_cut, lays_not, bears_not]
  dsimp only
  rw [door_fits]
  simp
set_option maxRecDepth 100000 in
theorem lifts_final : Tryz.pinned.checked.prog.liftsFinal = false := by
  obtain ⟨r, hr⟩ := first_words
  unfold Program.liftsFinal Program.headLifts
  rw [hr]
  dsimp only
  rw [strip_cut]
  simp
end Go.Proofs.YtnhplfjlhdpgoaaGreatDoor
