/- The closed facts of the row of GridBest, each by itself. -/
import Derived.Test.YtnhplfjlhdpgoaaGreatDoorKFB
import Derived.JoinedOf
import Derived.Lib.SmallJoins
import Derived.KernelRfl
namespace Go.Proofs.YtnhplfjlhdpgoaaGreatDoor

theorem both {a b : Bool} (ha : a = true) (hb : b = true) : (a && b) = true := by
  subst ha hb
  rfl
set_option maxHeartbeats 0 in
set_option maxRecDepth 100000 in
/-- The closed facts of the row, each by itself: together they outgrow the kernel's memory. -/
theorem joined : joinedFacts Tryz.pinned.checked.prog 4 Tryz.f4 (OpenSpec.ofChange Rows.gridBestSpec).bare Rows.gridBestRow = true := by
  unfold joinedFacts
  refine both (both (both (both (both (both (both (both (both (both (both (both (both (both (both (both (both (both (both (both (both (both (both (both (both (both (both (both (both (both (both ?_ laid_out) maps_rowed) ?_) ?_) ?_) ?_) ?_) ?_) ?_) ?_) ?_) ?_) ?_) ?_) ?_) ?_) ?_) ?_) ?_) ?_) ?_) ?_) ?_) stops_heard) may_enter) (by rw [lifts_final]; kernel_rfl)) ?_) ?_) ?_) ?_) ?_
  all_goals (as_aux_lemma => kernel_rfl)
end Go.Proofs.YtnhplfjlhdpgoaaGreatDoor
