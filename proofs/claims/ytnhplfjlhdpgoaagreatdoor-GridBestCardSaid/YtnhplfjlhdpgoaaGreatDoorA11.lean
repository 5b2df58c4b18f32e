/- Part 11 of the walks and of the mathematics under them: BT. -/
import Derived.Test.YtnhplfjlhdpgoaaGreatDoorA10
set_option maxHeartbeats 16000000
set_option maxRecDepth 100000
/- BT -/
namespace Go.Proofs.YtnhplfjlhdpgoaaGreatDoor
open Go.RowKit Cx
attribute [local go_sem ↓] Go.wp_at_zero Go.wp_at_succ
end Go.Proofs.YtnhplfjlhdpgoaaGreatDoor
