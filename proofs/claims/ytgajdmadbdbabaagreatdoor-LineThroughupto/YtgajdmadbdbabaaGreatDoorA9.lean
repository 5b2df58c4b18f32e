/- Part 9 of the walks and of the mathematics under them: BU. -/
import Derived.Test.YtgajdmadbdbabaaGreatDoorA7
set_option maxHeartbeats 16000000
set_option maxRecDepth 100000
/- BU -/
namespace Go.Proofs.YtgajdmadbdbabaaGreatDoor
open Go.RowKit Cx
attribute [local go_sem ↓] Go.wp_at_zero Go.wp_at_succ
end Go.Proofs.YtgajdmadbdbabaaGreatDoor
