/- Runs of the law, part 2. -/
import Derived.Test.YtcjmbkcodigpdaaGreatDoorLMTYA
set_option maxHeartbeats 16000000
set_option maxRecDepth 100000
namespace Go.Proofs.YtcjmbkcodigpdaaGreatDoor
open Go.RowKit Cx
theorem tY_r5 : (Js (sx Tryz.prog tY_N tY_H5 [(123,[.inr (3,27,0,0,0),.inr (3,31,0,0,0)]),(72,[])] Xe Xb Xa (prC [19])) JZ tY_G 7 [] 4 Ip [] 0).map (·.1)=some (kB true) := by kernel_rfl
theorem tY_r2 : (Js (sx Tryz.prog tY_N tY_H2 [(123,[.inr (3,27,0,0,0),.inr (3,31,0,0,0)]),(72,[])] Xe Xb Xa (prC [19])) JZ tY_G 7 [] 4 Ip [] 0).map (·.1)=some (kB true) := by kernel_rfl
theorem tY_r4 : (Js (sx Tryz.prog tY_N tY_H4 [(123,[.inr (3,27,0,0,0),.inr (3,31,0,0,0)]),(72,[])] Xe Xb Xa (prC [19])) JZ tY_G 7 [] 4 Ip [] 0).map (·.1)=some (kB true) := by kernel_rfl
end Go.Proofs.YtcjmbkcodigpdaaGreatDoor
