/- Runs of the law, part 2. -/
import Derived.Test.YtmdfngmjoaigjaaGreatDoorLMQAA
set_option maxHeartbeats 16000000
set_option maxRecDepth 100000
namespace Go.Proofs.YtmdfngmjoaigjaaGreatDoor
open Go.RowKit Cx
theorem qA_r2 : (Zp (sx Tryz.prog qA_N qA_H2 [(105,[.inr (3,5,0,0,0),.inr (3,9,0,0,0),.inr (3,10,0,0,0)]),(105,[.inr (3,51,0,0,0),.inr (3,55,0,0,0),.inr (3,56,0,0,0)]),(97,[.inr (3,84,0,0,0),.inr (3,83,0,0,0)]),(105,[.inr (3,166,0,0,0),.inr (3,190,0,0,0),.inr (3,191,0,0,0)])] Wu Wx Wz (prC [11])) YP qA_G 7 [] 6 qA_A [] 0).map (·.1)=some (kB true) := by kernel_rfl
theorem qA_r1 : (Zp (sx Tryz.prog qA_N qA_H1 [(105,[.inr (3,5,0,0,0),.inr (3,9,0,0,0),.inr (3,10,0,0,0)]),(105,[.inr (3,51,0,0,0),.inr (3,55,0,0,0),.inr (3,56,0,0,0)]),(97,[.inr (3,84,0,0,0),.inr (3,83,0,0,0)]),(105,[.inr (3,199,0,0,0),.inr (3,223,0,0,0),.inr (3,224,0,0,0)])] Wu Wx Wz (prC [11])) YP qA_G 7 [] 6 qA_A [] 0).map (·.1)=some (kB true) := by kernel_rfl
end Go.Proofs.YtmdfngmjoaigjaaGreatDoor
