/- Runs of the law, part 6. -/
import Derived.Test.YtkafcpodhflhpaaGreatDoorLMKUA
set_option maxHeartbeats 16000000
set_option maxRecDepth 100000
namespace Go.Proofs.YtkafcpodhflhpaaGreatDoor
open Go.RowKit Cx
theorem kU_b1 : mxChkJ (sx Tryz.prog kU_N [] kU_KK kU_L kU_C kU_Z (prC [14])) kU_cs [] 13 7 1 (kU_B.drop 2)=true := by kernel_rfl
theorem kU_b16 : mxChkJ (sx Tryz.prog kU_N [] kU_KK kU_L kU_C kU_Z (prC [14])) kU_cs [] 13 7 1 (kU_B.drop 20)=true := by kernel_rfl
theorem kU_r1 : (callJ (sx Tryz.prog kU_N [(0,149,0,0),(0,346,0,1),(0,460,0,1),(0,528,0,0),(0,627,0,1),(0,643,0,1),(0,659,0,1),(0,675,0,1),(0,691,0,1),(0,693,0,0),(0,702,0,0)] kU_KK kU_L kU_C kU_Z (prC [14])) kU_cs kU_G kU_B 13 8 [] 3 kU_A [] 0).map (·.1)=some (kB true) := by kernel_rfl
theorem kU_b12 : mxChkJ (sx Tryz.prog kU_N [] kU_KK kU_L kU_C kU_Z (prC [14])) kU_cs [] 13 7 1 (kU_B.drop 15)=true := by kernel_rfl
theorem kU_b27 : mxChkJ (sx Tryz.prog kU_N [] kU_KK kU_L kU_C kU_Z (prC [14])) kU_cs [] 13 7 1 (kU_B.drop 33)=true := by kernel_rfl
end Go.Proofs.YtkafcpodhflhpaaGreatDoor
