/- Runs of the law, part 2. -/
import Derived.Test.YtkafcpodhflhpaaGreatDoorLMKUA
set_option maxHeartbeats 16000000
set_option maxRecDepth 100000
namespace Go.Proofs.YtkafcpodhflhpaaGreatDoor
open Go.RowKit Cx
theorem kU_b7 : mxChkJ (sx Tryz.prog kU_N [] kU_KK kU_L kU_C kU_Z (prC [14])) kU_cs [] 13 7 1 (kU_B.drop 9)=true := by kernel_rfl
theorem kU_b22 : mxChkJ (sx Tryz.prog kU_N [] kU_KK kU_L kU_C kU_Z (prC [14])) kU_cs [] 13 7 1 (kU_B.drop 27)=true := by kernel_rfl
theorem kU_b3 : mxChkJ (sx Tryz.prog kU_N [] kU_KK kU_L kU_C kU_Z (prC [14])) kU_cs [] 13 7 1 (kU_B.drop 4)=true := by kernel_rfl
theorem kU_b18 : mxChkJ (sx Tryz.prog kU_N [] kU_KK kU_L kU_C kU_Z (prC [14])) kU_cs [] 13 7 1 (kU_B.drop 22)=true := by kernel_rfl
theorem kU_r3 : (callJ (sx Tryz.prog kU_N [(0,149,0,0),(0,346,0,0),(0,627,0,1),(0,643,0,1),(0,659,0,1),(0,675,0,1),(0,691,0,1),(0,693,0,0),(0,702,0,0)] kU_KK kU_L kU_C kU_Z (prC [14])) kU_cs kU_G kU_B 13 8 [] 3 kU_A [] 0).map (·.1)=some (kB true) := by kernel_rfl
end Go.Proofs.YtkafcpodhflhpaaGreatDoor
