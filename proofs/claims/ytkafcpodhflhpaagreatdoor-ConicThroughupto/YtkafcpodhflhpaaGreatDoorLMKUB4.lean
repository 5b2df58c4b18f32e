/- Runs of the law, part 4. -/
import Derived.Test.YtkafcpodhflhpaaGreatDoorLMKUA
set_option maxHeartbeats 16000000
set_option maxRecDepth 100000
namespace Go.Proofs.YtkafcpodhflhpaaGreatDoor
open Go.RowKit Cx
theorem kU_b21 : mxChkJ (sx Tryz.prog kU_N [] kU_KK kU_L kU_C kU_Z (prC [14])) kU_cs [] 13 7 1 (kU_B.drop 26)=true := by kernel_rfl
theorem kU_b2 : mxChkJ (sx Tryz.prog kU_N [] kU_KK kU_L kU_C kU_Z (prC [14])) kU_cs [] 13 7 1 (kU_B.drop 3)=true := by kernel_rfl
theorem kU_b17 : mxChkJ (sx Tryz.prog kU_N [] kU_KK kU_L kU_C kU_Z (prC [14])) kU_cs [] 13 7 1 (kU_B.drop 21)=true := by kernel_rfl
theorem kU_r2 : (callJ (sx Tryz.prog kU_N [(0,149,0,0),(0,346,0,1),(0,460,0,0),(0,627,0,1),(0,643,0,1),(0,659,0,1),(0,675,0,1),(0,691,0,1),(0,693,0,0),(0,702,0,0)] kU_KK kU_L kU_C kU_Z (prC [14])) kU_cs kU_G kU_B 13 8 [] 3 kU_A [] 0).map (·.1)=some (kB true) := by kernel_rfl
theorem kU_b13 : mxChkJ (sx Tryz.prog kU_N [] kU_KK kU_L kU_C kU_Z (prC [14])) kU_cs [] 13 7 1 (kU_B.drop 16)=true := by kernel_rfl
end Go.Proofs.YtkafcpodhflhpaaGreatDoor
