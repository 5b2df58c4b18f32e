/- Runs of the law, part 3. -/
import Derived.Test.YtkafcpodhflhpaaGreatDoorLMKUA
set_option maxHeartbeats 16000000
set_option maxRecDepth 100000
namespace Go.Proofs.YtkafcpodhflhpaaGreatDoor
open Go.RowKit Cx
theorem kU_b14 : mxChkJ (sx Tryz.prog kU_N [] kU_KK kU_L kU_C kU_Z (prC [14])) kU_cs [] 13 7 1 (kU_B.drop 17)=true := by kernel_rfl
theorem kU_b29 : mxChkJ (sx Tryz.prog kU_N [] kU_KK kU_L kU_C kU_Z (prC [14])) kU_cs [] 13 7 1 (kU_B.drop 35)=true := by kernel_rfl
theorem kU_b10 : mxChkJ (sx Tryz.prog kU_N [] kU_KK kU_L kU_C kU_Z (prC [14])) kU_cs [] 13 7 2 (kU_B.drop 12)=true := by kernel_rfl
theorem kU_b25 : mxChkJ (sx Tryz.prog kU_N [] kU_KK kU_L kU_C kU_Z (prC [14])) kU_cs [] 13 7 2 (kU_B.drop 30)=true := by kernel_rfl
theorem kU_b6 : mxChkJ (sx Tryz.prog kU_N [] kU_KK kU_L kU_C kU_Z (prC [14])) kU_cs [] 13 7 1 (kU_B.drop 8)=true := by kernel_rfl
end Go.Proofs.YtkafcpodhflhpaaGreatDoor
