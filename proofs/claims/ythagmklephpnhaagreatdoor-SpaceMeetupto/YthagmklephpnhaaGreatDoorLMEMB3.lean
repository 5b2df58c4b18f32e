/- Runs of the law, part 3. -/
import Derived.Test.YthagmklephpnhaaGreatDoorLMEMA
set_option maxHeartbeats 16000000
set_option maxRecDepth 100000
namespace Go.Proofs.YthagmklephpnhaaGreatDoor
open Go.RowKit Cx
theorem eM_r12 : (Ql (sx Tryz.prog eM_N eM_H12 [(153,[]),(44,[]),(45,[.inr (3,103,0,0,0)])] QP QT QQ (prC [32])) Qu eM_G 7 [] 7 Za [] 0).map (·.1)=some (kB true) := by kernel_rfl
theorem eM_r60 : (Ql (sx Tryz.prog eM_N eM_H60 [(153,[]),(44,[]),(45,[.inr (3,87,0,0,0)])] QP QT QQ (prC [32])) Qu eM_G 7 [] 7 Za [] 0).map (·.1)=some (kB true) := by kernel_rfl
theorem eM_r13 : (Ql (sx Tryz.prog eM_N eM_H13 [(153,[]),(44,[]),(45,[.inr (3,103,0,0,0)])] QP QT QQ (prC [32])) Qu eM_G 7 [] 7 Za [] 0).map (·.1)=some (kB true) := by kernel_rfl
theorem eM_r61 : (Ql (sx Tryz.prog eM_N eM_H61 [(153,[]),(44,[]),(45,[.inr (3,87,0,0,0)])] QP QT QQ (prC [32])) Qu eM_G 7 [] 7 Za [] 0).map (·.1)=some (kB true) := by kernel_rfl
theorem eM_r14 : (Ql (sx Tryz.prog eM_N eM_H14 [(153,[]),(44,[]),(45,[.inr (3,103,0,0,0)])] QP QT QQ (prC [32])) Qu eM_G 7 [] 7 Za [] 0).map (·.1)=some (kB true) := by kernel_rfl
theorem eM_r62 : (Ql (sx Tryz.prog eM_N eM_H62 [(153,[]),(44,[]),(45,[.inr (3,87,0,0,0)])] QP QT QQ (prC [32])) Qu eM_G 7 [] 7 Za [] 0).map (·.1)=some (kB true) := by kernel_rfl
theorem eM_r15 : (Ql (sx Tryz.prog eM_N eM_H15 [(153,[]),(44,[]),(45,[.inr (3,103,0,0,0)])] QP QT QQ (prC [32])) Qu eM_G 7 [] 7 Za [] 0).map (·.1)=some (kB true) := by kernel_rfl
theorem eM_r63 : (Ql (sx Tryz.prog eM_N eM_H63 [(153,[]),(44,[]),(45,[.inr (3,87,0,0,0)])] QP QT QQ (prC [32])) Qu eM_G 7 [] 7 Za [] 0).map (·.1)=some (kB true) := by kernel_rfl
theorem eM_r16 : (Ql (sx Tryz.prog eM_N eM_H16 [(153,[]),(44,[]),(45,[.inr (3,103,0,0,0)])] QP QT QQ (prC [32])) Qu eM_G 7 [] 7 Za [] 0).map (·.1)=some (kB true) := by kernel_rfl
theorem eM_r64 : (Ql (sx Tryz.prog eM_N eM_H64 [(153,[]),(44,[]),(45,[.inr (3,87,0,0,0)])] QP QT QQ (prC [32])) Qu eM_G 7 [] 7 Za [] 0).map (·.1)=some (kB true) := by kernel_rfl
theorem eM_r23 : (Ql (sx Tryz.prog eM_N eM_H23 [(153,[]),(44,[]),(45,[.inr (3,97,0,0,0)])] QP QT QQ (prC [32])) Qu eM_G 7 [] 7 Za [] 0).map (·.1)=some (kB true) := by kernel_rfl
theorem eM_r71 : (Ql (sx Tryz.prog eM_N eM_H71 [(153,[]),(44,[]),(45,[.inr (3,87,0,0,0)])] QP QT QQ (prC [32])) Qu eM_G 7 [] 7 Za [] 0).map (·.1)=some (kB true) := by kernel_rfl
end Go.Proofs.YthagmklephpnhaaGreatDoor
