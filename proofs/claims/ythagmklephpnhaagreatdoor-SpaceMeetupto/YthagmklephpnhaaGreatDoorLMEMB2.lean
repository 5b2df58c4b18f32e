/- Runs of the law, part 2. -/
import Derived.Test.YthagmklephpnhaaGreatDoorLMEMA
set_option maxHeartbeats 16000000
set_option maxRecDepth 100000
namespace Go.Proofs.YthagmklephpnhaaGreatDoor
open Go.RowKit Cx
theorem eM_r6 : (Ql (sx Tryz.prog eM_N eM_H6 [(153,[]),(44,[]),(45,[.inr (3,107,0,0,0)])] QP QT QQ (prC [32])) Qu eM_G 7 [] 7 Za [] 0).map (·.1)=some (kB true) := by kernel_rfl
theorem eM_r54 : (Ql (sx Tryz.prog eM_N eM_H54 [(153,[]),(44,[]),(45,[.inr (3,99,0,0,0)])] QP QT QQ (prC [32])) Qu eM_G 7 [] 7 Za [] 0).map (·.1)=some (kB true) := by kernel_rfl
theorem eM_r7 : (Ql (sx Tryz.prog eM_N eM_H7 [(153,[]),(44,[]),(45,[.inr (3,107,0,0,0)])] QP QT QQ (prC [32])) Qu eM_G 7 [] 7 Za [] 0).map (·.1)=some (kB true) := by kernel_rfl
theorem eM_r55 : (Ql (sx Tryz.prog eM_N eM_H55 [(153,[]),(44,[]),(45,[.inr (3,99,0,0,0)])] QP QT QQ (prC [32])) Qu eM_G 7 [] 7 Za [] 0).map (·.1)=some (kB true) := by kernel_rfl
theorem eM_r8 : (Ql (sx Tryz.prog eM_N eM_H8 [(153,[]),(44,[]),(45,[.inr (3,107,0,0,0)])] QP QT QQ (prC [32])) Qu eM_G 7 [] 7 Za [] 0).map (·.1)=some (kB true) := by kernel_rfl
theorem eM_r56 : (Ql (sx Tryz.prog eM_N eM_H56 [(153,[]),(44,[]),(45,[.inr (3,99,0,0,0)])] QP QT QQ (prC [32])) Qu eM_G 7 [] 7 Za [] 0).map (·.1)=some (kB true) := by kernel_rfl
theorem eM_r9 : (Ql (sx Tryz.prog eM_N eM_H9 [(153,[]),(44,[]),(45,[.inr (3,103,0,0,0)])] QP QT QQ (prC [32])) Qu eM_G 7 [] 7 Za [] 0).map (·.1)=some (kB true) := by kernel_rfl
theorem eM_r57 : (Ql (sx Tryz.prog eM_N eM_H57 [(153,[]),(44,[]),(45,[.inr (3,87,0,0,0)])] QP QT QQ (prC [32])) Qu eM_G 7 [] 7 Za [] 0).map (·.1)=some (kB true) := by kernel_rfl
theorem eM_r10 : (Ql (sx Tryz.prog eM_N eM_H10 [(153,[]),(44,[]),(45,[.inr (3,103,0,0,0)])] QP QT QQ (prC [32])) Qu eM_G 7 [] 7 Za [] 0).map (·.1)=some (kB true) := by kernel_rfl
theorem eM_r58 : (Ql (sx Tryz.prog eM_N eM_H58 [(153,[]),(44,[]),(45,[.inr (3,87,0,0,0)])] QP QT QQ (prC [32])) Qu eM_G 7 [] 7 Za [] 0).map (·.1)=some (kB true) := by kernel_rfl
theorem eM_r17 : (Ql (sx Tryz.prog eM_N eM_H17 [(153,[]),(44,[]),(45,[.inr (3,103,0,0,0)])] QP QT QQ (prC [32])) Qu eM_G 7 [] 7 Za [] 0).map (·.1)=some (kB true) := by kernel_rfl
theorem eM_r65 : (Ql (sx Tryz.prog eM_N eM_H65 [(153,[]),(44,[]),(45,[.inr (3,87,0,0,0)])] QP QT QQ (prC [32])) Qu eM_G 7 [] 7 Za [] 0).map (·.1)=some (kB true) := by kernel_rfl
end Go.Proofs.YthagmklephpnhaaGreatDoor
