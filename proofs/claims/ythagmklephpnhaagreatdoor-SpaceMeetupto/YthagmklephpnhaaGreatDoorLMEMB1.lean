/- Runs of the law, part 1. -/
import Derived.Test.YthagmklephpnhaaGreatDoorLMEMA
set_option maxHeartbeats 16000000
set_option maxRecDepth 100000
namespace Go.Proofs.YthagmklephpnhaaGreatDoor
open Go.RowKit Cx
theorem eM_r0 : (Ql (sx Tryz.prog eM_N eM_H0 [(153,[])] QP QT QQ (prC [32])) Qu eM_G 7 [] 7 Za [] 0).map (·.1)=some (kB true) := by kernel_rfl
theorem eM_r48 : (Ql (sx Tryz.prog eM_N eM_H48 [(153,[]),(44,[]),(45,[.inr (3,99,0,0,0)])] QP QT QQ (prC [32])) Qu eM_G 7 [] 7 Za [] 0).map (·.1)=some (kB true) := by kernel_rfl
theorem eM_r1 : (Ql (sx Tryz.prog eM_N eM_H1 [(153,[])] QP QT QQ (prC [32])) Qu eM_G 7 [] 7 Za [] 0).map (·.1)=some (kB true) := by kernel_rfl
theorem eM_r49 : (Ql (sx Tryz.prog eM_N eM_H49 [(153,[]),(44,[]),(45,[.inr (3,99,0,0,0)])] QP QT QQ (prC [32])) Qu eM_G 7 [] 7 Za [] 0).map (·.1)=some (kB true) := by kernel_rfl
theorem eM_r2 : (Ql (sx Tryz.prog eM_N eM_H2 [(153,[])] QP QT QQ (prC [32])) Qu eM_G 7 [] 7 Za [] 0).map (·.1)=some (kB true) := by kernel_rfl
theorem eM_r50 : (Ql (sx Tryz.prog eM_N eM_H50 [(153,[]),(44,[]),(45,[.inr (3,99,0,0,0)])] QP QT QQ (prC [32])) Qu eM_G 7 [] 7 Za [] 0).map (·.1)=some (kB true) := by kernel_rfl
theorem eM_r3 : (Ql (sx Tryz.prog eM_N eM_H3 [(153,[]),(44,[]),(45,[.inr (3,107,0,0,0)])] QP QT QQ (prC [32])) Qu eM_G 7 [] 7 Za [] 0).map (·.1)=some (kB true) := by kernel_rfl
theorem eM_r51 : (Ql (sx Tryz.prog eM_N eM_H51 [(153,[]),(44,[]),(45,[.inr (3,99,0,0,0)])] QP QT QQ (prC [32])) Qu eM_G 7 [] 7 Za [] 0).map (·.1)=some (kB true) := by kernel_rfl
theorem eM_r4 : (Ql (sx Tryz.prog eM_N eM_H4 [(153,[]),(44,[]),(45,[.inr (3,107,0,0,0)])] QP QT QQ (prC [32])) Qu eM_G 7 [] 7 Za [] 0).map (·.1)=some (kB true) := by kernel_rfl
theorem eM_r52 : (Ql (sx Tryz.prog eM_N eM_H52 [(153,[]),(44,[]),(45,[.inr (3,99,0,0,0)])] QP QT QQ (prC [32])) Qu eM_G 7 [] 7 Za [] 0).map (·.1)=some (kB true) := by kernel_rfl
theorem eM_r11 : (Ql (sx Tryz.prog eM_N eM_H11 [(153,[]),(44,[]),(45,[.inr (3,103,0,0,0)])] QP QT QQ (prC [32])) Qu eM_G 7 [] 7 Za [] 0).map (·.1)=some (kB true) := by kernel_rfl
theorem eM_r59 : (Ql (sx Tryz.prog eM_N eM_H59 [(153,[]),(44,[]),(45,[.inr (3,87,0,0,0)])] QP QT QQ (prC [32])) Qu eM_G 7 [] 7 Za [] 0).map (·.1)=some (kB true) := by kernel_rfl
end Go.Proofs.YthagmklephpnhaaGreatDoor
