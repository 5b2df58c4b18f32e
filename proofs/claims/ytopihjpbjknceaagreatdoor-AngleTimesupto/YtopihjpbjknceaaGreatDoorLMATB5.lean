/- Runs of the law, part 5. -/
import Derived.Test.YtopihjpbjknceaaGreatDoorLMATA
set_option maxHeartbeats 16000000
set_option maxRecDepth 100000
namespace Go.Proofs.YtopihjpbjknceaaGreatDoor
open Go.RowKit Cx
theorem at_r1044 : (callD (sx Tryz.prog (at_N 6 1 315 319) (at_H 44) [] [] [] at_Z (prC [5])) at_cs at_Gn 5 [] 3 (at_A (-44)) [] 0).map (·.1)=some (kB true) := by kernel_rfl
theorem at_r1022 : (callD (sx Tryz.prog (at_N 6 1 161 165) (at_H 22) [] [] [] at_Z (prC [5])) at_cs at_Gn 5 [] 3 (at_A (-22)) [] 0).map (·.1)=some (kB true) := by kernel_rfl
theorem at_r0 : (callD (sx Tryz.prog (at_N 1 6 9 11) (at_H 0) [] [] [] at_Z (prC [5])) at_cs at_Gp 5 [] 3 (at_A (0)) [] 0).map (·.1)=some (kB true) := by kernel_rfl
theorem at_r1035 : (callD (sx Tryz.prog (at_N 6 1 252 256) (at_H 35) [] [] [] at_Z (prC [5])) at_cs at_Gn 5 [] 3 (at_A (-35)) [] 0).map (·.1)=some (kB true) := by kernel_rfl
theorem at_r16 : (callD (sx Tryz.prog (at_N 1 6 119 123) (at_H 16) [] [] [] at_Z (prC [5])) at_cs at_Gp 5 [] 3 (at_A (16)) [] 0).map (·.1)=some (kB true) := by kernel_rfl
theorem at_r55 : (callD (sx Tryz.prog (at_N 1 6 392 396) (at_H 55) [] [] [] at_Z (prC [5])) at_cs at_Gp 5 [] 3 (at_A (55)) [] 0).map (·.1)=some (kB true) := by kernel_rfl
theorem at_r29 : (callD (sx Tryz.prog (at_N 1 6 210 214) (at_H 29) [] [] [] at_Z (prC [5])) at_cs at_Gp 5 [] 3 (at_A (29)) [] 0).map (·.1)=some (kB true) := by kernel_rfl
theorem at_r1002 : (callD (sx Tryz.prog (at_N 6 1 21 25) (at_H 2) [] [] [] at_Z (prC [5])) at_cs at_Gn 5 [] 3 (at_A (-2)) [] 0).map (·.1)=some (kB true) := by kernel_rfl
theorem at_r41 : (callD (sx Tryz.prog (at_N 1 6 294 298) (at_H 41) [] [] [] at_Z (prC [5])) at_cs at_Gp 5 [] 3 (at_A (41)) [] 0).map (·.1)=some (kB true) := by kernel_rfl
theorem at_r15 : (callD (sx Tryz.prog (at_N 1 6 112 116) (at_H 15) [] [] [] at_Z (prC [5])) at_cs at_Gp 5 [] 3 (at_A (15)) [] 0).map (·.1)=some (kB true) := by kernel_rfl
theorem at_r54 : (callD (sx Tryz.prog (at_N 1 6 385 389) (at_H 54) [] [] [] at_Z (prC [5])) at_cs at_Gp 5 [] 3 (at_A (54)) [] 0).map (·.1)=some (kB true) := by kernel_rfl
theorem at_r1023 : (callD (sx Tryz.prog (at_N 6 1 168 172) (at_H 23) [] [] [] at_Z (prC [5])) at_cs at_Gn 5 [] 3 (at_A (-23)) [] 0).map (·.1)=some (kB true) := by kernel_rfl
theorem at_r1001 : (callD (sx Tryz.prog (at_N 6 1 14 18) (at_H 1) [] [] [] at_Z (prC [5])) at_cs at_Gn 5 [] 3 (at_A (-1)) [] 0).map (·.1)=some (kB true) := by kernel_rfl
theorem at_r40 : (callD (sx Tryz.prog (at_N 1 6 287 291) (at_H 40) [] [] [] at_Z (prC [5])) at_cs at_Gp 5 [] 3 (at_A (40)) [] 0).map (·.1)=some (kB true) := by kernel_rfl
theorem at_r14 : (callD (sx Tryz.prog (at_N 1 6 105 109) (at_H 14) [] [] [] at_Z (prC [5])) at_cs at_Gp 5 [] 3 (at_A (14)) [] 0).map (·.1)=some (kB true) := by kernel_rfl
end Go.Proofs.YtopihjpbjknceaaGreatDoor
