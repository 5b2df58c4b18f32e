/- Runs of the law, part 4. -/
import Derived.Test.YtopihjpbjknceaaGreatDoorLMATA
set_option maxHeartbeats 16000000
set_option maxRecDepth 100000
namespace Go.Proofs.YtopihjpbjknceaaGreatDoor
open Go.RowKit Cx
theorem at_r56 : (callD (sx Tryz.prog (at_N 1 6 399 403) (at_H 56) [] [] [] at_Z (prC [5])) at_cs at_Gp 5 [] 3 (at_A (56)) [] 0).map (·.1)=some (kB true) := by kernel_rfl
theorem at_r30 : (callD (sx Tryz.prog (at_N 1 6 217 221) (at_H 30) [] [] [] at_Z (prC [5])) at_cs at_Gp 5 [] 3 (at_A (30)) [] 0).map (·.1)=some (kB true) := by kernel_rfl
theorem at_r4 : (callD (sx Tryz.prog (at_N 1 6 35 39) (at_H 4) [] [] [] at_Z (prC [5])) at_cs at_Gp 5 [] 3 (at_A (4)) [] 0).map (·.1)=some (kB true) := by kernel_rfl
theorem at_r1038 : (callD (sx Tryz.prog (at_N 6 1 273 277) (at_H 38) [] [] [] at_Z (prC [5])) at_cs at_Gn 5 [] 3 (at_A (-38)) [] 0).map (·.1)=some (kB true) := by kernel_rfl
theorem at_r1016 : (callD (sx Tryz.prog (at_N 6 1 119 123) (at_H 16) [] [] [] at_Z (prC [5])) at_cs at_Gn 5 [] 3 (at_A (-16)) [] 0).map (·.1)=some (kB true) := by kernel_rfl
theorem at_r58 : (callD (sx Tryz.prog (at_N 1 6 413 417) (at_H 58) [] [] [] at_Z (prC [5])) at_cs at_Gp 5 [] 3 (at_A (58)) [] 0).map (·.1)=some (kB true) := by kernel_rfl
theorem at_r32 : (callD (sx Tryz.prog (at_N 1 6 231 235) (at_H 32) [] [] [] at_Z (prC [5])) at_cs at_Gp 5 [] 3 (at_A (32)) [] 0).map (·.1)=some (kB true) := by kernel_rfl
theorem at_r6 : (callD (sx Tryz.prog (at_N 1 6 49 53) (at_H 6) [] [] [] at_Z (prC [5])) at_cs at_Gp 5 [] 3 (at_A (6)) [] 0).map (·.1)=some (kB true) := by kernel_rfl
theorem at_r1037 : (callD (sx Tryz.prog (at_N 6 1 266 270) (at_H 37) [] [] [] at_Z (prC [5])) at_cs at_Gn 5 [] 3 (at_A (-37)) [] 0).map (·.1)=some (kB true) := by kernel_rfl
theorem at_r1015 : (callD (sx Tryz.prog (at_N 6 1 112 116) (at_H 15) [] [] [] at_Z (prC [5])) at_cs at_Gn 5 [] 3 (at_A (-15)) [] 0).map (·.1)=some (kB true) := by kernel_rfl
theorem at_r57 : (callD (sx Tryz.prog (at_N 1 6 406 410) (at_H 57) [] [] [] at_Z (prC [5])) at_cs at_Gp 5 [] 3 (at_A (57)) [] 0).map (·.1)=some (kB true) := by kernel_rfl
theorem at_r31 : (callD (sx Tryz.prog (at_N 1 6 224 228) (at_H 31) [] [] [] at_Z (prC [5])) at_cs at_Gp 5 [] 3 (at_A (31)) [] 0).map (·.1)=some (kB true) := by kernel_rfl
theorem at_r5 : (callD (sx Tryz.prog (at_N 1 6 42 46) (at_H 5) [] [] [] at_Z (prC [5])) at_cs at_Gp 5 [] 3 (at_A (5)) [] 0).map (·.1)=some (kB true) := by kernel_rfl
theorem at_r1036 : (callD (sx Tryz.prog (at_N 6 1 259 263) (at_H 36) [] [] [] at_Z (prC [5])) at_cs at_Gn 5 [] 3 (at_A (-36)) [] 0).map (·.1)=some (kB true) := by kernel_rfl
theorem at_r1014 : (callD (sx Tryz.prog (at_N 6 1 105 109) (at_H 14) [] [] [] at_Z (prC [5])) at_cs at_Gn 5 [] 3 (at_A (-14)) [] 0).map (·.1)=some (kB true) := by kernel_rfl
end Go.Proofs.YtopihjpbjknceaaGreatDoor
