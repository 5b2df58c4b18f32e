/- Runs of the law, part 2. -/
import Derived.Test.YtopihjpbjknceaaGreatDoorLMATA
set_option maxHeartbeats 16000000
set_option maxRecDepth 100000
namespace Go.Proofs.YtopihjpbjknceaaGreatDoor
open Go.RowKit Cx
theorem at_r1054 : (callD (sx Tryz.prog (at_N 6 1 385 389) (at_H 54) [] [] [] at_Z (prC [5])) at_cs at_Gn 5 [] 3 (at_A (-54)) [] 0).map (·.1)=some (kB true) := by kernel_rfl
theorem at_r1030 : (callD (sx Tryz.prog (at_N 6 1 217 221) (at_H 30) [] [] [] at_Z (prC [5])) at_cs at_Gn 5 [] 3 (at_A (-30)) [] 0).map (·.1)=some (kB true) := by kernel_rfl
theorem at_r1008 : (callD (sx Tryz.prog (at_N 6 1 63 67) (at_H 8) [] [] [] at_Z (prC [5])) at_cs at_Gn 5 [] 3 (at_A (-8)) [] 0).map (·.1)=some (kB true) := by kernel_rfl
theorem at_r52 : (callD (sx Tryz.prog (at_N 1 6 371 375) (at_H 52) [] [] [] at_Z (prC [5])) at_cs at_Gp 5 [] 3 (at_A (52)) [] 0).map (·.1)=some (kB true) := by kernel_rfl
theorem at_r26 : (callD (sx Tryz.prog (at_N 1 6 189 193) (at_H 26) [] [] [] at_Z (prC [5])) at_cs at_Gp 5 [] 3 (at_A (26)) [] 0).map (·.1)=some (kB true) := by kernel_rfl
theorem at_r1058 : (callD (sx Tryz.prog (at_N 6 1 413 417) (at_H 58) [] [] [] at_Z (prC [5])) at_cs at_Gn 5 [] 3 (at_A (-58)) [] 0).map (·.1)=some (kB true) := by kernel_rfl
theorem at_r1032 : (callD (sx Tryz.prog (at_N 6 1 231 235) (at_H 32) [] [] [] at_Z (prC [5])) at_cs at_Gn 5 [] 3 (at_A (-32)) [] 0).map (·.1)=some (kB true) := by kernel_rfl
theorem at_r1010 : (callD (sx Tryz.prog (at_N 6 1 77 81) (at_H 10) [] [] [] at_Z (prC [5])) at_cs at_Gn 5 [] 3 (at_A (-10)) [] 0).map (·.1)=some (kB true) := by kernel_rfl
theorem at_r51 : (callD (sx Tryz.prog (at_N 1 6 364 368) (at_H 51) [] [] [] at_Z (prC [5])) at_cs at_Gp 5 [] 3 (at_A (51)) [] 0).map (·.1)=some (kB true) := by kernel_rfl
theorem at_r25 : (callD (sx Tryz.prog (at_N 1 6 182 186) (at_H 25) [] [] [] at_Z (prC [5])) at_cs at_Gp 5 [] 3 (at_A (25)) [] 0).map (·.1)=some (kB true) := by kernel_rfl
theorem at_r1056 : (callD (sx Tryz.prog (at_N 6 1 399 403) (at_H 56) [] [] [] at_Z (prC [5])) at_cs at_Gn 5 [] 3 (at_A (-56)) [] 0).map (·.1)=some (kB true) := by kernel_rfl
theorem at_r1031 : (callD (sx Tryz.prog (at_N 6 1 224 228) (at_H 31) [] [] [] at_Z (prC [5])) at_cs at_Gn 5 [] 3 (at_A (-31)) [] 0).map (·.1)=some (kB true) := by kernel_rfl
theorem at_r1009 : (callD (sx Tryz.prog (at_N 6 1 70 74) (at_H 9) [] [] [] at_Z (prC [5])) at_cs at_Gn 5 [] 3 (at_A (-9)) [] 0).map (·.1)=some (kB true) := by kernel_rfl
theorem at_r50 : (callD (sx Tryz.prog (at_N 1 6 357 361) (at_H 50) [] [] [] at_Z (prC [5])) at_cs at_Gp 5 [] 3 (at_A (50)) [] 0).map (·.1)=some (kB true) := by kernel_rfl
theorem at_r24 : (callD (sx Tryz.prog (at_N 1 6 175 179) (at_H 24) [] [] [] at_Z (prC [5])) at_cs at_Gp 5 [] 3 (at_A (24)) [] 0).map (·.1)=some (kB true) := by kernel_rfl
end Go.Proofs.YtopihjpbjknceaaGreatDoor
