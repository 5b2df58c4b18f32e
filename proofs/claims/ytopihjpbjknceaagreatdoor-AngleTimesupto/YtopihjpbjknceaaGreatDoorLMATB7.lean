/- Runs of the law, part 7. -/
import Derived.Test.YtopihjpbjknceaaGreatDoorLMATA
set_option maxHeartbeats 16000000
set_option maxRecDepth 100000
namespace Go.Proofs.YtopihjpbjknceaaGreatDoor
open Go.RowKit Cx
theorem at_r46 : (callD (sx Tryz.prog (at_N 1 6 329 333) (at_H 46) [] [] [] at_Z (prC [5])) at_cs at_Gp 5 [] 3 (at_A (46)) [] 0).map (·.1)=some (kB true) := by kernel_rfl
theorem at_r20 : (callD (sx Tryz.prog (at_N 1 6 147 151) (at_H 20) [] [] [] at_Z (prC [5])) at_cs at_Gp 5 [] 3 (at_A (20)) [] 0).map (·.1)=some (kB true) := by kernel_rfl
theorem at_r1053 : (callD (sx Tryz.prog (at_N 6 1 378 382) (at_H 53) [] [] [] at_Z (prC [5])) at_cs at_Gn 5 [] 3 (at_A (-53)) [] 0).map (·.1)=some (kB true) := by kernel_rfl
theorem at_r36 : (callD (sx Tryz.prog (at_N 1 6 259 263) (at_H 36) [] [] [] at_Z (prC [5])) at_cs at_Gp 5 [] 3 (at_A (36)) [] 0).map (·.1)=some (kB true) := by kernel_rfl
theorem at_r10 : (callD (sx Tryz.prog (at_N 1 6 77 81) (at_H 10) [] [] [] at_Z (prC [5])) at_cs at_Gp 5 [] 3 (at_A (10)) [] 0).map (·.1)=some (kB true) := by kernel_rfl
theorem at_r1040 : (callD (sx Tryz.prog (at_N 6 1 287 291) (at_H 40) [] [] [] at_Z (prC [5])) at_cs at_Gn 5 [] 3 (at_A (-40)) [] 0).map (·.1)=some (kB true) := by kernel_rfl
theorem at_r22 : (callD (sx Tryz.prog (at_N 1 6 161 165) (at_H 22) [] [] [] at_Z (prC [5])) at_cs at_Gp 5 [] 3 (at_A (22)) [] 0).map (·.1)=some (kB true) := by kernel_rfl
theorem at_r1051 : (callD (sx Tryz.prog (at_N 6 1 364 368) (at_H 51) [] [] [] at_Z (prC [5])) at_cs at_Gn 5 [] 3 (at_A (-51)) [] 0).map (·.1)=some (kB true) := by kernel_rfl
theorem at_r35 : (callD (sx Tryz.prog (at_N 1 6 252 256) (at_H 35) [] [] [] at_Z (prC [5])) at_cs at_Gp 5 [] 3 (at_A (35)) [] 0).map (·.1)=some (kB true) := by kernel_rfl
theorem at_r1007 : (callD (sx Tryz.prog (at_N 6 1 56 60) (at_H 7) [] [] [] at_Z (prC [5])) at_cs at_Gn 5 [] 3 (at_A (-7)) [] 0).map (·.1)=some (kB true) := by kernel_rfl
theorem at_r47 : (callD (sx Tryz.prog (at_N 1 6 336 340) (at_H 47) [] [] [] at_Z (prC [5])) at_cs at_Gp 5 [] 3 (at_A (47)) [] 0).map (·.1)=some (kB true) := by kernel_rfl
theorem at_r21 : (callD (sx Tryz.prog (at_N 1 6 154 158) (at_H 21) [] [] [] at_Z (prC [5])) at_cs at_Gp 5 [] 3 (at_A (21)) [] 0).map (·.1)=some (kB true) := by kernel_rfl
theorem at_r60 : (callD (sx Tryz.prog (at_N 1 6 427 431) (at_H 60) [] [] [] at_Z (prC [5])) at_cs at_Gp 5 [] 3 (at_A (60)) [] 0).map (·.1)=some (kB true) := by kernel_rfl
theorem at_r1028 : (callD (sx Tryz.prog (at_N 6 1 203 207) (at_H 28) [] [] [] at_Z (prC [5])) at_cs at_Gn 5 [] 3 (at_A (-28)) [] 0).map (·.1)=some (kB true) := by kernel_rfl
theorem at_r1006 : (callD (sx Tryz.prog (at_N 6 1 49 53) (at_H 6) [] [] [] at_Z (prC [5])) at_cs at_Gn 5 [] 3 (at_A (-6)) [] 0).map (·.1)=some (kB true) := by kernel_rfl
end Go.Proofs.YtopihjpbjknceaaGreatDoor
