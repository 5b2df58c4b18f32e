/- Runs of the law, part 1. -/
import Derived.Test.YtjfodeihndjpjaaGreatDoorLMTRA
set_option maxHeartbeats 16000000
set_option maxRecDepth 100000
namespace Go.Proofs.YtjfodeihndjpjaaGreatDoor
open Go.RowKit Cx
theorem tR_r0 : (callD (sx Tryz.prog tR_N tR_H0 [(120,[.inr (3,28,0,0,0),.inr (3,38,0,0,0)]),(70,[])] tR_L tR_C tR_Z (prC [8])) tR_cs tR_G 7 [] 3 tR_A [] 0).map (·.1)=some (kB true) := by kernel_rfl
theorem tR_r3 : (callD (sx Tryz.prog tR_N tR_H3 [(120,[.inr (3,28,0,0,0),.inr (3,38,0,0,0)]),(70,[])] tR_L tR_C tR_Z (prC [8])) tR_cs tR_G 7 [] 3 tR_A [] 0).map (·.1)=some (kB true) := by kernel_rfl
theorem tR_r6 : (callD (sx Tryz.prog tR_N tR_H6 [(120,[.inr (3,28,0,0,0),.inr (3,38,0,0,0)]),(70,[])] tR_L tR_C tR_Z (prC [8])) tR_cs tR_G 7 [] 3 tR_A [] 0).map (·.1)=some (kB true) := by kernel_rfl
theorem tR_r9 : (callD (sx Tryz.prog tR_N tR_H9 [(120,[.inr (3,28,0,0,0),.inr (3,38,0,0,0)]),(70,[])] tR_L tR_C tR_Z (prC [8])) tR_cs tR_G 7 [] 3 tR_A [] 0).map (·.1)=some (kB true) := by kernel_rfl
theorem tR_r12 : (callD (sx Tryz.prog tR_N tR_H12 [(120,[.inr (3,28,0,0,0),.inr (3,38,0,0,0)]),(70,[])] tR_L tR_C tR_Z (prC [8])) tR_cs tR_G 7 [] 3 tR_A [] 0).map (·.1)=some (kB true) := by kernel_rfl
theorem tR_r15 : (callD (sx Tryz.prog tR_N tR_H15 [(120,[.inr (3,28,0,0,0),.inr (3,38,0,0,0)]),(70,[])] tR_L tR_C tR_Z (prC [8])) tR_cs tR_G 7 [] 3 tR_A [] 0).map (·.1)=some (kB true) := by kernel_rfl
theorem tR_r18 : (callD (sx Tryz.prog tR_N tR_H18 [(120,[.inr (3,28,0,0,0),.inr (3,38,0,0,0)]),(70,[])] tR_L tR_C tR_Z (prC [8])) tR_cs tR_G 7 [] 3 tR_A [] 0).map (·.1)=some (kB true) := by kernel_rfl
theorem tR_r21 : (callD (sx Tryz.prog tR_N tR_H21 [(120,[.inr (3,28,0,0,0),.inr (3,38,0,0,0)]),(70,[])] tR_L tR_C tR_Z (prC [8])) tR_cs tR_G 7 [] 3 tR_A [] 0).map (·.1)=some (kB true) := by kernel_rfl
theorem tR_r24 : (callD (sx Tryz.prog tR_N tR_H24 [(120,[.inr (3,28,0,0,0),.inr (3,38,0,0,0)]),(70,[])] tR_L tR_C tR_Z (prC [8])) tR_cs tR_G 7 [] 3 tR_A [] 0).map (·.1)=some (kB true) := by kernel_rfl
theorem tR_r27 : (callD (sx Tryz.prog tR_N tR_H27 [(120,[.inr (3,28,0,0,0),.inr (3,38,0,0,0)]),(70,[])] tR_L tR_C tR_Z (prC [8])) tR_cs tR_G 7 [] 3 tR_A [] 0).map (·.1)=some (kB true) := by kernel_rfl
theorem tR_r30 : (callD (sx Tryz.prog tR_N tR_H30 [(120,[.inr (3,28,0,0,0),.inr (3,38,0,0,0)]),(70,[])] tR_L tR_C tR_Z (prC [8])) tR_cs tR_G 7 [] 3 tR_A [] 0).map (·.1)=some (kB true) := by kernel_rfl
theorem tR_r33 : (callD (sx Tryz.prog tR_N tR_H33 [(120,[.inr (3,28,0,0,0),.inr (3,38,0,0,0)]),(70,[])] tR_L tR_C tR_Z (prC [8])) tR_cs tR_G 7 [] 3 tR_A [] 0).map (·.1)=some (kB true) := by kernel_rfl
theorem tR_r36 : (callD (sx Tryz.prog tR_N tR_H36 [] tR_L tR_C tR_Z (prC [8])) tR_cs tR_G 5 [] 3 tR_A [] 0).map (·.1)=some (kB true) := by kernel_rfl
end Go.Proofs.YtjfodeihndjpjaaGreatDoor
