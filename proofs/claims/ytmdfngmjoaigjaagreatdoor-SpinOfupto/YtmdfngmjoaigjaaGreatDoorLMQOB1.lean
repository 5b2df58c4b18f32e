/- Runs of the law, part 1. -/
import Derived.Test.YtmdfngmjoaigjaaGreatDoorLMQOA
set_option maxHeartbeats 16000000
set_option maxRecDepth 100000
namespace Go.Proofs.YtmdfngmjoaigjaaGreatDoor
open Go.RowKit Cx
theorem qO_r0 : (Zp (sx Tryz.prog qO_N qO_H0 [(97,[.inr (3,16,0,0,0),.inr (3,15,0,0,0)]),(105,[.inr (3,186,0,0,0),.inr (3,210,0,0,0),.inr (3,211,0,0,0)])] Ya Yg Yb (prC [11])) JE qO_G 7 [] 4 IL [] 0).map (·.1)=some (kB true) := by kernel_rfl
theorem qO_r4 : (Zp (sx Tryz.prog qO_N qO_H4 [] Ya Yg Yb (prC [11])) JE qO_G 5 [] 4 IL [] 0).map (·.1)=some (kB true) := by kernel_rfl
theorem qO_r8 : (Zp (sx Tryz.prog qO_N qO_H8 [] Ya Yg Yb (prC [11])) JE qO_G 5 [] 4 IL [] 0).map (·.1)=some (kB true) := by kernel_rfl
theorem qO_r12 : (Zp (sx Tryz.prog qO_N qO_H12 [] Ya Yg Yb (prC [11])) JE qO_G 5 [] 4 IL [] 0).map (·.1)=some (kB true) := by kernel_rfl
theorem qO_r16 : (Zp (sx Tryz.prog qO_N qO_H16 [] Ya Yg Yb (prC [11])) JE qO_G 5 [] 4 IL [] 0).map (·.1)=some (kB true) := by kernel_rfl
theorem qO_r1 : (Zp (sx Tryz.prog qO_N qO_H1 [(97,[.inr (3,16,0,0,0),.inr (3,15,0,0,0)]),(105,[.inr (3,153,0,0,0),.inr (3,177,0,0,0),.inr (3,178,0,0,0)])] Ya Yg Yb (prC [11])) JE qO_G 7 [] 4 IL [] 0).map (·.1)=some (kB true) := by kernel_rfl
theorem qO_r5 : (Zp (sx Tryz.prog qO_N qO_H5 [] Ya Yg Yb (prC [11])) JE qO_G 5 [] 4 IL [] 0).map (·.1)=some (kB true) := by kernel_rfl
theorem qO_r9 : (Zp (sx Tryz.prog qO_N qO_H9 [] Ya Yg Yb (prC [11])) JE qO_G 5 [] 4 IL [] 0).map (·.1)=some (kB true) := by kernel_rfl
theorem qO_r13 : (Zp (sx Tryz.prog qO_N qO_H13 [] Ya Yg Yb (prC [11])) JE qO_G 5 [] 4 IL [] 0).map (·.1)=some (kB true) := by kernel_rfl
theorem qO_r17 : (Zp (sx Tryz.prog qO_N qO_H17 [] Ya Yg Yb (prC [11])) JE qO_G 5 [] 4 IL [] 0).map (·.1)=some (kB true) := by kernel_rfl
end Go.Proofs.YtmdfngmjoaigjaaGreatDoor
