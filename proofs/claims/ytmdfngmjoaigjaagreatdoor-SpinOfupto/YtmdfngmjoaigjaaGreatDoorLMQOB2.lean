/- Runs of the law, part 2. -/
import Derived.Test.YtmdfngmjoaigjaaGreatDoorLMQOA
set_option maxHeartbeats 16000000
set_option maxRecDepth 100000
namespace Go.Proofs.YtmdfngmjoaigjaaGreatDoor
open Go.RowKit Cx
theorem qO_r2 : (Zp (sx Tryz.prog qO_N qO_H2 [(97,[.inr (3,16,0,0,0),.inr (3,15,0,0,0)]),(105,[.inr (3,129,0,0,0),.inr (3,153,0,0,0),.inr (3,154,0,0,0)])] Ya Yg Yb (prC [11])) JE qO_G 7 [] 4 IL [] 0).map (·.1)=some (kB true) := by kernel_rfl
theorem qO_r6 : (Zp (sx Tryz.prog qO_N qO_H6 [] Ya Yg Yb (prC [11])) JE qO_G 5 [] 4 IL [] 0).map (·.1)=some (kB true) := by kernel_rfl
theorem qO_r10 : (Zp (sx Tryz.prog qO_N qO_H10 [] Ya Yg Yb (prC [11])) JE qO_G 5 [] 4 IL [] 0).map (·.1)=some (kB true) := by kernel_rfl
theorem qO_r14 : (Zp (sx Tryz.prog qO_N qO_H14 [] Ya Yg Yb (prC [11])) JE qO_G 5 [] 4 IL [] 0).map (·.1)=some (kB true) := by kernel_rfl
theorem qO_r18 : (Zp (sx Tryz.prog qO_N qO_H18 [] Ya Yg Yb (prC [11])) JE qO_G 5 [] 4 IL [] 0).map (·.1)=some (kB true) := by kernel_rfl
theorem qO_r3 : (Zp (sx Tryz.prog qO_N qO_H3 [(97,[.inr (3,16,0,0,0),.inr (3,15,0,0,0)]),(105,[.inr (3,105,0,0,0),.inr (3,129,0,0,0),.inr (3,130,0,0,0)])] Ya Yg Yb (prC [11])) JE qO_G 7 [] 4 IL [] 0).map (·.1)=some (kB true) := by kernel_rfl
theorem qO_r7 : (Zp (sx Tryz.prog qO_N qO_H7 [] Ya Yg Yb (prC [11])) JE qO_G 5 [] 4 IL [] 0).map (·.1)=some (kB true) := by kernel_rfl
theorem qO_r11 : (Zp (sx Tryz.prog qO_N qO_H11 [] Ya Yg Yb (prC [11])) JE qO_G 5 [] 4 IL [] 0).map (·.1)=some (kB true) := by kernel_rfl
theorem qO_r15 : (Zp (sx Tryz.prog qO_N qO_H15 [] Ya Yg Yb (prC [11])) JE qO_G 5 [] 4 IL [] 0).map (·.1)=some (kB true) := by kernel_rfl
theorem qO_r19 : (Zp (sx Tryz.prog qO_N qO_H19 [] Ya Yg Yb (prC [11])) JE qO_G 5 [] 4 IL [] 0).map (·.1)=some (kB true) := by kernel_rfl
end Go.Proofs.YtmdfngmjoaigjaaGreatDoor
