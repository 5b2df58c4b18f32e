/- Part 13 of the walks and of the mathematics under them: MLM. -/
import Derived.Test.YtldhbbignahgeaaGreatDoorA12
set_option maxHeartbeats 16000000
set_option maxRecDepth 100000
/- MLM -/
namespace Go.Proofs.YtldhbbignahgeaaGreatDoor
open Go.RowKit Cx
def lineMeet_N : List Nd := [(1, [0]), (1, [1]), (1, [2]), (1, [3]), (1, [4]), (1, [5]), (4, [0, 4]), (4, [1, 3]), (3, [6, 7]), (4, [3, 2]), (4, [4, 2]), (4, [0, 5]), (4, [1, 5]), (3, [9, 11]), (3, [10, 12]), (4, [2, 3]), (4, [2, 4]), (5, [14]), (6, [17, 8]), (6, [13, 8]), (4, [0, 18]), (4, [1, 19]), (2, [20, 21]), (2, [22, 2]), (4, [3, 18]), (4, [4, 19]), (2, [24, 25]), (2, [26, 5])]
def lineMeet_L : List (List Nat × Nat) := []
def lineMeet_C : List (List Nat × Nat) := []
def lineMeet_Z : List Nat := [4194309, 4194309, 4194309, 4194309, 4194309, 4194309, 8388618, 8388618, 16777237, 8388618, 8388618, 8388618, 8388618, 16777237, 16777237, 8388618, 8388618, 16777237, 33554474, 33554474, 37748783, 37748783, 75497567, 79691877, 37748783, 37748783, 75497567, 79691877]
theorem lineMeet_wf : wfB 0 lineMeet_N = true := by kernel_rfl
theorem lineMeet_sz : szB lineMeet_Z lineMeet_N lineMeet_Z = true := by kernel_rfl
theorem lineMeet_lt : litB lineMeet_N lineMeet_L = true := by kernel_rfl
theorem lineMeet_cn : canB lineMeet_N lineMeet_C = true := by kernel_rfl
theorem lineMeet_f0 (z0 z1 z3 z4 z6 z7 z8 : Rat) : z6 = z0 * z4 → z7 = z1 * z3 → z8 = z6 - z7 → (z0 = 0) → (¬ (z1 = 0)) → (z3 = 0) → (¬ (z4 = 0)) → z8 = 0 := by
  intro e6 e7 e8 u0 u1 u2 u3
  subst_vars; grind
theorem lineMeet_f1 (z0 z1 z2 z3 z4 z5 z9 z11 z13 : Rat) : z9 = z3 * z2 → z11 = z0 * z5 → z13 = z9 - z11 → (z0 = 0) → (¬ (z1 = 0)) → (z3 = 0) → (¬ (z4 = 0)) → z13 = 0 := by
  intro e9 e11 e13 u0 u1 u2 u3
  subst_vars; grind
theorem lineMeet_f2 (z0 z1 z2 z3 z4 z5 z6 z7 z10 z12 z14 : Rat) : z6 = z0 * z4 → z7 = z1 * z3 → z10 = z4 * z2 → z12 = z1 * z5 → z14 = z10 - z12 → (z0 = 0) → (¬ (z1 = 0)) → (z3 = 0) → (¬ (z4 = 0)) → (z14 = 0) → z7 = z6 := by
  intro e6 e7 e10 e12 e14 u0 u1 u2 u3 u4
  rw [u4] at e14
  subst_vars; grind
theorem lineMeet_f3 (z0 z1 z2 z3 z4 z5 z10 z11 z12 z14 z15 : Rat) : z10 = z4 * z2 → z11 = z0 * z5 → z12 = z1 * z5 → z14 = z10 - z12 → z15 = z2 * z3 → (z0 = 0) → (¬ (z1 = 0)) → (z3 = 0) → (¬ (z4 = 0)) → (z14 = 0) → z15 = z11 := by
  intro e10 e11 e12 e14 e15 u0 u1 u2 u3 u4
  rw [u4] at e14
  subst_vars; grind
theorem lineMeet_f4 (z0 z1 z2 z3 z4 z5 z10 z12 z14 z16 : Rat) : z10 = z4 * z2 → z12 = z1 * z5 → z14 = z10 - z12 → z16 = z2 * z4 → (z0 = 0) → (¬ (z1 = 0)) → (z3 = 0) → (¬ (z4 = 0)) → (z14 = 0) → z16 = z12 := by
  intro e10 e12 e14 e16 u0 u1 u2 u3 u4
  rw [u4] at e14
  subst_vars; grind
theorem lineMeet_f5 (z0 z1 z2 z3 z4 z5 z6 z7 z10 z12 z14 : Rat) : z6 = z0 * z4 → z7 = z1 * z3 → z10 = z4 * z2 → z12 = z1 * z5 → z14 = z10 - z12 → (z0 = 0) → (¬ (z1 = 0)) → (z3 = 0) → (¬ (z4 = 0)) → (¬ (z14 = 0)) → z7 = z6 := by
  intro e6 e7 e10 e12 e14 u0 u1 u2 u3 u4
  subst_vars; grind
theorem lineMeet_f6 (z0 z1 z2 z3 z4 z5 z10 z11 z12 z14 z15 : Rat) : z10 = z4 * z2 → z11 = z0 * z5 → z12 = z1 * z5 → z14 = z10 - z12 → z15 = z2 * z3 → (z0 = 0) → (¬ (z1 = 0)) → (z3 = 0) → (¬ (z4 = 0)) → (¬ (z14 = 0)) → z15 = z11 := by
  intro e10 e11 e12 e14 e15 u0 u1 u2 u3 u4
  subst_vars; grind
theorem lineMeet_f7 (z0 z1 z2 z3 z4 z5 z10 z12 z14 z16 : Rat) : z10 = z4 * z2 → z12 = z1 * z5 → z14 = z10 - z12 → z16 = z2 * z4 → (z0 = 0) → (¬ (z1 = 0)) → (z3 = 0) → (¬ (z4 = 0)) → (¬ (z14 = 0)) → ¬ (z16 = z12) := by
  intro e10 e12 e14 e16 u0 u1 u2 u3 u4
  subst_vars; grind
theorem lineMeet_f8 (z0 z1 z3 z4 z6 z7 z8 : Rat) : z6 = z0 * z4 → z7 = z1 * z3 → z8 = z6 - z7 → (z0 = 0) → (¬ (z1 = 0)) → (¬ (z3 = 0)) → ¬ (z8 = 0) := by
  intro e6 e7 e8 u0 u1 u2
  subst_vars; grind
theorem lineMeet_f9 (z0 z1 z3 z4 z6 z7 : Rat) : z6 = z0 * z4 → z7 = z1 * z3 → (z0 = 0) → (¬ (z1 = 0)) → (¬ (z3 = 0)) → ¬ (z7 = z6) := by
  intro e6 e7 u0 u1 u2
  subst_vars; grind
theorem lineMeet_f10 (z0 z1 z2 z3 z4 z5 z6 z7 z8 z9 z10 z11 z12 z13 z14 z17 z18 z19 z20 z21 z22 z23 : Rat) : z6 = z0 * z4 → z7 = z1 * z3 → z8 = z6 - z7 → z9 = z3 * z2 → z10 = z4 * z2 → z11 = z0 * z5 → z12 = z1 * z5 → z13 = z9 - z11 → z14 = z10 - z12 → z17 = -z14 → z18 = z17 / z8 → z19 = z13 / z8 → z20 = z0 * z18 → z21 = z1 * z19 → z22 = z20 + z21 → z23 = z22 + z2 → (z0 = 0) → (¬ (z1 = 0)) → (¬ (z3 = 0)) → z23 = 0 := by
  intro e6 e7 e8 e9 e10 e11 e12 e13 e14 e17 e18 e19 e20 e21 e22 e23 u0 u1 u2
  have n8 : z8 ≠ 0 := by grind
  subst_vars; grind
theorem lineMeet_f11 (z0 z1 z2 z3 z4 z5 z6 z7 z8 z9 z10 z11 z12 z13 z14 z17 z18 z19 z24 z25 z26 z27 : Rat) : z6 = z0 * z4 → z7 = z1 * z3 → z8 = z6 - z7 → z9 = z3 * z2 → z10 = z4 * z2 → z11 = z0 * z5 → z12 = z1 * z5 → z13 = z9 - z11 → z14 = z10 - z12 → z17 = -z14 → z18 = z17 / z8 → z19 = z13 / z8 → z24 = z3 * z18 → z25 = z4 * z19 → z26 = z24 + z25 → z27 = z26 + z5 → (z0 = 0) → (¬ (z1 = 0)) → (¬ (z3 = 0)) → z27 = 0 := by
  intro e6 e7 e8 e9 e10 e11 e12 e13 e14 e17 e18 e19 e24 e25 e26 e27 u0 u1 u2
  have n8 : z8 ≠ 0 := by grind
  subst_vars; grind
theorem lineMeet_f12 (z0 z1 z3 z4 z6 z7 z8 : Rat) : z6 = z0 * z4 → z7 = z1 * z3 → z8 = z6 - z7 → (¬ (z0 = 0)) → (z3 = 0) → (¬ (z4 = 0)) → ¬ (z8 = 0) := by
  intro e6 e7 e8 u0 u1 u2
  subst_vars; grind
theorem lineMeet_f13 (z0 z1 z3 z4 z6 z7 : Rat) : z6 = z0 * z4 → z7 = z1 * z3 → (¬ (z0 = 0)) → (z3 = 0) → (¬ (z4 = 0)) → ¬ (z7 = z6) := by
  intro e6 e7 u0 u1 u2
  subst_vars; grind
theorem lineMeet_f14 (z0 z1 z2 z3 z4 z5 z6 z7 z8 z9 z10 z11 z12 z13 z14 z17 z18 z19 z20 z21 z22 z23 : Rat) : z6 = z0 * z4 → z7 = z1 * z3 → z8 = z6 - z7 → z9 = z3 * z2 → z10 = z4 * z2 → z11 = z0 * z5 → z12 = z1 * z5 → z13 = z9 - z11 → z14 = z10 - z12 → z17 = -z14 → z18 = z17 / z8 → z19 = z13 / z8 → z20 = z0 * z18 → z21 = z1 * z19 → z22 = z20 + z21 → z23 = z22 + z2 → (¬ (z0 = 0)) → (z3 = 0) → (¬ (z4 = 0)) → z23 = 0 := by
  intro e6 e7 e8 e9 e10 e11 e12 e13 e14 e17 e18 e19 e20 e21 e22 e23 u0 u1 u2
  have n8 : z8 ≠ 0 := by grind
  subst_vars; grind
theorem lineMeet_f15 (z0 z1 z2 z3 z4 z5 z6 z7 z8 z9 z10 z11 z12 z13 z14 z17 z18 z19 z24 z25 z26 z27 : Rat) : z6 = z0 * z4 → z7 = z1 * z3 → z8 = z6 - z7 → z9 = z3 * z2 → z10 = z4 * z2 → z11 = z0 * z5 → z12 = z1 * z5 → z13 = z9 - z11 → z14 = z10 - z12 → z17 = -z14 → z18 = z17 / z8 → z19 = z13 / z8 → z24 = z3 * z18 → z25 = z4 * z19 → z26 = z24 + z25 → z27 = z26 + z5 → (¬ (z0 = 0)) → (z3 = 0) → (¬ (z4 = 0)) → z27 = 0 := by
  intro e6 e7 e8 e9 e10 e11 e12 e13 e14 e17 e18 e19 e24 e25 e26 e27 u0 u1 u2
  have n8 : z8 ≠ 0 := by grind
  subst_vars; grind
theorem lineMeet_f16 (z0 z1 z2 z3 z4 z5 z6 z7 z8 z9 z10 z11 z12 z13 z14 : Rat) : z6 = z0 * z4 → z7 = z1 * z3 → z8 = z6 - z7 → z9 = z3 * z2 → z10 = z4 * z2 → z11 = z0 * z5 → z12 = z1 * z5 → z13 = z9 - z11 → z14 = z10 - z12 → (¬ (z0 = 0)) → (¬ (z3 = 0)) → (z8 = 0) → (z13 = 0) → z14 = 0 := by
  intro e6 e7 e8 e9 e10 e11 e12 e13 e14 u0 u1 u2 u3
  rw [u2] at e8
  rw [u3] at e13
  subst_vars; grind
theorem lineMeet_f17 (z0 z1 z2 z3 z4 z5 z6 z7 z8 z9 z11 z13 : Rat) : z6 = z0 * z4 → z7 = z1 * z3 → z8 = z6 - z7 → z9 = z3 * z2 → z11 = z0 * z5 → z13 = z9 - z11 → (¬ (z0 = 0)) → (¬ (z3 = 0)) → (z8 = 0) → (z13 = 0) → z7 = z6 := by
  intro e6 e7 e8 e9 e11 e13 u0 u1 u2 u3
  rw [u2] at e8
  rw [u3] at e13
  subst_vars; grind
theorem lineMeet_f18 (z0 z1 z2 z3 z4 z5 z6 z7 z8 z9 z11 z13 z15 : Rat) : z6 = z0 * z4 → z7 = z1 * z3 → z8 = z6 - z7 → z9 = z3 * z2 → z11 = z0 * z5 → z13 = z9 - z11 → z15 = z2 * z3 → (¬ (z0 = 0)) → (¬ (z3 = 0)) → (z8 = 0) → (z13 = 0) → z15 = z11 := by
  intro e6 e7 e8 e9 e11 e13 e15 u0 u1 u2 u3
  rw [u2] at e8
  rw [u3] at e13
  subst_vars; grind
theorem lineMeet_f19 (z0 z1 z2 z3 z4 z5 z6 z7 z8 z9 z11 z12 z13 z16 : Rat) : z6 = z0 * z4 → z7 = z1 * z3 → z8 = z6 - z7 → z9 = z3 * z2 → z11 = z0 * z5 → z12 = z1 * z5 → z13 = z9 - z11 → z16 = z2 * z4 → (¬ (z0 = 0)) → (¬ (z3 = 0)) → (z8 = 0) → (z13 = 0) → z16 = z12 := by
  intro e6 e7 e8 e9 e11 e12 e13 e16 u0 u1 u2 u3
  rw [u2] at e8
  rw [u3] at e13
  subst_vars; grind
theorem lineMeet_f20 (z0 z1 z2 z3 z4 z5 z6 z7 z8 z9 z11 z13 : Rat) : z6 = z0 * z4 → z7 = z1 * z3 → z8 = z6 - z7 → z9 = z3 * z2 → z11 = z0 * z5 → z13 = z9 - z11 → (¬ (z0 = 0)) → (¬ (z3 = 0)) → (z8 = 0) → (¬ (z13 = 0)) → z7 = z6 := by
  intro e6 e7 e8 e9 e11 e13 u0 u1 u2 u3
  rw [u2] at e8
  subst_vars; grind
theorem lineMeet_f21 (z0 z1 z2 z3 z4 z5 z6 z7 z8 z9 z11 z13 z15 : Rat) : z6 = z0 * z4 → z7 = z1 * z3 → z8 = z6 - z7 → z9 = z3 * z2 → z11 = z0 * z5 → z13 = z9 - z11 → z15 = z2 * z3 → (¬ (z0 = 0)) → (¬ (z3 = 0)) → (z8 = 0) → (¬ (z13 = 0)) → ¬ (z15 = z11) := by
  intro e6 e7 e8 e9 e11 e13 e15 u0 u1 u2 u3
  rw [u2] at e8
  subst_vars; grind
theorem lineMeet_f22 (z0 z1 z3 z4 z6 z7 z8 : Rat) : z6 = z0 * z4 → z7 = z1 * z3 → z8 = z6 - z7 → (¬ (z0 = 0)) → (¬ (z3 = 0)) → (¬ (z8 = 0)) → ¬ (z7 = z6) := by
  intro e6 e7 e8 u0 u1 u2
  subst_vars; grind
theorem lineMeet_f23 (z0 z1 z2 z3 z4 z5 z6 z7 z8 z9 z10 z11 z12 z13 z14 z17 z18 z19 z20 z21 z22 z23 : Rat) : z6 = z0 * z4 → z7 = z1 * z3 → z8 = z6 - z7 → z9 = z3 * z2 → z10 = z4 * z2 → z11 = z0 * z5 → z12 = z1 * z5 → z13 = z9 - z11 → z14 = z10 - z12 → z17 = -z14 → z18 = z17 / z8 → z19 = z13 / z8 → z20 = z0 * z18 → z21 = z1 * z19 → z22 = z20 + z21 → z23 = z22 + z2 → (¬ (z0 = 0)) → (¬ (z3 = 0)) → (¬ (z8 = 0)) → z23 = 0 := by
  intro e6 e7 e8 e9 e10 e11 e12 e13 e14 e17 e18 e19 e20 e21 e22 e23 u0 u1 u2
  have n8 : z8 ≠ 0 := by grind
  subst_vars; grind
theorem lineMeet_f24 (z0 z1 z2 z3 z4 z5 z6 z7 z8 z9 z10 z11 z12 z13 z14 z17 z18 z19 z24 z25 z26 z27 : Rat) : z6 = z0 * z4 → z7 = z1 * z3 → z8 = z6 - z7 → z9 = z3 * z2 → z10 = z4 * z2 → z11 = z0 * z5 → z12 = z1 * z5 → z13 = z9 - z11 → z14 = z10 - z12 → z17 = -z14 → z18 = z17 / z8 → z19 = z13 / z8 → z24 = z3 * z18 → z25 = z4 * z19 → z26 = z24 + z25 → z27 = z26 + z5 → (¬ (z0 = 0)) → (¬ (z3 = 0)) → (¬ (z8 = 0)) → z27 = 0 := by
  intro e6 e7 e8 e9 e10 e11 e12 e13 e14 e17 e18 e19 e24 e25 e26 e27 u0 u1 u2
  have n8 : z8 ≠ 0 := by grind
  subst_vars; grind
theorem lineMeet_r0 : (callB (sx Tryz.prog lineMeet_N [(0, 0, 0, 1), (0, 1, 0, 1)] [] lineMeet_L lineMeet_C lineMeet_Z (prC [92])) 5 22 [(false, [(true, [.inr (2, 0, 0, 0, 0), .inr (2, 1, 0, 0, 0), .inr (2, 2, 0, 0, 0)])]), (false, [(true, [.inr (2, 3, 0, 0, 0), .inr (2, 4, 0, 0, 0), .inr (2, 5, 0, 0, 0)])])] [] 0).map (·.1) = some (kB true) := by kernel_rfl
theorem lineMeet_r1 : (callB (sx Tryz.prog lineMeet_N [(0, 0, 0, 1), (0, 1, 0, 0), (0, 3, 0, 1), (0, 4, 0, 1)] [] lineMeet_L lineMeet_C lineMeet_Z (prC [92])) 5 22 [(false, [(true, [.inr (2, 0, 0, 0, 0), .inr (2, 1, 0, 0, 0), .inr (2, 2, 0, 0, 0)])]), (false, [(true, [.inr (2, 3, 0, 0, 0), .inr (2, 4, 0, 0, 0), .inr (2, 5, 0, 0, 0)])])] [] 0).map (·.1) = some (kB true) := by kernel_rfl
theorem lineMeet_r2 : (callB (sx Tryz.prog lineMeet_N [(0, 0, 0, 1), (0, 1, 0, 0), (0, 3, 0, 1), (0, 4, 0, 0), (0, 8, 0, 1), (0, 13, 0, 1), (0, 14, 0, 1), (3, 7, 6, 1), (3, 15, 11, 1), (3, 16, 12, 1)] [] lineMeet_L lineMeet_C lineMeet_Z (prC [92])) 5 22 [(false, [(true, [.inr (2, 0, 0, 0, 0), .inr (2, 1, 0, 0, 0), .inr (2, 2, 0, 0, 0)])]), (false, [(true, [.inr (2, 3, 0, 0, 0), .inr (2, 4, 0, 0, 0), .inr (2, 5, 0, 0, 0)])])] [] 0).map (·.1) = some (kB true) := by kernel_rfl
theorem lineMeet_r3 : (callB (sx Tryz.prog lineMeet_N [(0, 0, 0, 1), (0, 1, 0, 0), (0, 3, 0, 1), (0, 4, 0, 0), (0, 8, 0, 1), (0, 13, 0, 1), (0, 14, 0, 0), (3, 7, 6, 1), (3, 15, 11, 1), (3, 16, 12, 0)] [] lineMeet_L lineMeet_C lineMeet_Z (prC [92])) 5 22 [(false, [(true, [.inr (2, 0, 0, 0, 0), .inr (2, 1, 0, 0, 0), .inr (2, 2, 0, 0, 0)])]), (false, [(true, [.inr (2, 3, 0, 0, 0), .inr (2, 4, 0, 0, 0), .inr (2, 5, 0, 0, 0)])])] [] 0).map (·.1) = some (kB true) := by kernel_rfl
theorem lineMeet_r4 : (callB (sx Tryz.prog lineMeet_N [(0, 0, 0, 1), (0, 1, 0, 0), (0, 3, 0, 0), (0, 8, 0, 0), (3, 7, 6, 0), (0, 23, 0, 1), (0, 27, 0, 1)] [] lineMeet_L lineMeet_C lineMeet_Z (prC [92])) 5 22 [(false, [(true, [.inr (2, 0, 0, 0, 0), .inr (2, 1, 0, 0, 0), .inr (2, 2, 0, 0, 0)])]), (false, [(true, [.inr (2, 3, 0, 0, 0), .inr (2, 4, 0, 0, 0), .inr (2, 5, 0, 0, 0)])])] [] 0).map (·.1) = some (kB true) := by kernel_rfl
theorem lineMeet_r5 : (callB (sx Tryz.prog lineMeet_N [(0, 0, 0, 0), (0, 3, 0, 1), (0, 4, 0, 1)] [] lineMeet_L lineMeet_C lineMeet_Z (prC [92])) 5 22 [(false, [(true, [.inr (2, 0, 0, 0, 0), .inr (2, 1, 0, 0, 0), .inr (2, 2, 0, 0, 0)])]), (false, [(true, [.inr (2, 3, 0, 0, 0), .inr (2, 4, 0, 0, 0), .inr (2, 5, 0, 0, 0)])])] [] 0).map (·.1) = some (kB true) := by kernel_rfl
theorem lineMeet_r6 : (callB (sx Tryz.prog lineMeet_N [(0, 0, 0, 0), (0, 3, 0, 1), (0, 4, 0, 0), (0, 8, 0, 0), (3, 7, 6, 0), (0, 23, 0, 1), (0, 27, 0, 1)] [] lineMeet_L lineMeet_C lineMeet_Z (prC [92])) 5 22 [(false, [(true, [.inr (2, 0, 0, 0, 0), .inr (2, 1, 0, 0, 0), .inr (2, 2, 0, 0, 0)])]), (false, [(true, [.inr (2, 3, 0, 0, 0), .inr (2, 4, 0, 0, 0), .inr (2, 5, 0, 0, 0)])])] [] 0).map (·.1) = some (kB true) := by kernel_rfl
theorem lineMeet_r7 : (callB (sx Tryz.prog lineMeet_N [(0, 0, 0, 0), (0, 3, 0, 0), (0, 8, 0, 1), (0, 13, 0, 1), (0, 14, 0, 1), (3, 7, 6, 1), (3, 15, 11, 1), (3, 16, 12, 1)] [] lineMeet_L lineMeet_C lineMeet_Z (prC [92])) 5 22 [(false, [(true, [.inr (2, 0, 0, 0, 0), .inr (2, 1, 0, 0, 0), .inr (2, 2, 0, 0, 0)])]), (false, [(true, [.inr (2, 3, 0, 0, 0), .inr (2, 4, 0, 0, 0), .inr (2, 5, 0, 0, 0)])])] [] 0).map (·.1) = some (kB true) := by kernel_rfl
theorem lineMeet_r8 : (callB (sx Tryz.prog lineMeet_N [(0, 0, 0, 0), (0, 3, 0, 0), (0, 8, 0, 1), (0, 13, 0, 0), (3, 7, 6, 1), (3, 15, 11, 0)] [] lineMeet_L lineMeet_C lineMeet_Z (prC [92])) 5 22 [(false, [(true, [.inr (2, 0, 0, 0, 0), .inr (2, 1, 0, 0, 0), .inr (2, 2, 0, 0, 0)])]), (false, [(true, [.inr (2, 3, 0, 0, 0), .inr (2, 4, 0, 0, 0), .inr (2, 5, 0, 0, 0)])])] [] 0).map (·.1) = some (kB true) := by kernel_rfl
theorem lineMeet_r9 : (callB (sx Tryz.prog lineMeet_N [(0, 0, 0, 0), (0, 3, 0, 0), (0, 8, 0, 0), (3, 7, 6, 0), (0, 23, 0, 1), (0, 27, 0, 1)] [] lineMeet_L lineMeet_C lineMeet_Z (prC [92])) 5 22 [(false, [(true, [.inr (2, 0, 0, 0, 0), .inr (2, 1, 0, 0, 0), .inr (2, 2, 0, 0, 0)])]), (false, [(true, [.inr (2, 3, 0, 0, 0), .inr (2, 4, 0, 0, 0), .inr (2, 5, 0, 0, 0)])])] [] 0).map (·.1) = some (kB true) := by kernel_rfl
theorem lineMeet_walk {w : World} {la lb lc ka kb kc : ByteArray} (sla : la.size ≤ 1048576) (slb : lb.size ≤ 1048576) (slc : lc.size ≤ 1048576) (ska : ka.size ≤ 1048576) (skb : kb.size ≤ 1048576) (skc : kc.size ≤ 1048576) (tab : Tab w) (mx : MaxL w) :
    Calls Tryz.prog 22 #[.agg #[.string la, .string lb, .string lc], .agg #[.string ka, .string kb, .string kc]] w fun e w' => Below w.heap.size w w' ∧ e = .returned (.bool true) := by
  have hσ : ∀ j, (sgOf [la, lb, lc, ka, kb, kc] j).size ≤ 1048576 := sgOf_size (by simp [sla, slb, slc, ska, skb, skc])
  have hcl : ∀ f ∈ ([92] : List FuncId), Closed f := by simp [closed_lined]
  obtain ⟨q, hq, h0⟩ := nodes_exist (sgOf [la, lb, lc, ka, kb, kc]) lineMeet_N lineMeet_wf
  have hA : ∀ K, A2 (avOn (cOn (evS q (sgOf [la, lb, lc, ka, kb, kc])) K (fun _ => none) w)) [(false, [(true, [.inr (2, 0, 0, 0, 0), .inr (2, 1, 0, 0, 0), .inr (2, 2, 0, 0, 0)])]), (false, [(true, [.inr (2, 3, 0, 0, 0), .inr (2, 4, 0, 0, 0), .inr (2, 5, 0, 0, 0)])])] [.agg #[.string la, .string lb, .string lc], .agg #[.string ka, .string kb, .string kc]] := fun K => ⟨⟨⟨[.string la, .string lb, .string lc], rfl, rfl, rfl, rfl, trivial⟩, trivial⟩, ⟨⟨[.string ka, .string kb, .string kc], rfl, rfl, rfl, rfl, trivial⟩, trivial⟩, trivial⟩
  by_cases a_0_0_0 : q 0 = 0
  ·
    by_cases a_0_1_0 : q 1 = 0
    ·
      exact run_told' 5 (hy_of (H := [(0, 0, 0, 1), (0, 1, 0, 1)]) hσ lineMeet_wf lineMeet_sz lineMeet_lt lineMeet_cn hq h0 (And.intro (hT a_0_0_0) (And.intro (hT a_0_1_0) trivial))) hcl (by kernel_rfl) lineMeet_r0 ⟨tab, mx⟩ (hA _)
    ·
      by_cases a_0_3_0 : q 3 = 0
      ·
        by_cases a_0_4_0 : q 4 = 0
        ·
          exact run_told' 5 (hy_of (H := [(0, 0, 0, 1), (0, 1, 0, 0), (0, 3, 0, 1), (0, 4, 0, 1)]) hσ lineMeet_wf lineMeet_sz lineMeet_lt lineMeet_cn hq h0 (And.intro (hT a_0_0_0) (And.intro (hF a_0_1_0) (And.intro (hT a_0_3_0) (And.intro (hT a_0_4_0) trivial))))) hcl (by kernel_rfl) lineMeet_r1 ⟨tab, mx⟩ (hA _)
        ·
          have a_0_8_0 : q 8 = 0 := lineMeet_f0 (q 0) (q 1) (q 3) (q 4) (q 6) (q 7) (q 8) (hq 6 _ rfl) (hq 7 _ rfl) (hq 8 _ rfl) a_0_0_0 a_0_1_0 a_0_3_0 a_0_4_0
          have a_0_13_0 : q 13 = 0 := lineMeet_f1 (q 0) (q 1) (q 2) (q 3) (q 4) (q 5) (q 9) (q 11) (q 13) (hq 9 _ rfl) (hq 11 _ rfl) (hq 13 _ rfl) a_0_0_0 a_0_1_0 a_0_3_0 a_0_4_0
          by_cases a_0_14_0 : q 14 = 0
          ·
            have a_3_7_6 : q 7 = q 6 := lineMeet_f2 (q 0) (q 1) (q 2) (q 3) (q 4) (q 5) (q 6) (q 7) (q 10) (q 12) (q 14) (hq 6 _ rfl) (hq 7 _ rfl) (hq 10 _ rfl) (hq 12 _ rfl) (hq 14 _ rfl) a_0_0_0 a_0_1_0 a_0_3_0 a_0_4_0 a_0_14_0
            have a_3_15_11 : q 15 = q 11 := lineMeet_f3 (q 0) (q 1) (q 2) (q 3) (q 4) (q 5) (q 10) (q 11) (q 12) (q 14) (q 15) (hq 10 _ rfl) (hq 11 _ rfl) (hq 12 _ rfl) (hq 14 _ rfl) (hq 15 _ rfl) a_0_0_0 a_0_1_0 a_0_3_0 a_0_4_0 a_0_14_0
            have a_3_16_12 : q 16 = q 12 := lineMeet_f4 (q 0) (q 1) (q 2) (q 3) (q 4) (q 5) (q 10) (q 12) (q 14) (q 16) (hq 10 _ rfl) (hq 12 _ rfl) (hq 14 _ rfl) (hq 16 _ rfl) a_0_0_0 a_0_1_0 a_0_3_0 a_0_4_0 a_0_14_0
            exact run_told' 5 (hy_of (H := [(0, 0, 0, 1), (0, 1, 0, 0), (0, 3, 0, 1), (0, 4, 0, 0), (0, 8, 0, 1), (0, 13, 0, 1), (0, 14, 0, 1), (3, 7, 6, 1), (3, 15, 11, 1), (3, 16, 12, 1)]) hσ lineMeet_wf lineMeet_sz lineMeet_lt lineMeet_cn hq h0 (And.intro (hT a_0_0_0) (And.intro (hF a_0_1_0) (And.intro (hT a_0_3_0) (And.intro (hF a_0_4_0) (And.intro (hT a_0_8_0) (And.intro (hT a_0_13_0) (And.intro (hT a_0_14_0) (And.intro (hT a_3_7_6) (And.intro (hT a_3_15_11) (And.intro (hT a_3_16_12) trivial))))))))))) hcl (by kernel_rfl) lineMeet_r2 ⟨tab, mx⟩ (hA _)
          ·
            have a_3_7_6 : q 7 = q 6 := lineMeet_f5 (q 0) (q 1) (q 2) (q 3) (q 4) (q 5) (q 6) (q 7) (q 10) (q 12) (q 14) (hq 6 _ rfl) (hq 7 _ rfl) (hq 10 _ rfl) (hq 12 _ rfl) (hq 14 _ rfl) a_0_0_0 a_0_1_0 a_0_3_0 a_0_4_0 a_0_14_0
            have a_3_15_11 : q 15 = q 11 := lineMeet_f6 (q 0) (q 1) (q 2) (q 3) (q 4) (q 5) (q 10) (q 11) (q 12) (q 14) (q 15) (hq 10 _ rfl) (hq 11 _ rfl) (hq 12 _ rfl) (hq 14 _ rfl) (hq 15 _ rfl) a_0_0_0 a_0_1_0 a_0_3_0 a_0_4_0 a_0_14_0
            have a_3_16_12 : ¬ (q 16 = q 12) := lineMeet_f7 (q 0) (q 1) (q 2) (q 3) (q 4) (q 5) (q 10) (q 12) (q 14) (q 16) (hq 10 _ rfl) (hq 12 _ rfl) (hq 14 _ rfl) (hq 16 _ rfl) a_0_0_0 a_0_1_0 a_0_3_0 a_0_4_0 a_0_14_0
            exact run_told' 5 (hy_of (H := [(0, 0, 0, 1), (0, 1, 0, 0), (0, 3, 0, 1), (0, 4, 0, 0), (0, 8, 0, 1), (0, 13, 0, 1), (0, 14, 0, 0), (3, 7, 6, 1), (3, 15, 11, 1), (3, 16, 12, 0)]) hσ lineMeet_wf lineMeet_sz lineMeet_lt lineMeet_cn hq h0 (And.intro (hT a_0_0_0) (And.intro (hF a_0_1_0) (And.intro (hT a_0_3_0) (And.intro (hF a_0_4_0) (And.intro (hT a_0_8_0) (And.intro (hT a_0_13_0) (And.intro (hF a_0_14_0) (And.intro (hT a_3_7_6) (And.intro (hT a_3_15_11) (And.intro (hF a_3_16_12) trivial))))))))))) hcl (by kernel_rfl) lineMeet_r3 ⟨tab, mx⟩ (hA _)
      ·
        have a_0_8_0 : ¬ (q 8 = 0) := lineMeet_f8 (q 0) (q 1) (q 3) (q 4) (q 6) (q 7) (q 8) (hq 6 _ rfl) (hq 7 _ rfl) (hq 8 _ rfl) a_0_0_0 a_0_1_0 a_0_3_0
        have a_3_7_6 : ¬ (q 7 = q 6) := lineMeet_f9 (q 0) (q 1) (q 3) (q 4) (q 6) (q 7) (hq 6 _ rfl) (hq 7 _ rfl) a_0_0_0 a_0_1_0 a_0_3_0
        have a_0_23_0 : q 23 = 0 := lineMeet_f10 (q 0) (q 1) (q 2) (q 3) (q 4) (q 5) (q 6) (q 7) (q 8) (q 9) (q 10) (q 11) (q 12) (q 13) (q 14) (q 17) (q 18) (q 19) (q 20) (q 21) (q 22) (q 23) (hq 6 _ rfl) (hq 7 _ rfl) (hq 8 _ rfl) (hq 9 _ rfl) (hq 10 _ rfl) (hq 11 _ rfl) (hq 12 _ rfl) (hq 13 _ rfl) (hq 14 _ rfl) (hq 17 _ rfl) (hq 18 _ rfl) (hq 19 _ rfl) (hq 20 _ rfl) (hq 21 _ rfl) (hq 22 _ rfl) (hq 23 _ rfl) a_0_0_0 a_0_1_0 a_0_3_0
        have a_0_27_0 : q 27 = 0 := lineMeet_f11 (q 0) (q 1) (q 2) (q 3) (q 4) (q 5) (q 6) (q 7) (q 8) (q 9) (q 10) (q 11) (q 12) (q 13) (q 14) (q 17) (q 18) (q 19) (q 24) (q 25) (q 26) (q 27) (hq 6 _ rfl) (hq 7 _ rfl) (hq 8 _ rfl) (hq 9 _ rfl) (hq 10 _ rfl) (hq 11 _ rfl) (hq 12 _ rfl) (hq 13 _ rfl) (hq 14 _ rfl) (hq 17 _ rfl) (hq 18 _ rfl) (hq 19 _ rfl) (hq 24 _ rfl) (hq 25 _ rfl) (hq 26 _ rfl) (hq 27 _ rfl) a_0_0_0 a_0_1_0 a_0_3_0
        exact run_told' 5 (hy_of (H := [(0, 0, 0, 1), (0, 1, 0, 0), (0, 3, 0, 0), (0, 8, 0, 0), (3, 7, 6, 0), (0, 23, 0, 1), (0, 27, 0, 1)]) hσ lineMeet_wf lineMeet_sz lineMeet_lt lineMeet_cn hq h0 (And.intro (hT a_0_0_0) (And.intro (hF a_0_1_0) (And.intro (hF a_0_3_0) (And.intro (hF a_0_8_0) (And.intro (hF a_3_7_6) (And.intro (hT a_0_23_0) (And.intro (hT a_0_27_0) trivial)))))))) hcl (by kernel_rfl) lineMeet_r4 ⟨tab, mx⟩ (hA _)
  ·
    by_cases a_0_3_0 : q 3 = 0
    ·
      by_cases a_0_4_0 : q 4 = 0
      ·
        exact run_told' 5 (hy_of (H := [(0, 0, 0, 0), (0, 3, 0, 1), (0, 4, 0, 1)]) hσ lineMeet_wf lineMeet_sz lineMeet_lt lineMeet_cn hq h0 (And.intro (hF a_0_0_0) (And.intro (hT a_0_3_0) (And.intro (hT a_0_4_0) trivial)))) hcl (by kernel_rfl) lineMeet_r5 ⟨tab, mx⟩ (hA _)
      ·
        have a_0_8_0 : ¬ (q 8 = 0) := lineMeet_f12 (q 0) (q 1) (q 3) (q 4) (q 6) (q 7) (q 8) (hq 6 _ rfl) (hq 7 _ rfl) (hq 8 _ rfl) a_0_0_0 a_0_3_0 a_0_4_0
        have a_3_7_6 : ¬ (q 7 = q 6) := lineMeet_f13 (q 0) (q 1) (q 3) (q 4) (q 6) (q 7) (hq 6 _ rfl) (hq 7 _ rfl) a_0_0_0 a_0_3_0 a_0_4_0
        have a_0_23_0 : q 23 = 0 := lineMeet_f14 (q 0) (q 1) (q 2) (q 3) (q 4) (q 5) (q 6) (q 7) (q 8) (q 9) (q 10) (q 11) (q 12) (q 13) (q 14) (q 17) (q 18) (q 19) (q 20) (q 21) (q 22) (q 23) (hq 6 _ rfl) (hq 7 _ rfl) (hq 8 _ rfl) (hq 9 _ rfl) (hq 10 _ rfl) (hq 11 _ rfl) (hq 12 _ rfl) (hq 13 _ rfl) (hq 14 _ rfl) (hq 17 _ rfl) (hq 18 _ rfl) (hq 19 _ rfl) (hq 20 _ rfl) (hq 21 _ rfl) (hq 22 _ rfl) (hq 23 _ rfl) a_0_0_0 a_0_3_0 a_0_4_0
        have a_0_27_0 : q 27 = 0 := lineMeet_f15 (q 0) (q 1) (q 2) (q 3) (q 4) (q 5) (q 6) (q 7) (q 8) (q 9) (q 10) (q 11) (q 12) (q 13) (q 14) (q 17) (q 18) (q 19) (q 24) (q 25) (q 26) (q 27) (hq 6 _ rfl) (hq 7 _ rfl) (hq 8 _ rfl) (hq 9 _ rfl) (hq 10 _ rfl) (hq 11 _ rfl) (hq 12 _ rfl) (hq 13 _ rfl) (hq 14 _ rfl) (hq 17 _ rfl) (hq 18 _ rfl) (hq 19 _ rfl) (hq 24 _ rfl) (hq 25 _ rfl) (hq 26 _ rfl) (hq 27 _ rfl) a_0_0_0 a_0_3_0 a_0_4_0
        exact run_told' 5 (hy_of (H := [(0, 0, 0, 0), (0, 3, 0, 1), (0, 4, 0, 0), (0, 8, 0, 0), (3, 7, 6, 0), (0, 23, 0, 1), (0, 27, 0, 1)]) hσ lineMeet_wf lineMeet_sz lineMeet_lt lineMeet_cn hq h0 (And.intro (hF a_0_0_0) (And.intro (hT a_0_3_0) (And.intro (hF a_0_4_0) (And.intro (hF a_0_8_0) (And.intro (hF a_3_7_6) (And.intro (hT a_0_23_0) (And.intro (hT a_0_27_0) trivial)))))))) hcl (by kernel_rfl) lineMeet_r6 ⟨tab, mx⟩ (hA _)
    ·
      by_cases a_0_8_0 : q 8 = 0
      ·
        by_cases a_0_13_0 : q 13 = 0
        ·
          have a_0_14_0 : q 14 = 0 := lineMeet_f16 (q 0) (q 1) (q 2) (q 3) (q 4) (q 5) (q 6) (q 7) (q 8) (q 9) (q 10) (q 11) (q 12) (q 13) (q 14) (hq 6 _ rfl) (hq 7 _ rfl) (hq 8 _ rfl) (hq 9 _ rfl) (hq 10 _ rfl) (hq 11 _ rfl) (hq 12 _ rfl) (hq 13 _ rfl) (hq 14 _ rfl) a_0_0_0 a_0_3_0 a_0_8_0 a_0_13_0
          have a_3_7_6 : q 7 = q 6 := lineMeet_f17 (q 0) (q 1) (q 2) (q 3) (q 4) (q 5) (q 6) (q 7) (q 8) (q 9) (q 11) (q 13) (hq 6 _ rfl) (hq 7 _ rfl) (hq 8 _ rfl) (hq 9 _ rfl) (hq 11 _ rfl) (hq 13 _ rfl) a_0_0_0 a_0_3_0 a_0_8_0 a_0_13_0
          have a_3_15_11 : q 15 = q 11 := lineMeet_f18 (q 0) (q 1) (q 2) (q 3) (q 4) (q 5) (q 6) (q 7) (q 8) (q 9) (q 11) (q 13) (q 15) (hq 6 _ rfl) (hq 7 _ rfl) (hq 8 _ rfl) (hq 9 _ rfl) (hq 11 _ rfl) (hq 13 _ rfl) (hq 15 _ rfl) a_0_0_0 a_0_3_0 a_0_8_0 a_0_13_0
          have a_3_16_12 : q 16 = q 12 := lineMeet_f19 (q 0) (q 1) (q 2) (q 3) (q 4) (q 5) (q 6) (q 7) (q 8) (q 9) (q 11) (q 12) (q 13) (q 16) (hq 6 _ rfl) (hq 7 _ rfl) (hq 8 _ rfl) (hq 9 _ rfl) (hq 11 _ rfl) (hq 12 _ rfl) (hq 13 _ rfl) (hq 16 _ rfl) a_0_0_0 a_0_3_0 a_0_8_0 a_0_13_0
          exact run_told' 5 (hy_of (H := [(0, 0, 0, 0), (0, 3, 0, 0), (0, 8, 0, 1), (0, 13, 0, 1), (0, 14, 0, 1), (3, 7, 6, 1), (3, 15, 11, 1), (3, 16, 12, 1)]) hσ lineMeet_wf lineMeet_sz lineMeet_lt lineMeet_cn hq h0 (And.intro (hF a_0_0_0) (And.intro (hF a_0_3_0) (And.intro (hT a_0_8_0) (And.intro (hT a_0_13_0) (And.intro (hT a_0_14_0) (And.intro (hT a_3_7_6) (And.intro (hT a_3_15_11) (And.intro (hT a_3_16_12) trivial))))))))) hcl (by kernel_rfl) lineMeet_r7 ⟨tab, mx⟩ (hA _)
        ·
          have a_3_7_6 : q 7 = q 6 := lineMeet_f20 (q 0) (q 1) (q 2) (q 3) (q 4) (q 5) (q 6) (q 7) (q 8) (q 9) (q 11) (q 13) (hq 6 _ rfl) (hq 7 _ rfl) (hq 8 _ rfl) (hq 9 _ rfl) (hq 11 _ rfl) (hq 13 _ rfl) a_0_0_0 a_0_3_0 a_0_8_0 a_0_13_0
          have a_3_15_11 : ¬ (q 15 = q 11) := lineMeet_f21 (q 0) (q 1) (q 2) (q 3) (q 4) (q 5) (q 6) (q 7) (q 8) (q 9) (q 11) (q 13) (q 15) (hq 6 _ rfl) (hq 7 _ rfl) (hq 8 _ rfl) (hq 9 _ rfl) (hq 11 _ rfl) (hq 13 _ rfl) (hq 15 _ rfl) a_0_0_0 a_0_3_0 a_0_8_0 a_0_13_0
          exact run_told' 5 (hy_of (H := [(0, 0, 0, 0), (0, 3, 0, 0), (0, 8, 0, 1), (0, 13, 0, 0), (3, 7, 6, 1), (3, 15, 11, 0)]) hσ lineMeet_wf lineMeet_sz lineMeet_lt lineMeet_cn hq h0 (And.intro (hF a_0_0_0) (And.intro (hF a_0_3_0) (And.intro (hT a_0_8_0) (And.intro (hF a_0_13_0) (And.intro (hT a_3_7_6) (And.intro (hF a_3_15_11) trivial))))))) hcl (by kernel_rfl) lineMeet_r8 ⟨tab, mx⟩ (hA _)
      ·
        have a_3_7_6 : ¬ (q 7 = q 6) := lineMeet_f22 (q 0) (q 1) (q 3) (q 4) (q 6) (q 7) (q 8) (hq 6 _ rfl) (hq 7 _ rfl) (hq 8 _ rfl) a_0_0_0 a_0_3_0 a_0_8_0
        have a_0_23_0 : q 23 = 0 := lineMeet_f23 (q 0) (q 1) (q 2) (q 3) (q 4) (q 5) (q 6) (q 7) (q 8) (q 9) (q 10) (q 11) (q 12) (q 13) (q 14) (q 17) (q 18) (q 19) (q 20) (q 21) (q 22) (q 23) (hq 6 _ rfl) (hq 7 _ rfl) (hq 8 _ rfl) (hq 9 _ rfl) (hq 10 _ rfl) (hq 11 _ rfl) (hq 12 _ rfl) (hq 13 _ rfl) (hq 14 _ rfl) (hq 17 _ rfl) (hq 18 _ rfl) (hq 19 _ rfl) (hq 20 _ rfl) (hq 21 _ rfl) (hq 22 _ rfl) (hq 23 _ rfl) a_0_0_0 a_0_3_0 a_0_8_0
        have a_0_27_0 : q 27 = 0 := lineMeet_f24 (q 0) (q 1) (q 2) (q 3) (q 4) (q 5) (q 6) (q 7) (q 8) (q 9) (q 10) (q 11) (q 12) (q 13) (q 14) (q 17) (q 18) (q 19) (q 24) (q 25) (q 26) (q 27) (hq 6 _ rfl) (hq 7 _ rfl) (hq 8 _ rfl) (hq 9 _ rfl) (hq 10 _ rfl) (hq 11 _ rfl) (hq 12 _ rfl) (hq 13 _ rfl) (hq 14 _ rfl) (hq 17 _ rfl) (hq 18 _ rfl) (hq 19 _ rfl) (hq 24 _ rfl) (hq 25 _ rfl) (hq 26 _ rfl) (hq 27 _ rfl) a_0_0_0 a_0_3_0 a_0_8_0
        exact run_told' 5 (hy_of (H := [(0, 0, 0, 0), (0, 3, 0, 0), (0, 8, 0, 0), (3, 7, 6, 0), (0, 23, 0, 1), (0, 27, 0, 1)]) hσ lineMeet_wf lineMeet_sz lineMeet_lt lineMeet_cn hq h0 (And.intro (hF a_0_0_0) (And.intro (hF a_0_3_0) (And.intro (hF a_0_8_0) (And.intro (hF a_3_7_6) (And.intro (hT a_0_23_0) (And.intro (hT a_0_27_0) trivial))))))) hcl (by kernel_rfl) lineMeet_r9 ⟨tab, mx⟩ (hA _)
end Go.Proofs.YtldhbbignahgeaaGreatDoor
