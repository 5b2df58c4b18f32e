/- Part 13 of the walks and of the mathematics under them: CFturned MTT. -/
import Derived.Test.YtioacnhbiinjbaaGreatDoorA12
set_option maxHeartbeats 16000000
set_option maxRecDepth 100000
/- CFturned -/
namespace Go.Proofs.YtioacnhbiinjbaaGreatDoor
open Go.RowKit Cx
theorem closed_turned : Closed 19 :=
 closed_told (N := [(0, [0, 0, 1]), (0, [0, 1, 1]), (0, [0, 2, 1]), (3, [2, 0]), (3, [0, 0]), (4, [3, 3]), (4, [4, 4]), (2, [5, 6]), (6, [1, 7]), (4, [3, 8]), (4, [4, 8]), (2, [0, 9]), (2, [0, 10]), (0, [1, 2, 1]), (4, [1, 1]), (4, [0, 0]), (2, [14, 15]), (0, [0, 4, 1]), (4, [17, 0]), (4, [18, 13]), (3, [16, 19]), (5, [0]), (2, [6, 6]), (3, [22, 1]), (5, [23]), (5, [21]), (5, [24]), (5, [1]), (4, [21, 0]), (4, [25, 0]), (4, [28, 2]), (4, [29, 2]), (4, [27, 1]), (4, [21, 25]), (2, [32, 33]), (4, [27, 21]), (4, [25, 1]), (3, [35, 36]), (2, [0, 30]), (2, [0, 31]), (2, [38, 34]), (2, [39, 37]), (5, [25]), (5, [42]), (4, [40, 21]), (4, [41, 43]), (2, [44, 45]), (5, [41]), (4, [40, 42]), (4, [47, 21]), (3, [48, 49]), (4, [21, 1]), (4, [25, 42]), (2, [51, 52]), (4, [42, 1]), (3, [33, 54]), (4, [27, 13]), (4, [21, 13]), (4, [56, 2]), (4, [57, 2]), (2, [0, 53]), (2, [0, 55]), (2, [60, 58]), (2, [61, 59]), (4, [62, 27]), (4, [63, 42]), (2, [64, 65]), (5, [63]), (4, [62, 25]), (4, [67, 27]), (3, [68, 69]), (2, [46, 66]), (2, [50, 70]), (4, [26, 0]), (4, [73, 2]), (4, [0, 1]), (4, [0, 25]), (2, [75, 76]), (4, [0, 21]), (3, [78, 51]), (2, [0, 74]), (2, [80, 77]), (2, [38, 79]), (4, [81, 21]), (4, [82, 43]), (2, [83, 84]), (5, [82]), (4, [81, 42]), (4, [86, 21]), (3, [87, 88]), (4, [26, 1]), (4, [21, 42]), (2, [90, 91]), (4, [26, 25]), (3, [93, 36]), (4, [0, 13]), (4, [95, 2]), (2, [0, 92]), (2, [0, 94]), (2, [97, 96]), (2, [98, 96]), (4, [99, 27]), (4, [100, 42]), (2, [101, 102]), (5, [100]), (4, [99, 25]), (4, [104, 27]), (3, [105, 106]), (2, [85, 103]), (2, [89, 107]), (4, [108, 2]), (4, [109, 2]), (4, [81, 26]), (4, [82, 42]), (2, [112, 113]), (4, [81, 25]), (4, [86, 26]), (3, [115, 116]), (4, [99, 0]), (4, [100, 25]), (2, [118, 119]), (4, [99, 21]), (4, [104, 0]), (3, [121, 122]), (2, [114, 120]), (2, [117, 123]), (8, [0, 71, 110, 111, 124]), (8, [1, 71, 110, 111, 124]), (8, [2, 71, 110, 111, 124]), (8, [3, 71, 110, 111, 124]), (3, [1, 0]), (3, [0, 1]), (4, [130, 0]), (4, [131, 21]), (2, [132, 133]), (5, [131]), (4, [135, 0]), (3, [132, 136]), (5, [134]), (5, [137]), (4, [4, 27]), (2, [132, 140]), (5, [4]), (4, [130, 1]), (4, [142, 0]), (3, [143, 144]), (5, [141]), (5, [145]), (5, [138]), (5, [139]), (5, [130]), (4, [146, 130]), (4, [147, 135]), (2, [151, 152]), (5, [147]), (4, [146, 131]), (4, [154, 130]), (3, [155, 156]), (4, [148, 130]), (4, [149, 142]), (2, [158, 159]), (5, [149]), (4, [148, 4]), (4, [161, 130]), (3, [162, 163]), (2, [153, 160]), (2, [157, 164]), (4, [146, 138]), (4, [147, 149]), (2, [167, 168]), (4, [146, 139]), (4, [154, 138]), (3, [170, 171]), (4, [148, 146]), (4, [149, 154]), (2, [173, 174]), (4, [148, 147]), (4, [161, 146]), (3, [176, 177]), (2, [169, 175]), (2, [172, 178]), (4, [150, 130]), (4, [142, 135]), (2, [181, 182]), (5, [142]), (4, [150, 131]), (4, [184, 130]), (3, [185, 186]), (4, [130, 130]), (4, [131, 142]), (2, [188, 189]), (4, [130, 4]), (4, [135, 130]), (3, [191, 192]), (2, [183, 190]), (2, [187, 193]), (4, [150, 138]), (4, [142, 149]), (2, [196, 197]), (4, [150, 139]), (4, [184, 138]), (3, [199, 200]), (4, [130, 146]), (4, [131, 154]), (2, [202, 203]), (4, [130, 147]), (4, [135, 146]), (3, [205, 206]), (2, [198, 204]), (2, [201, 207]), (5, [166]), (5, [210]), (4, [165, 165]), (4, [166, 211]), (2, [212, 213]), (4, [165, 210]), (4, [210, 165]), (3, [215, 216]), (4, [166, 166]), (2, [212, 218]), (6, [214, 219]), (6, [217, 219]), (4, [179, 165]), (4, [180, 211]), (2, [222, 223]), (5, [180]), (4, [179, 210]), (4, [225, 165]), (3, [226, 227]), (6, [224, 219]), (6, [228, 219]), (4, [194, 165]), (4, [195, 211]), (2, [231, 232]), (5, [195]), (4, [194, 210]), (4, [234, 165]), (3, [235, 236]), (6, [233, 219]), (6, [237, 219]), (4, [208, 165]), (4, [209, 211]), (2, [240, 241]), (5, [209]), (4, [208, 210]), (4, [243, 165]), (3, [244, 245]), (6, [242, 219]), (6, [246, 219]), (0, [0, 1, 2]), (0, [1, 1, 1])]) (H := [(2, 1, 0, 1), (0, 3, 0, 0), (2, 20, 0, 1), (0, 130, 0, 0), (0, 4, 0, 1), (0, 131, 0, 0), (0, 165, 0, 0), (4, 11, 249, 1), (4, 12, 0, 1), (4, 126, 2, 1), (4, 127, 250, 1), (4, 128, 0, 1), (4, 129, 0, 1), (4, 220, 1, 1), (4, 221, 0, 1), (4, 229, 0, 1), (4, 230, 0, 1), (4, 238, 0, 1), (4, 239, 0, 1), (4, 247, 1, 1), (4, 248, 0, 1)]) (K := [(319, [.inr (3, 76, 0, 0, 0), .inr (3, 86, 0, 0, 0)]), (323, [.inr (3, 560, 0, 0, 0), .inr (3, 561, 0, 0, 0)]), (324, [.inr (3, 691, 0, 0, 0), .inr (3, 693, 0, 0, 0)])]) (L := [([48], 0), ([49], 1), ([50], 2), ([45, 50], 13), ([49, 47, 50], 249), ([45, 49], 250)]) (C := [([49, 47, 50], 249), ([48], 0), ([50], 2), ([45, 49], 250), ([49], 1)]) (Z := [2, 2, 3, 6, 5, 12, 10, 23, 25, 31, 30, 34, 33, 3, 4, 4, 9, 4, 6, 9, 19, 2, 21, 24, 24, 2, 24, 2, 4, 4, 7, 7, 4, 4, 9, 4, 4, 9, 10, 10, 20, 20, 2, 2, 22, 22, 45, 20, 22, 22, 45, 4, 4, 9, 4, 9, 5, 5, 8, 8, 12, 12, 21, 21, 23, 23, 47, 21, 23, 23, 47, 93, 93, 26, 29, 4, 4, 9, 4, 9, 32, 42, 20, 44, 22, 67, 20, 44, 22, 67, 26, 4, 31, 26, 31, 5, 8, 34, 34, 43, 43, 45, 45, 91, 43, 45, 45, 91, 159, 159, 162, 162, 66, 22, 89, 44, 44, 89, 45, 45, 91, 45, 45, 91, 181, 181, 906, 906, 906, 906, 5, 5, 7, 7, 15, 5, 7, 15, 15, 15, 7, 15, 5, 7, 7, 15, 15, 15, 15, 15, 5, 20, 20, 41, 15, 20, 20, 41, 20, 20, 41, 15, 20, 20, 41, 83, 83, 30, 30, 61, 30, 30, 61, 30, 30, 61, 30, 30, 61, 123, 123, 10, 10, 21, 5, 10, 10, 21, 10, 10, 21, 10, 10, 21, 43, 43, 20, 20, 41, 20, 20, 41, 20, 20, 41, 20, 20, 41, 83, 83, 83, 83, 166, 166, 333, 166, 166, 333, 166, 333, 666, 666, 206, 206, 413, 123, 206, 206, 413, 746, 746, 126, 126, 253, 43, 126, 126, 253, 586, 586, 166, 166, 333, 83, 166, 166, 333, 666, 666, 3, 2]) (cl := []) 8 (fun _ h => by cases h) (by kernel_rfl) (by kernel_rfl) (by kernel_rfl) (by kernel_rfl) (by kernel_rfl) (by kernel_rfl) (by kernel_rfl)
end Go.Proofs.YtioacnhbiinjbaaGreatDoor
/- MTT -/
namespace Go.Proofs.YtioacnhbiinjbaaGreatDoor
open Go.RowKit Cx
def turnTo_N : List Nd := [(1, [0]), (1, [1]), (1, [2]), (1, [3]), (4, [1, 1]), (4, [2, 2]), (2, [4, 5]), (0, [0, 4, 1]), (4, [7, 0]), (4, [8, 3]), (3, [6, 9]), (8, [0, 1, 2, 3]), (8, [1, 1, 2, 3]), (8, [2, 1, 2, 3]), (4, [12, 1]), (4, [11, 2]), (4, [13, 1]), (4, [11, 3]), (4, [13, 2]), (4, [12, 3]), (0, [1, 2, 1]), (4, [20, 0]), (6, [1, 21]), (6, [2, 21]), (4, [21, 21]), (6, [10, 24]), (0, [0, 0, 1]), (0, [0, 1, 1]), (4, [26, 26]), (2, [28, 28]), (4, [0, 29]), (4, [1, 26]), (4, [2, 26]), (2, [30, 31]), (2, [33, 32]), (2, [34, 3]), (3, [26, 22]), (3, [26, 23]), (4, [36, 36]), (4, [37, 37]), (2, [38, 39]), (3, [40, 25]), (4, [0, 41]), (4, [27, 27]), (2, [43, 28]), (4, [0, 44]), (4, [1, 27]), (2, [45, 46]), (2, [47, 32]), (2, [48, 3]), (3, [27, 22]), (4, [50, 50]), (2, [51, 39]), (3, [52, 25]), (4, [0, 53]), (2, [28, 43]), (4, [0, 55]), (4, [2, 27]), (2, [56, 31]), (2, [58, 57]), (2, [59, 3]), (3, [27, 23]), (4, [61, 61]), (2, [38, 62]), (3, [63, 25]), (4, [0, 64])]
def turnTo_L : List (List Nat × Nat) := []
def turnTo_C : List (List Nat × Nat) := []
def turnTo_Z : List Nat := [4194309, 4194309, 4194309, 4194309, 8388618, 8388618, 16777237, 4, 4194313, 8388622, 25165860, 16777237, 16777237, 16777237, 20971546, 20971546, 20971546, 20971546, 20971546, 20971546, 3, 4194312, 8388621, 8388621, 8388624, 33554484, 2, 2, 4, 9, 4194318, 4194311, 4194311, 8388630, 12582942, 16777252, 8388624, 8388624, 16777248, 16777248, 33554497, 67108982, 71303291, 4, 9, 4194318, 4194311, 8388630, 12582942, 16777252, 8388624, 16777248, 33554497, 67108982, 71303291, 9, 4194318, 4194311, 8388630, 12582942, 16777252, 8388624, 16777248, 33554497, 67108982, 71303291]
theorem turnTo_wf : wfB 0 turnTo_N = true := by kernel_rfl
theorem turnTo_sz : szB turnTo_Z turnTo_N turnTo_Z = true := by kernel_rfl
theorem turnTo_lt : litB turnTo_N turnTo_L = true := by kernel_rfl
theorem turnTo_cn : canB turnTo_N turnTo_C = true := by kernel_rfl
theorem turnTo_c7 : cst 0 4 1 = (4 : Rat) := by decide +kernel
theorem turnTo_c20 : cst 1 2 1 = ((-2) : Rat) := by decide +kernel
theorem turnTo_c26 : cst 0 0 1 = (0 : Rat) := by decide +kernel
theorem turnTo_c27 : cst 0 1 1 = (1 : Rat) := by decide +kernel
theorem turnTo_f0 {z0 z1 z2 z3 z4 z5 z6 z7 z8 z9 z10 : Rat} : z4 = z1 * z1 → z5 = z2 * z2 → z6 = z4 + z5 → z7 = 4 → z8 = z7 * z0 → z9 = z8 * z3 → z10 = z6 - z9 → (0 < z10) → (z0 = 0) → (z1 = 0) → ¬ (z2 = 0) := by
 intro e4 e5 e6 e7 e8 e9 e10 u0 u1 u2
 have s4 := sq_facts z1
 have s5 := sq_facts z2
 subst_vars; grind
theorem turnTo_f1 {z0 z1 z2 z3 z4 z5 z6 z7 z8 z9 z10 z11 : Rat} : z4 = z1 * z1 → z5 = z2 * z2 → z6 = z4 + z5 → z7 = 4 → z8 = z7 * z0 → z9 = z8 * z3 → z10 = z6 - z9 → z11 = z1 * fac [z1, z2, z3] → (0 < z10) → (z0 = 0) → (z1 = 0) → z11 = 0 := by
 intro e4 e5 e6 e7 e8 e9 e10 e11 u0 u1 u2
 have k0_1 : fac [z1, z2, z3] = 0 → z1 = 0 := fac_zero (by simp)
 have k0_2 : fac [z1, z2, z3] = 0 → z2 = 0 := fac_zero (by simp)
 have k0_3 : fac [z1, z2, z3] = 0 → z3 = 0 := fac_zero (by simp)
 generalize fac [z1, z2, z3] = g0 at *
 have s4 := sq_facts z1
 have s5 := sq_facts z2
 subst_vars; grind
theorem turnTo_f2 {z0 z1 z2 z3 z4 z5 z6 z7 z8 z9 z10 z12 : Rat} : z4 = z1 * z1 → z5 = z2 * z2 → z6 = z4 + z5 → z7 = 4 → z8 = z7 * z0 → z9 = z8 * z3 → z10 = z6 - z9 → z12 = z2 * fac [z1, z2, z3] → (0 < z10) → (z0 = 0) → (z1 = 0) → ¬ (z12 = 0) := by
 intro e4 e5 e6 e7 e8 e9 e10 e12 u0 u1 u2
 have k0_1 : fac [z1, z2, z3] = 0 → z1 = 0 := fac_zero (by simp)
 have k0_2 : fac [z1, z2, z3] = 0 → z2 = 0 := fac_zero (by simp)
 have k0_3 : fac [z1, z2, z3] = 0 → z3 = 0 := fac_zero (by simp)
 generalize fac [z1, z2, z3] = g0 at *
 have s4 := sq_facts z1
 have s5 := sq_facts z2
 subst_vars; grind
theorem turnTo_f3 {z0 z1 z2 z3 z4 z5 z6 z7 z8 z9 z10 z11 z12 z14 z15 : Rat} : z4 = z1 * z1 → z5 = z2 * z2 → z6 = z4 + z5 → z7 = 4 → z8 = z7 * z0 → z9 = z8 * z3 → z10 = z6 - z9 → z11 = z1 * fac [z1, z2, z3] → z12 = z2 * fac [z1, z2, z3] → z14 = z12 * z1 → z15 = z11 * z2 → (0 < z10) → (z0 = 0) → (z1 = 0) → z14 = z15 := by
 intro e4 e5 e6 e7 e8 e9 e10 e11 e12 e14 e15 u0 u1 u2
 have k0_1 : fac [z1, z2, z3] = 0 → z1 = 0 := fac_zero (by simp)
 have k0_2 : fac [z1, z2, z3] = 0 → z2 = 0 := fac_zero (by simp)
 have k0_3 : fac [z1, z2, z3] = 0 → z3 = 0 := fac_zero (by simp)
 generalize fac [z1, z2, z3] = g0 at *
 have s4 := sq_facts z1
 have s5 := sq_facts z2
 subst_vars; grind
theorem turnTo_f4 {z0 z1 z2 z3 z4 z5 z6 z7 z8 z9 z10 z11 z13 z16 z17 : Rat} : z4 = z1 * z1 → z5 = z2 * z2 → z6 = z4 + z5 → z7 = 4 → z8 = z7 * z0 → z9 = z8 * z3 → z10 = z6 - z9 → z11 = z1 * fac [z1, z2, z3] → z13 = z3 * fac [z1, z2, z3] → z16 = z13 * z1 → z17 = z11 * z3 → (0 < z10) → (z0 = 0) → (z1 = 0) → z16 = z17 := by
 intro e4 e5 e6 e7 e8 e9 e10 e11 e13 e16 e17 u0 u1 u2
 have k0_1 : fac [z1, z2, z3] = 0 → z1 = 0 := fac_zero (by simp)
 have k0_2 : fac [z1, z2, z3] = 0 → z2 = 0 := fac_zero (by simp)
 have k0_3 : fac [z1, z2, z3] = 0 → z3 = 0 := fac_zero (by simp)
 generalize fac [z1, z2, z3] = g0 at *
 have s4 := sq_facts z1
 have s5 := sq_facts z2
 subst_vars; grind
theorem turnTo_f5 {z0 z1 z2 z3 z4 z5 z6 z7 z8 z9 z10 z12 z13 z18 z19 : Rat} : z4 = z1 * z1 → z5 = z2 * z2 → z6 = z4 + z5 → z7 = 4 → z8 = z7 * z0 → z9 = z8 * z3 → z10 = z6 - z9 → z12 = z2 * fac [z1, z2, z3] → z13 = z3 * fac [z1, z2, z3] → z18 = z13 * z2 → z19 = z12 * z3 → (0 < z10) → (z0 = 0) → (z1 = 0) → z18 = z19 := by
 intro e4 e5 e6 e7 e8 e9 e10 e12 e13 e18 e19 u0 u1 u2
 have k0_1 : fac [z1, z2, z3] = 0 → z1 = 0 := fac_zero (by simp)
 have k0_2 : fac [z1, z2, z3] = 0 → z2 = 0 := fac_zero (by simp)
 have k0_3 : fac [z1, z2, z3] = 0 → z3 = 0 := fac_zero (by simp)
 generalize fac [z1, z2, z3] = g0 at *
 have s4 := sq_facts z1
 have s5 := sq_facts z2
 subst_vars; grind
theorem turnTo_f6 {z0 z1 z2 z3 z4 z5 z6 z7 z8 z9 z10 z11 : Rat} : z4 = z1 * z1 → z5 = z2 * z2 → z6 = z4 + z5 → z7 = 4 → z8 = z7 * z0 → z9 = z8 * z3 → z10 = z6 - z9 → z11 = z1 * fac [z1, z2, z3] → (0 < z10) → (z0 = 0) → (¬ (z1 = 0)) → ¬ (z11 = 0) := by
 intro e4 e5 e6 e7 e8 e9 e10 e11 u0 u1 u2
 have k0_1 : fac [z1, z2, z3] = 0 → z1 = 0 := fac_zero (by simp)
 have k0_2 : fac [z1, z2, z3] = 0 → z2 = 0 := fac_zero (by simp)
 have k0_3 : fac [z1, z2, z3] = 0 → z3 = 0 := fac_zero (by simp)
 generalize fac [z1, z2, z3] = g0 at *
 have s4 := sq_facts z1
 have s5 := sq_facts z2
 subst_vars; grind
theorem turnTo_f7 {z0 z1 z2 z3 z4 z5 z6 z7 z8 z9 z10 z11 z12 z14 z15 : Rat} : z4 = z1 * z1 → z5 = z2 * z2 → z6 = z4 + z5 → z7 = 4 → z8 = z7 * z0 → z9 = z8 * z3 → z10 = z6 - z9 → z11 = z1 * fac [z1, z2, z3] → z12 = z2 * fac [z1, z2, z3] → z14 = z12 * z1 → z15 = z11 * z2 → (0 < z10) → (z0 = 0) → (¬ (z1 = 0)) → z14 = z15 := by
 intro e4 e5 e6 e7 e8 e9 e10 e11 e12 e14 e15 u0 u1 u2
 have k0_1 : fac [z1, z2, z3] = 0 → z1 = 0 := fac_zero (by simp)
 have k0_2 : fac [z1, z2, z3] = 0 → z2 = 0 := fac_zero (by simp)
 have k0_3 : fac [z1, z2, z3] = 0 → z3 = 0 := fac_zero (by simp)
 generalize fac [z1, z2, z3] = g0 at *
 have s4 := sq_facts z1
 have s5 := sq_facts z2
 subst_vars; grind
theorem turnTo_f8 {z0 z1 z2 z3 z4 z5 z6 z7 z8 z9 z10 z11 z13 z16 z17 : Rat} : z4 = z1 * z1 → z5 = z2 * z2 → z6 = z4 + z5 → z7 = 4 → z8 = z7 * z0 → z9 = z8 * z3 → z10 = z6 - z9 → z11 = z1 * fac [z1, z2, z3] → z13 = z3 * fac [z1, z2, z3] → z16 = z13 * z1 → z17 = z11 * z3 → (0 < z10) → (z0 = 0) → (¬ (z1 = 0)) → z16 = z17 := by
 intro e4 e5 e6 e7 e8 e9 e10 e11 e13 e16 e17 u0 u1 u2
 have k0_1 : fac [z1, z2, z3] = 0 → z1 = 0 := fac_zero (by simp)
 have k0_2 : fac [z1, z2, z3] = 0 → z2 = 0 := fac_zero (by simp)
 have k0_3 : fac [z1, z2, z3] = 0 → z3 = 0 := fac_zero (by simp)
 generalize fac [z1, z2, z3] = g0 at *
 have s4 := sq_facts z1
 have s5 := sq_facts z2
 subst_vars; grind
theorem turnTo_f9 {z0 z1 z2 z3 z4 z5 z6 z7 z8 z9 z10 z12 z13 z18 z19 : Rat} : z4 = z1 * z1 → z5 = z2 * z2 → z6 = z4 + z5 → z7 = 4 → z8 = z7 * z0 → z9 = z8 * z3 → z10 = z6 - z9 → z12 = z2 * fac [z1, z2, z3] → z13 = z3 * fac [z1, z2, z3] → z18 = z13 * z2 → z19 = z12 * z3 → (0 < z10) → (z0 = 0) → (¬ (z1 = 0)) → z18 = z19 := by
 intro e4 e5 e6 e7 e8 e9 e10 e12 e13 e18 e19 u0 u1 u2
 have k0_1 : fac [z1, z2, z3] = 0 → z1 = 0 := fac_zero (by simp)
 have k0_2 : fac [z1, z2, z3] = 0 → z2 = 0 := fac_zero (by simp)
 have k0_3 : fac [z1, z2, z3] = 0 → z3 = 0 := fac_zero (by simp)
 generalize fac [z1, z2, z3] = g0 at *
 have s4 := sq_facts z1
 have s5 := sq_facts z2
 subst_vars; grind
theorem turnTo_f10 {z0 z1 z2 z3 z4 z5 z6 z7 z8 z9 z10 z20 z21 z22 z23 z24 z25 z26 z28 z29 z30 z31 z32 z33 z34 z35 z36 z37 z38 z39 z40 z41 z42 : Rat} : z4 = z1 * z1 → z5 = z2 * z2 → z6 = z4 + z5 → z7 = 4 → z8 = z7 * z0 → z9 = z8 * z3 → z10 = z6 - z9 → z20 = (-2) → z21 = z20 * z0 → z22 = z1 / z21 → z23 = z2 / z21 → z24 = z21 * z21 → z25 = z10 / z24 → z26 = 0 → z28 = z26 * z26 → z29 = z28 + z28 → z30 = z0 * z29 → z31 = z1 * z26 → z32 = z2 * z26 → z33 = z30 + z31 → z34 = z33 + z32 → z35 = z34 + z3 → z36 = z26 - z22 → z37 = z26 - z23 → z38 = z36 * z36 → z39 = z37 * z37 → z40 = z38 + z39 → z41 = z40 - z25 → z42 = z0 * z41 → (0 < z10) → (¬ (z0 = 0)) → z35 = z42 := by
 intro e4 e5 e6 e7 e8 e9 e10 e20 e21 e22 e23 e24 e25 e26 e28 e29 e30 e31 e32 e33 e34 e35 e36 e37 e38 e39 e40 e41 e42 u0 u1
 have s4 := sq_facts z1
 have s5 := sq_facts z2
 have s24 := sq_facts z21
 have s28 := sq_facts z26
 have s38 := sq_facts z36
 have s39 := sq_facts z37
 have n21 : z21 ≠ 0 := by grind
 have n24 : z24 ≠ 0 := by (have hp := sq1_pos (x := z21) (by grind)); grind
 subst_vars; grind
theorem turnTo_f11 {z0 z1 z2 z3 z4 z5 z6 z7 z8 z9 z10 z20 z21 z22 z23 z24 z25 z26 z27 z28 z32 z37 z39 z43 z44 z45 z46 z47 z48 z49 z50 z51 z52 z53 z54 : Rat} : z4 = z1 * z1 → z5 = z2 * z2 → z6 = z4 + z5 → z7 = 4 → z8 = z7 * z0 → z9 = z8 * z3 → z10 = z6 - z9 → z20 = (-2) → z21 = z20 * z0 → z22 = z1 / z21 → z23 = z2 / z21 → z24 = z21 * z21 → z25 = z10 / z24 → z26 = 0 → z27 = 1 → z28 = z26 * z26 → z32 = z2 * z26 → z37 = z26 - z23 → z39 = z37 * z37 → z43 = z27 * z27 → z44 = z43 + z28 → z45 = z0 * z44 → z46 = z1 * z27 → z47 = z45 + z46 → z48 = z47 + z32 → z49 = z48 + z3 → z50 = z27 - z22 → z51 = z50 * z50 → z52 = z51 + z39 → z53 = z52 - z25 → z54 = z0 * z53 → (0 < z10) → (¬ (z0 = 0)) → z49 = z54 := by
 intro e4 e5 e6 e7 e8 e9 e10 e20 e21 e22 e23 e24 e25 e26 e27 e28 e32 e37 e39 e43 e44 e45 e46 e47 e48 e49 e50 e51 e52 e53 e54 u0 u1
 have s4 := sq_facts z1
 have s5 := sq_facts z2
 have s24 := sq_facts z21
 have s28 := sq_facts z26
 have s39 := sq_facts z37
 have s43 := sq_facts z27
 have s51 := sq_facts z50
 have n21 : z21 ≠ 0 := by grind
 have n24 : z24 ≠ 0 := by (have hp := sq1_pos (x := z21) (by grind)); grind
 subst_vars; grind
theorem turnTo_f12 {z0 z1 z2 z3 z4 z5 z6 z7 z8 z9 z10 z20 z21 z22 z23 z24 z25 z26 z27 z28 z31 z36 z38 z43 z55 z56 z57 z58 z59 z60 z61 z62 z63 z64 z65 : Rat} : z4 = z1 * z1 → z5 = z2 * z2 → z6 = z4 + z5 → z7 = 4 → z8 = z7 * z0 → z9 = z8 * z3 → z10 = z6 - z9 → z20 = (-2) → z21 = z20 * z0 → z22 = z1 / z21 → z23 = z2 / z21 → z24 = z21 * z21 → z25 = z10 / z24 → z26 = 0 → z27 = 1 → z28 = z26 * z26 → z31 = z1 * z26 → z36 = z26 - z22 → z38 = z36 * z36 → z43 = z27 * z27 → z55 = z28 + z43 → z56 = z0 * z55 → z57 = z2 * z27 → z58 = z56 + z31 → z59 = z58 + z57 → z60 = z59 + z3 → z61 = z27 - z23 → z62 = z61 * z61 → z63 = z38 + z62 → z64 = z63 - z25 → z65 = z0 * z64 → (0 < z10) → (¬ (z0 = 0)) → z60 = z65 := by
 intro e4 e5 e6 e7 e8 e9 e10 e20 e21 e22 e23 e24 e25 e26 e27 e28 e31 e36 e38 e43 e55 e56 e57 e58 e59 e60 e61 e62 e63 e64 e65 u0 u1
 have s4 := sq_facts z1
 have s5 := sq_facts z2
 have s24 := sq_facts z21
 have s28 := sq_facts z26
 have s38 := sq_facts z36
 have s43 := sq_facts z27
 have s62 := sq_facts z61
 have n21 : z21 ≠ 0 := by grind
 have n24 : z24 ≠ 0 := by (have hp := sq1_pos (x := z21) (by grind)); grind
 subst_vars; grind
theorem turnTo_f13 {z0 z1 z2 z3 z4 z5 z6 z7 z8 z9 z10 : Rat} : z4 = z1 * z1 → z5 = z2 * z2 → z6 = z4 + z5 → z7 = 4 → z8 = z7 * z0 → z9 = z8 * z3 → z10 = z6 - z9 → (¬ (0 < z10)) → (z0 = 0) → z1 = 0 := by
 intro e4 e5 e6 e7 e8 e9 e10 u0 u1
 have s4 := sq_facts z1
 have s5 := sq_facts z2
 subst_vars; grind
theorem turnTo_f14 {z0 z1 z2 z3 z4 z5 z6 z7 z8 z9 z10 : Rat} : z4 = z1 * z1 → z5 = z2 * z2 → z6 = z4 + z5 → z7 = 4 → z8 = z7 * z0 → z9 = z8 * z3 → z10 = z6 - z9 → (¬ (0 < z10)) → (z0 = 0) → z2 = 0 := by
 intro e4 e5 e6 e7 e8 e9 e10 u0 u1
 have s4 := sq_facts z1
 have s5 := sq_facts z2
 subst_vars; grind
theorem turnTo_r0 : (callB (sx Tryz.prog turnTo_N [(2, 10, 0, 1), (0, 0, 0, 1), (0, 1, 0, 1), (0, 2, 0, 0), (0, 11, 0, 1), (0, 12, 0, 0), (3, 14, 15, 1), (3, 16, 17, 1), (3, 18, 19, 1)] [] turnTo_L turnTo_C turnTo_Z (prC [19])) 6 4 [(false, [(true, [.inr (2, 0, 0, 0, 0), .inr (2, 1, 0, 0, 0), .inr (2, 2, 0, 0, 0), .inr (2, 3, 0, 0, 0)])])] [] 0).map (·.1) = some (kB true) := by kernel_rfl
theorem turnTo_r1 : (callB (sx Tryz.prog turnTo_N [(2, 10, 0, 1), (0, 0, 0, 1), (0, 1, 0, 0), (0, 11, 0, 0), (3, 14, 15, 1), (3, 16, 17, 1), (3, 18, 19, 1)] [] turnTo_L turnTo_C turnTo_Z (prC [19])) 6 4 [(false, [(true, [.inr (2, 0, 0, 0, 0), .inr (2, 1, 0, 0, 0), .inr (2, 2, 0, 0, 0), .inr (2, 3, 0, 0, 0)])])] [] 0).map (·.1) = some (kB true) := by kernel_rfl
theorem turnTo_r2 : (callB (sx Tryz.prog turnTo_N [(2, 10, 0, 1), (0, 0, 0, 0), (3, 35, 42, 1), (3, 49, 54, 1), (3, 60, 65, 1)] [] turnTo_L turnTo_C turnTo_Z (prC [19])) 6 4 [(false, [(true, [.inr (2, 0, 0, 0, 0), .inr (2, 1, 0, 0, 0), .inr (2, 2, 0, 0, 0), .inr (2, 3, 0, 0, 0)])])] [] 0).map (·.1) = some (kB true) := by kernel_rfl
theorem turnTo_r3 : (callB (sx Tryz.prog turnTo_N [(2, 10, 0, 0), (0, 0, 0, 1), (0, 1, 0, 1), (0, 2, 0, 1)] [] turnTo_L turnTo_C turnTo_Z (prC [19])) 6 4 [(false, [(true, [.inr (2, 0, 0, 0, 0), .inr (2, 1, 0, 0, 0), .inr (2, 2, 0, 0, 0), .inr (2, 3, 0, 0, 0)])])] [] 0).map (·.1) = some (kB true) := by kernel_rfl
theorem turnTo_r4 : (callB (sx Tryz.prog turnTo_N [(2, 10, 0, 0), (0, 0, 0, 0)] [] turnTo_L turnTo_C turnTo_Z (prC [19])) 6 4 [(false, [(true, [.inr (2, 0, 0, 0, 0), .inr (2, 1, 0, 0, 0), .inr (2, 2, 0, 0, 0), .inr (2, 3, 0, 0, 0)])])] [] 0).map (·.1) = some (kB true) := by kernel_rfl
theorem turnTo_walk {w : World} {ga gb gc gd : ByteArray} (sga : ga.size ≤ 1048576) (sgb : gb.size ≤ 1048576) (sgc : gc.size ≤ 1048576) (sgd : gd.size ≤ 1048576) (tab : Tab w) (mx : MaxL w) :
  Calls Tryz.prog 4 #[.agg #[.string ga, .string gb, .string gc, .string gd]] w fun e w' => Below w.heap.size w w' ∧ e = .returned (.bool true) := by
 have hσ : ∀ j, (sgOf [ga, gb, gc, gd] j).size ≤ 1048576 := sgOf_size (by simp [sga, sgb, sgc, sgd])
 have hcl : ∀ f ∈ ([19] : List FuncId), Closed f := by simp [closed_turned]
 obtain ⟨q, hq, h0⟩ := nodes_exist (sgOf [ga, gb, gc, gd]) turnTo_N turnTo_wf
 have hA : ∀ K, A2 (avOn (cOn (evS q (sgOf [ga, gb, gc, gd])) K (fun _ => none) w)) [(false, [(true, [.inr (2, 0, 0, 0, 0), .inr (2, 1, 0, 0, 0), .inr (2, 2, 0, 0, 0), .inr (2, 3, 0, 0, 0)])])] [.agg #[.string ga, .string gb, .string gc, .string gd]] := fun K => ⟨⟨⟨[.string ga, .string gb, .string gc, .string gd], rfl, rfl, rfl, rfl, rfl, trivial⟩, trivial⟩, trivial⟩
 have E4 : q 4 = q 1 * q 1 := hq 4 _ rfl
 have E5 : q 5 = q 2 * q 2 := hq 5 _ rfl
 have E6 : q 6 = q 4 + q 5 := hq 6 _ rfl
 have E7 : q 7 = 4 := (hq 7 _ rfl).trans turnTo_c7
 have E8 : q 8 = q 7 * q 0 := hq 8 _ rfl
 have E9 : q 9 = q 8 * q 3 := hq 9 _ rfl
 have E10 : q 10 = q 6 - q 9 := hq 10 _ rfl
 have E11 : q 11 = q 1 * fac [q 1, q 2, q 3] := hq 11 _ rfl
 have E12 : q 12 = q 2 * fac [q 1, q 2, q 3] := hq 12 _ rfl
 have E13 : q 13 = q 3 * fac [q 1, q 2, q 3] := hq 13 _ rfl
 have E14 : q 14 = q 12 * q 1 := hq 14 _ rfl
 have E15 : q 15 = q 11 * q 2 := hq 15 _ rfl
 have E16 : q 16 = q 13 * q 1 := hq 16 _ rfl
 have E17 : q 17 = q 11 * q 3 := hq 17 _ rfl
 have E18 : q 18 = q 13 * q 2 := hq 18 _ rfl
 have E19 : q 19 = q 12 * q 3 := hq 19 _ rfl
 have E20 : q 20 = (-2) := (hq 20 _ rfl).trans turnTo_c20
 have E21 : q 21 = q 20 * q 0 := hq 21 _ rfl
 have E22 : q 22 = q 1 / q 21 := hq 22 _ rfl
 have E23 : q 23 = q 2 / q 21 := hq 23 _ rfl
 have E24 : q 24 = q 21 * q 21 := hq 24 _ rfl
 have E25 : q 25 = q 10 / q 24 := hq 25 _ rfl
 have E26 : q 26 = 0 := (hq 26 _ rfl).trans turnTo_c26
 have E27 : q 27 = 1 := (hq 27 _ rfl).trans turnTo_c27
 have E28 : q 28 = q 26 * q 26 := hq 28 _ rfl
 have E29 : q 29 = q 28 + q 28 := hq 29 _ rfl
 have E30 : q 30 = q 0 * q 29 := hq 30 _ rfl
 have E31 : q 31 = q 1 * q 26 := hq 31 _ rfl
 have E32 : q 32 = q 2 * q 26 := hq 32 _ rfl
 have E33 : q 33 = q 30 + q 31 := hq 33 _ rfl
 have E34 : q 34 = q 33 + q 32 := hq 34 _ rfl
 have E35 : q 35 = q 34 + q 3 := hq 35 _ rfl
 have E36 : q 36 = q 26 - q 22 := hq 36 _ rfl
 have E37 : q 37 = q 26 - q 23 := hq 37 _ rfl
 have E38 : q 38 = q 36 * q 36 := hq 38 _ rfl
 have E39 : q 39 = q 37 * q 37 := hq 39 _ rfl
 have E40 : q 40 = q 38 + q 39 := hq 40 _ rfl
 have E41 : q 41 = q 40 - q 25 := hq 41 _ rfl
 have E42 : q 42 = q 0 * q 41 := hq 42 _ rfl
 have E43 : q 43 = q 27 * q 27 := hq 43 _ rfl
 have E44 : q 44 = q 43 + q 28 := hq 44 _ rfl
 have E45 : q 45 = q 0 * q 44 := hq 45 _ rfl
 have E46 : q 46 = q 1 * q 27 := hq 46 _ rfl
 have E47 : q 47 = q 45 + q 46 := hq 47 _ rfl
 have E48 : q 48 = q 47 + q 32 := hq 48 _ rfl
 have E49 : q 49 = q 48 + q 3 := hq 49 _ rfl
 have E50 : q 50 = q 27 - q 22 := hq 50 _ rfl
 have E51 : q 51 = q 50 * q 50 := hq 51 _ rfl
 have E52 : q 52 = q 51 + q 39 := hq 52 _ rfl
 have E53 : q 53 = q 52 - q 25 := hq 53 _ rfl
 have E54 : q 54 = q 0 * q 53 := hq 54 _ rfl
 have E55 : q 55 = q 28 + q 43 := hq 55 _ rfl
 have E56 : q 56 = q 0 * q 55 := hq 56 _ rfl
 have E57 : q 57 = q 2 * q 27 := hq 57 _ rfl
 have E58 : q 58 = q 56 + q 31 := hq 58 _ rfl
 have E59 : q 59 = q 58 + q 57 := hq 59 _ rfl
 have E60 : q 60 = q 59 + q 3 := hq 60 _ rfl
 have E61 : q 61 = q 27 - q 23 := hq 61 _ rfl
 have E62 : q 62 = q 61 * q 61 := hq 62 _ rfl
 have E63 : q 63 = q 38 + q 62 := hq 63 _ rfl
 have E64 : q 64 = q 63 - q 25 := hq 64 _ rfl
 have E65 : q 65 = q 0 * q 64 := hq 65 _ rfl
 by_cases a_2_10_0 : 0 < q 10
 ·
  by_cases a_0_0_0 : q 0 = 0
  ·
   by_cases a_0_1_0 : q 1 = 0
   ·
    have a_0_2_0 : ¬ (q 2 = 0) := turnTo_f0 E4 E5 E6 E7 E8 E9 E10 a_2_10_0 a_0_0_0 a_0_1_0
    have a_0_11_0 : q 11 = 0 := turnTo_f1 E4 E5 E6 E7 E8 E9 E10 E11 a_2_10_0 a_0_0_0 a_0_1_0
    have a_0_12_0 : ¬ (q 12 = 0) := turnTo_f2 E4 E5 E6 E7 E8 E9 E10 E12 a_2_10_0 a_0_0_0 a_0_1_0
    have a_3_14_15 : q 14 = q 15 := turnTo_f3 E4 E5 E6 E7 E8 E9 E10 E11 E12 E14 E15 a_2_10_0 a_0_0_0 a_0_1_0
    have a_3_16_17 : q 16 = q 17 := turnTo_f4 E4 E5 E6 E7 E8 E9 E10 E11 E13 E16 E17 a_2_10_0 a_0_0_0 a_0_1_0
    have a_3_18_19 : q 18 = q 19 := turnTo_f5 E4 E5 E6 E7 E8 E9 E10 E12 E13 E18 E19 a_2_10_0 a_0_0_0 a_0_1_0
    exact run_told' 6 (hy_of (H := [(2, 10, 0, 1), (0, 0, 0, 1), (0, 1, 0, 1), (0, 2, 0, 0), (0, 11, 0, 1), (0, 12, 0, 0), (3, 14, 15, 1), (3, 16, 17, 1), (3, 18, 19, 1)]) hσ turnTo_wf turnTo_sz turnTo_lt turnTo_cn hq h0 (And.intro (hT a_2_10_0) (And.intro (hT a_0_0_0) (And.intro (hT a_0_1_0) (And.intro (hF a_0_2_0) (And.intro (hT a_0_11_0) (And.intro (hF a_0_12_0) (And.intro (hT a_3_14_15) (And.intro (hT a_3_16_17) (And.intro (hT a_3_18_19) trivial)))))))))) hcl (by kernel_rfl) turnTo_r0 ⟨tab, mx⟩ (hA _)
   ·
    have a_0_11_0 : ¬ (q 11 = 0) := turnTo_f6 E4 E5 E6 E7 E8 E9 E10 E11 a_2_10_0 a_0_0_0 a_0_1_0
    have a_3_14_15 : q 14 = q 15 := turnTo_f7 E4 E5 E6 E7 E8 E9 E10 E11 E12 E14 E15 a_2_10_0 a_0_0_0 a_0_1_0
    have a_3_16_17 : q 16 = q 17 := turnTo_f8 E4 E5 E6 E7 E8 E9 E10 E11 E13 E16 E17 a_2_10_0 a_0_0_0 a_0_1_0
    have a_3_18_19 : q 18 = q 19 := turnTo_f9 E4 E5 E6 E7 E8 E9 E10 E12 E13 E18 E19 a_2_10_0 a_0_0_0 a_0_1_0
    exact run_told' 6 (hy_of (H := [(2, 10, 0, 1), (0, 0, 0, 1), (0, 1, 0, 0), (0, 11, 0, 0), (3, 14, 15, 1), (3, 16, 17, 1), (3, 18, 19, 1)]) hσ turnTo_wf turnTo_sz turnTo_lt turnTo_cn hq h0 (And.intro (hT a_2_10_0) (And.intro (hT a_0_0_0) (And.intro (hF a_0_1_0) (And.intro (hF a_0_11_0) (And.intro (hT a_3_14_15) (And.intro (hT a_3_16_17) (And.intro (hT a_3_18_19) trivial)))))))) hcl (by kernel_rfl) turnTo_r1 ⟨tab, mx⟩ (hA _)
  ·
   have a_3_35_42 : q 35 = q 42 := turnTo_f10 E4 E5 E6 E7 E8 E9 E10 E20 E21 E22 E23 E24 E25 E26 E28 E29 E30 E31 E32 E33 E34 E35 E36 E37 E38 E39 E40 E41 E42 a_2_10_0 a_0_0_0
   have a_3_49_54 : q 49 = q 54 := turnTo_f11 E4 E5 E6 E7 E8 E9 E10 E20 E21 E22 E23 E24 E25 E26 E27 E28 E32 E37 E39 E43 E44 E45 E46 E47 E48 E49 E50 E51 E52 E53 E54 a_2_10_0 a_0_0_0
   have a_3_60_65 : q 60 = q 65 := turnTo_f12 E4 E5 E6 E7 E8 E9 E10 E20 E21 E22 E23 E24 E25 E26 E27 E28 E31 E36 E38 E43 E55 E56 E57 E58 E59 E60 E61 E62 E63 E64 E65 a_2_10_0 a_0_0_0
   exact run_told' 6 (hy_of (H := [(2, 10, 0, 1), (0, 0, 0, 0), (3, 35, 42, 1), (3, 49, 54, 1), (3, 60, 65, 1)]) hσ turnTo_wf turnTo_sz turnTo_lt turnTo_cn hq h0 (And.intro (hT a_2_10_0) (And.intro (hF a_0_0_0) (And.intro (hT a_3_35_42) (And.intro (hT a_3_49_54) (And.intro (hT a_3_60_65) trivial)))))) hcl (by kernel_rfl) turnTo_r2 ⟨tab, mx⟩ (hA _)
 ·
  by_cases a_0_0_0 : q 0 = 0
  ·
   have a_0_1_0 : q 1 = 0 := turnTo_f13 E4 E5 E6 E7 E8 E9 E10 a_2_10_0 a_0_0_0
   have a_0_2_0 : q 2 = 0 := turnTo_f14 E4 E5 E6 E7 E8 E9 E10 a_2_10_0 a_0_0_0
   exact run_told' 6 (hy_of (H := [(2, 10, 0, 0), (0, 0, 0, 1), (0, 1, 0, 1), (0, 2, 0, 1)]) hσ turnTo_wf turnTo_sz turnTo_lt turnTo_cn hq h0 (And.intro (hF a_2_10_0) (And.intro (hT a_0_0_0) (And.intro (hT a_0_1_0) (And.intro (hT a_0_2_0) trivial))))) hcl (by kernel_rfl) turnTo_r3 ⟨tab, mx⟩ (hA _)
  ·
   exact run_told' 6 (hy_of (H := [(2, 10, 0, 0), (0, 0, 0, 0)]) hσ turnTo_wf turnTo_sz turnTo_lt turnTo_cn hq h0 (And.intro (hF a_2_10_0) (And.intro (hF a_0_0_0) trivial))) hcl (by kernel_rfl) turnTo_r4 ⟨tab, mx⟩ (hA _)
end Go.Proofs.YtioacnhbiinjbaaGreatDoor
